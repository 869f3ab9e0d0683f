import Derived.Test.YtegkhlkjfeafjaaGreatDoorModHead2
import Derived.Test.YtegkhlkjfeafjaaGreatDoorPackE
import Derived.Lib.AppendStr
import Derived.Deep.RegionHeld3
import Derived.Lib.AppendIntMem
namespace Go.Proofs.YtegkhlkjfeafjaaGreatDoor
open Go.RowKit
set_option linter.unusedVariables false
set_option linter.unusedSimpArgs false
set_option maxRecDepth 100000
theorem V0{p:Prop}(h:p:=by kernel_rfl):p:=h
theorem U268{p:Prop}(h:p:=by
 refine ra 8 fun K hK=>?_
 rw[if_pos V0]
 refine kR _ _ rfl base (.slice a2 (nL+t.size) c2) (nL+t.size) (L++sI t) rfl o4 g4 [eH t] 1 1 rfl hr4 V6 hs4 ?_
 intro v6 w6 ho6 hg6
 have k6:=k4.below_row hg6 (o4.free k4 V7)
 have hw6:=hw4.trans (aL.own (x:=some g) o4 hg6)
 have hs6:base<=w6.heap.size:=zF2 hs4 hg6.size
 obtain⟨a6,c6,rfl,_⟩:=ho6.shape
 have q6:=k6.k 0
 have z6:=k6.free 0
 have hne6:=ho6.free k6 V7
 clear o4 k4 hr4 hw4 hs4 hg6
 refine hK.out _ _ trivial (fun Aa=>?_)
 clear hK K
 try simp only[nrm]
 refine ta 9 ?_
 refine ta 10 ?_
 try simp only[nrm]
 have k7:=k6.set (i:=0) (.slice a6 (nL+t.size+1) c6)
 have ho7:=ho6.setOther (g:=g) (i:=0) (u:=.slice a6 (nL+t.size+1) c6) hne6
 have hw7:=hw6.trans (aL.put (base:=base) (g:=g) (i:=0) (w:=w6) (v:=.slice a6 (nL+t.size+1) c6))
 refine ra 11 fun K hK=>?_
 go_simp
 have HP7:Hid (∃v',Pg (w6.setCell ⟨g,0,none⟩ (.slice a6 (nL+t.size+1) c6)) base g (l++aR (ts.take (j+1))) v'):=by
  refine⟨_,k7, ?_,by simp;omega⟩
  have e1:l++aR (ts.take (j+1))=L++sI t++[eH t]:=by rw[HN.out,<-HLe.out];simp
  have e2:(l++aR (ts.take (j+1))).length=nL+t.size+1:=by rw[e1,zA1,zA1,HNL.out,jI];rfl
  rw[e2,e1]
  exact ho7
 have HW7:Hid (aL base (some g) w (w6.setCell ⟨g,0,none⟩ (.slice a6 (nL+t.size+1) c6))):=hw.out.trans hw7
 clear k6 ho6 hw6 hs6 q6 z6 hne6 k7 ho7 hw7
 generalize w6.setCell ⟨g,0,none⟩ (.slice a6 (nL+t.size+1) c6)=w7 at *
 refine hK.out _ _ (trivial) (fun Aa=>?_)
 clear hK K
 try simp only[nrm]
 refine zL0 V0 ?_ _
 go_wp2
 go_roundw
 case rel=>exact⟨j+1,by omega,by go_num,HP7,HW7⟩
 case measure=>simp[intOf];omega):p:=h
theorem U300{p:Prop}(h:p:=by
 go_enter Tryz.func219,Tryz.ntmps219
 go_wp2
 go_ret
 exact⟨aQ he.out.symm,rfl⟩):p:=h
theorem M913{p q:Prop}(k:q)(h:Kx q->p:=by
 intro kQ
 refine ta 0 ?_
 refine ta 1 ?_
 refine ta 2 ?_
 try simp only[nrm]
 exact kQ.o):p:=h ⟨k⟩
theorem M9199{p q:Prop}(k:q)(h:Kx q->p:=by
 intro kQ
 try simp only[nrm]
 have o4:=Own.alloc ho3 (.cells #[.int .u8 (eH t)] 5)
 have k4:=Blk.old hb3 (o:=.cells #[.int .u8 (eH t)] 5)
 have hr4:=qT w4 (eH t) (iP t).1 (iP t).2
 have hw4:aL base (some g) wr (w4.alloc (.cells #[.int .u8 (eH t)] 5)):=hw3.trans (aL.of (aC w4 _ none))
 have hs4:base<=(w4.alloc (.cells #[.int .u8 (eH t)] 5)).heap.size:=by simp;omega
 revert hs4;revert hw4;revert hr4;revert k4;revert o4
 exact kQ.o):p:=h ⟨k⟩
def sI (s:ByteArray):List Int:=s.data.toList.map fun b=>(b.toNat:Int)
theorem aBg (s:ByteArray):∀x ∈ sI s,0<=x/\x<=255:=by
 intro x hx;obtain⟨b,_,rfl⟩:=zE1.1 hx
 have:=b.toNat_lt
 omega
def aIo (o:Option Obj):Prop:=∃cs,o=some (.cells cs 5 (0,0))
structure aL (base:Nat) (x:Option Nat) (w w':World):Prop where
 os:w'.os=w.os
 tape:w'.tape=w.tape
 output:w'.output=w.output
 size:w.heap.size<=w'.heap.size
 block:∀k,k<w.heap.size->(k<base\/¬aIo w.heap[k]?)->some k ≠ x->w'.heap[k]?=w.heap[k]?
theorem aL.refl (base:Nat)(x:Option Nat)(w:World):aL base x w w:=⟨rfl,rfl,rfl,zB0 _,fun _ _ _ _=>rfl⟩
theorem aL.trans {base:Nat}{x:Option Nat}{a b c:World}(h:aL base x a b)(k:aL base x b c):aL base x a c:=
 ⟨k.os.trans h.os,k.tape.trans h.tape,k.output.trans h.output,zF2 h.size k.size,fun i hi ho hx=>by
  have h1:=h.block i hi ho hx
  exact(k.block i (Nat.lt_of_lt_of_le hi h.size) (by rw[h1];exact ho) hx).trans h1⟩
theorem aL.of {base:Nat}{x:Option Nat}{w w':World}(h:w.grownBy w' none):aL base x w w':=
 ⟨h.os,h.tape,h.output,h.size,fun k hk _ _=>h.block k hk V15⟩
theorem aL.own {base:Nat}{x:Option Nat}{w w':World}{v:Value}{n:Nat}{l:List Int}(ho:Own w base v n l)(h:w.grownBy w' v.ownBlock):aL base x w w':=by
 refine⟨h.os,h.tape,h.output,h.size,fun k hk hn _=>h.block k hk (fun e=>?_)⟩
 rcases ho.1.2 with⟨rfl,_⟩|⟨g,cap,cur,rfl,hg,hh,_⟩
 .
  simp[Value.ownBlock]at e
 .
  simp only[Value.ownBlock,zG3]at e;subst e
  rcases hn with hn|hn
  .
   omega
  .
   exact hn ⟨_,hh⟩
theorem aL.below {base:Nat}{x:Option Nat}{w0 w w':World}(h:aL base x w w')(hb:Below w0.heap.size w0 w)(h0:w0.heap.size<=base)(hx:∀k,x=some k->w0.heap.size<=k):Below w0.heap.size w0 w':=
 ⟨h.os.trans hb.os,h.tape.trans hb.tape,h.output.trans hb.output,zF2 hb.size h.size,fun k hk=>(h.block k (Nat.lt_of_lt_of_le hk hb.size) (.inl V6) (fun e=>by have:=hx k e.symm;omega)).trans (hb.block k hk)⟩
theorem aL.blk {base g:Nat}{x:Option Nat}{w w':World}{T:TypeId}{vs:List Value}(h:aL base x w w')(hb:Blk w g T vs)(hT:T ≠ 5)(hx:some g ≠ x):Blk w' g T vs:=by
 refine(h.block g hb.lt (.inr ?_) hx).trans hb;rintro⟨cs,e⟩
 have:=hb.symm.trans e
 simp only[zG3,Obj.cells.injEq]at this;exact hT this.2.1
theorem aL.wide {base:Nat}{w w':World}(h:aL base none w w')(x:Option Nat):aL base x w w':=⟨h.os,h.tape,h.output,h.size,fun k hk ho _=>h.block k hk ho V15⟩
theorem aL.mono {base base':Nat}{x:Option Nat}{w w':World}(h:aL base x w w')(hb:base'<=base):aL base' x w w':=
 ⟨h.os,h.tape,h.output,h.size,fun k hk ho hx=>h.block k hk (ho.imp (fun h=>by omega) id) hx⟩
theorem aL.put {base g i:Nat}{w:World}{v:Value}:aL base (some g) w (w.setCell ⟨g,i,none⟩ v):=
 ⟨rfl,rfl,rfl,by simp,fun k hk _ hne=>heap_setCell_other w ⟨g,i,none⟩ k v (fun e=>hne (by simp at e;rw[e]))⟩
theorem Own.free {w:World}{base g:Nat}{v:Value}{n:Nat}{l:List Int}{T:TypeId}{vs:List Value}(h:Own w base v n l)(hb:Blk w g T vs)(hT:T ≠ 5):v.ownBlock ≠ some g:=by
 intro e
 rcases h.1.2 with⟨rfl,_⟩|⟨k,cap,cur,rfl,hg,hh,_⟩
 .
  simp[Value.ownBlock]at e
 .
  simp only[Value.ownBlock,zG3]at e;subst e
  have:=hb.symm.trans hh
  simp only[zG3,Obj.cells.injEq]at this;exact hT this.2.1
structure Pg (w:World) (base g:Nat) (l:List Int) (v:Value):Prop where
 blk:Blk w g 217 [v]
 own:Own w base v l.length l
 le:base<=w.heap.size
theorem Own.setOther {w:World}{base g i:Nat}{v u:Value}{n:Nat}{l:List Int}(h:Own w base v n l)(hne:v.ownBlock ≠ some g):Own (w.setCell ⟨g,i,none⟩ u) base v n l:=
 h.kept (row:=some g) lX (.inr hne)
theorem Blk.below_row {w w':World}{g:Nat}{T:TypeId}{vs:List Value}{row:Option Nat}(h:Blk w g T vs)(hg:w.grownBy w' row)(hne:row ≠ some g):Blk w' g T vs:=(hg.block g h.lt (fun e=>hne e.symm)).trans h
theorem Pg.grown {w w':World}{base g:Nat}{l:List Int}{v:Value}(h:Pg w base g l v)(hg:w.grownBy w' none):Pg w' base g l v:=
 ⟨h.blk.below (aA hg) h.blk.lt,h.own.below (aA hg),zF2 h.le hg.size⟩
def jB:List (List UInt8):=[[59],[66,69,71,73,78],[84,72,69,78],[69,76,83,69],[68,79]]
def eH (s:ByteArray):Int:=if s.toList ∈ jB then 10 else 32
theorem iP (s:ByteArray):0<=eH s/\eH s<=255:=by unfold eH;split <;> omega
theorem aDh (s:ByteArray)(w:World):Calls Tryz.prog 219 #[.string s] w fun e w'=>e=.returned (.int .u8 (eH s))/\w'=w:=by
 by_cases h0:s.toList=[59]
 .
  have he:Hid (eH s=10):=if_pos (by rw[h0];decide)
  exact U300
 have g0:(s.toList == [59])=false:=by simpa using h0
 by_cases h1:s.toList=[66,69,71,73,78]
 .
  have he:Hid (eH s=10):=if_pos (by rw[h1];decide)
  clear h0;exact U300
 have g1:(s.toList == [66,69,71,73,78])=false:=by simpa using h1
 by_cases h2:s.toList=[84,72,69,78]
 .
  have he:Hid (eH s=10):=if_pos (by rw[h2];decide)
  clear h0 h1;exact U300
 have g2:(s.toList == [84,72,69,78])=false:=by simpa using h2
 by_cases h3:s.toList=[69,76,83,69]
 .
  have he:Hid (eH s=10):=if_pos (by rw[h3];decide)
  clear h0 h1 h2;exact U300
 have g3:(s.toList == [69,76,83,69])=false:=by simpa using h3
 by_cases h4:s.toList=[68,79]
 .
  have he:Hid (eH s=10):=if_pos (by rw[h4];decide)
  clear h0 h1 h2 h3;exact U300
 have g4:(s.toList == [68,79])=false:=by simpa using h4
 have he:Hid (eH s=32):=if_neg (by simp only[jB,zH0,List.not_mem_nil,or_false,not_or];exact⟨h0,h1,h2,h3,h4⟩)
 clear h0 h1 h2 h3 h4;exact U300
theorem kR {w:World}{o:Oper}{a:Act}{K:Act->World->Prop}{Q:Exit->Act->World->Prop}(s x:Operand)
  (ho:o.op=.call { callee:=.builtin .append,args:=#[s,x],argTypes:=#[43,43] })
  (base:Nat) (v:Value) (n:Nat) (l:List Int) (hs:a.eval s=v) (Av:Own w base v n l)
  (g:Nat) (l2:List Int) (m c:Nat) (hx:a.eval x=.slice (some ⟨g,0,none⟩) m c) (hr:bW w (some ⟨g,0,none⟩) m l2) (Bb:n+m<=1099511627776) (hbase:base<=w.heap.size)
  (h:∀v' w',Own w' base v' (n+m) (l++l2)->w.grownBy w' v.ownBlock->K (a.put o.dst v') w'):Oper.wp Tryz.prog o a w K Q:=by
 refine M9136 ?_;intro i0 hi hz0 hz1 hz2 hby
 refine wp_append_own w s x 43 ho base 5 i0 (.int .u8 0) 1 1 Tryz.underlying43 hi hz0 hz1 hz2 rfl V7 v n _ hs Av.1 ⟨g,0,none⟩ m c (l2.map (Value.int .u8)) hx (by simp[hr.1]) ?_ (ints_oneCell _ _) V14 V6 hbase ?_
 .
  exact U295
 .
  exact U191
def iJ (s:ByteArray):List Int:=sI s++[eH s]
def aR (ts:List ByteArray):List Int:=ts.flatMap iJ
theorem kL {w:World}{ops:Array Oper}{rest:List Oper}{o:Oper}{a:Act}{Q:Exit->Act->World->Prop}(hgd:o.guard=none)(s x:Operand)
  (ho:o.op=.call { callee:=.builtin .append,args:=#[s,x],argTypes:=#[43,9] })
  (base:Nat) (v:Value) (n:Nat) (l:List Int) (hs:a.eval s=v) (Av:Own w base v n l)
  (t:ByteArray) (hx:a.eval x=.string t) (Bb:n+t.size<=1099511627776) (hbase:base<=w.heap.size)
  (h:∀v' w',Own w' base v' (n+t.size) (l++sI t)->w.grownBy w' v.ownBlock->wpList Tryz.prog ops Q rest (a.put o.dst v') w'):wpList Tryz.prog ops Q (o :: rest) a w:=by
 obtain⟨i0,hi,hz0,hz1,hz2⟩:=info_parts uQ;refine Lib.wpList_append_own_string w hgd s x 43 9 ho base 5 i0 Tryz.underlying43 Tryz.underlying9 hi hz0 hz1 hz2 v n _ hs Av.1 t hx V14 V6 hbase ?_;intro v' w' ho' hg' _
 refine h v' w' ⟨?_,fun x hx=>(List.mem_append.1 hx).elim (Av.2 x) (aBg t x)⟩ hg'
 have e:(l++sI t).map (Value.int .u8)=l.map (Value.int .u8)++Lib.strCells t:=by
  rw[List.map_append]
  congr 1
  unfold sI Lib.strCells;rw[List.map_map]
  rfl
 rw[e];exact ho'
theorem jI (s:ByteArray):(sI s).length=s.size:=by unfold sI;rw[zB2,Array.length_toList];rfl
theorem oI {ts:List ByteArray}{j:Nat}{t:ByteArray}(h:ts[j]?=some t):aR (ts.take (j+1))=aR (ts.take j)++iJ t:=by
 obtain⟨hk,rfl⟩:=zC1.1 h;unfold aR;rw[zF1 hk,List.flatMap_append]
 simp
theorem uA (ts:List ByteArray)(j:Nat):(aR (ts.take j)).length<=(aR ts).length:=by
 unfold aR
 conv=>rhs;rw[<-List.take_append_drop j ts,List.flatMap_append,zA1]
 omega
set_option maxHeartbeats 4000000 in
theorem eW (ts:List ByteArray)(b m c:Nat)(w:World)(base g:Nat)(l:List Int)(v:Value)(hp:Pg w base g l v)(hm:ts.length=m)(hB:Blk w b 9 (ts.map Value.string))(hbg:b ≠ g)(Bb:l.length+(aR ts).length<=1000000000)(hg:base<=g):
  Calls Tryz.prog 199 #[.pointer (some ⟨g,0,none⟩),.slice (some ⟨b,0,none⟩) m m] w fun e w'=>e=.returned (.tuple #[])/\(∃v',Pg w' base g (l++aR ts) v')/\aL base (some g) w w':=by
 have hts:ts.length<=(aR ts).length:=by
  clear hB hm Bb
  induction ts with
  | nil=>simp
  | cons t ts ih=>simp[aR,iJ]at ih ⊢;omega
 have hmm:m<=1000000000:=V6;have HB:=hid hB;have Hm:=hid hm;have HP:=hid hp;have HS:=hid Bb;clear hB hm hp Bb hts;go_enter Tryz.func199,Tryz.ntmps199;go_wp2_with fail
 go_loopw [5,8] (fun _ i wr=>∃j:Nat,j<=m/\i=.int .i64 j/\Hid (∃v',Pg wr base g (l++aR (ts.take j)) v')/\Hid (aL base (some g) w wr)) (fun _ i _=>m-(intOf i).toNat)
 case atStart=>exact⟨0,zD1 _,rfl,⟨v,by simpa [aR] using HP.out⟩,aL.refl _ _ _⟩
 case round=>
  obtain⟨j,hj,rfl,hp,hw⟩:=hrel
  by_cases Ai:j<m
  .
   obtain⟨v1,hp⟩:=hp.out
   obtain⟨t,ht⟩:∃t,ts[j]?=some t:=⟨ts[j]'(by rw[Hm.out];exact Ai),zA0 _⟩
   have hbk:=(aL.blk hw.out HB.out V7 (by simpa using hbg))
   have q0:wr.cell? ⟨b,j,none⟩=some (.string t):=by exact hbk.cell (by rw[zA2,ht];rfl)
   have q1:=hp.blk.k 0;have z1:=hp.blk.free 0
   have hlen:(l++aR (ts.take j)).length+(iJ t).length<=1000000000:=by
    have h1:=uA ts (j+1);rw[oI ht]at h1;simp only[zA1]at h1 ⊢
    have:=HS.out
    omega
   have hts:(sI t).length+1=(iJ t).length:=by simp[iJ]
   have HN:Hid (aR (ts.take (j+1))=aR (ts.take j)++(sI t++[eH t])):=oI ht
   generalize hL:l++aR (ts.take j)=L at *
   have HLe:Hid (l++aR (ts.take j)=L):=hL
   obtain⟨hk,ho,hle⟩:=hp;clear hL;generalize hnL:L.length=nL at *
   have HNL:Hid (L.length=nL):=hnL
   clear hnL;obtain⟨a1,c1,rfl,_⟩:=ho.shape
   have hst:t.size+1<=(iJ t).length:=by rw[<-jI];omega
   clear ht hbk
   go_wp2_with (at_builtin;refine kL rfl _ _ rfl base _ nL L rfl ho t rfl V6 hle ?_)
   intro v2 w2 ho2 Be;have Ae:=hk.below_row Be (ho.free hk V7);have hw2:=aL.own (x:=some g) ho Be;have q2:=Ae.k 0;have z2:=Ae.free 0;obtain⟨a2,c2,rfl,_⟩:=ho2.shape;have hne2:=ho2.free Ae V7;clear q1 z1 q0;go_upto_region 4 with fail;have hb3:=Ae.set (i:=0) (.slice a2 (nL+t.size) c2);have ho3:=ho2.setOther (g:=g) (i:=0) (u:=.slice a2 (nL+t.size) c2) hne2;have hw3:=hw2.trans (aL.put (base:=base) (g:=g) (i:=0) (w:=w2) (v:=.slice a2 (nL+t.size) c2))
   have hs3:base<=(w2.setCell ⟨g,0,none⟩ (.slice a2 (nL+t.size) c2)).heap.size:=by have:=hw3.size;omega
   generalize w2.setCell ⟨g,0,none⟩ (.slice a2 (nL+t.size) c2)=w3 at *;clear q2 z2 Ae ho2 hw2 Be hne2
   refine zK3 (S:=fun _=>True) V0 trivial (fun Aa=>?_)
   have q3:w3.drew.cell? ⟨g,0,none⟩=some (.slice a2 (nL+t.size) c2):=hb3.k 0
   replace hb3:Blk w3.drew g 217 [.slice a2 (nL+t.size) c2]:=hb3
   replace ho3:Own w3.drew base (.slice a2 (nL+t.size) c2) (nL+t.size) (L++sI t):=ho3
   replace hw3:aL base (some g) wr w3.drew:=⟨hw3.os,hw3.tape,hw3.output,hw3.size,hw3.block⟩
   replace hs3:base<=w3.drew.heap.size:=hs3;generalize w3.drew=w4 at *;refine M913 ?_;refine ta 3 ?_;refine ta 5 ?_;try simp only[nrm]
   refine wpAnyH_ready (rs:=[4,6]) V0 V15 ?_;refine AllReadyH.cons (i:=4) (o:=?oK7) ?iK7 ?gK7 (AllReadyH.cons (i:=6) (o:=?oK8) ?iK8 ?gK8 AllReadyH.nil)
   case iK7=>exact rfl
   case iK8=>exact rfl
   case gK7=>
    intro K hK;go_simp
    refine hK.out _ _ trivial (fun Aa=>?_)
    clear hK K;try simp only[nrm]
    refine wpAnyH_ready (rs:=[6]) V0 V15 ?_;refine AllReadyH.cons (i:=6) (o:=?oK2) ?iK2 ?gK2 AllReadyH.nil
    case iK2=>exact rfl
    case gK2=>
     intro K hK;go_simp
     (with_reducible refine(aDh t _).mono ?_)
     rintro e w4 ⟨rfl,rfl⟩;go_wp2_with fail
     refine hK.out _ _ trivial (fun Aa=>?_)
     clear hK K;try simp only[nrm]
     refine wpAnyH_ready (rs:=[7]) V0 V15 ?_;refine AllReadyH.cons (i:=7) (o:=?oK1) ?iK1 ?gK1 AllReadyH.nil
     case iK1=>exact rfl
     case gK1=>
      intro K hK;go_simp
      refine hK.out _ _ trivial (fun Aa=>?_)
      clear hK K;refine M9199 ?_;intro o4 k4 hr4 hw4 hs4;generalize w4.alloc (.cells #[.int .u8 (eH t)] 5)=w5 at *;generalize w4.heap.size=g4 at *;clear ho3 hb3 hw3 hs3 q3;exact U268
   case gK8=>
    intro K hK;go_simp
    (with_reducible refine(aDh t _).mono ?_)
    rintro e w4 ⟨rfl,rfl⟩;go_wp2_with fail
    refine hK.out _ _ trivial (fun Aa=>?_)
    clear hK K;try simp only[nrm]
    refine wpAnyH_ready (rs:=[4,7]) V0 V15 ?_;refine AllReadyH.cons (i:=4) (o:=?oK5) ?iK5 ?gK5 (AllReadyH.cons (i:=7) (o:=?oK6) ?iK6 ?gK6 AllReadyH.nil)
    case iK5=>exact rfl
    case iK6=>exact rfl
    case gK5=>
     intro K hK;go_simp
     refine hK.out _ _ trivial (fun Aa=>?_)
     clear hK K;try simp only[nrm]
     refine wpAnyH_ready (rs:=[7]) V0 V15 ?_;refine AllReadyH.cons (i:=7) (o:=?oK3) ?iK3 ?gK3 AllReadyH.nil
     case iK3=>exact rfl
     case gK3=>
      intro K hK;go_simp
      refine hK.out _ _ trivial (fun Aa=>?_)
      clear hK K;refine M9199 ?_;intro o4 k4 hr4 hw4 hs4;generalize w4.alloc (.cells #[.int .u8 (eH t)] 5)=w5 at *;generalize w4.heap.size=g4 at *;clear ho3 hb3 hw3 hs3 q3;exact U268
    case gK6=>
     intro K hK;go_simp
     refine hK.out _ _ trivial (fun Aa=>?_)
     clear hK K;try simp only[nrm]
     have q3':=(Blk.old hb3 (o:=.cells #[.int .u8 (eH t)] 5)).k 0;refine wpAnyH_ready (rs:=[4]) V0 V15 ?_;refine AllReadyH.cons (i:=4) (o:=?oK4) ?iK4 ?gK4 AllReadyH.nil
     case iK4=>exact rfl
     case gK4=>
      intro K hK;go_simp
      refine hK.out _ _ trivial (fun Aa=>?_)
      clear hK K;refine M9199 ?_;intro o4 k4 hr4 hw4 hs4;generalize w4.alloc (.cells #[.int .u8 (eH t)] 5)=w5 at *;generalize w4.heap.size=g4 at *;clear ho3 hb3 hw3 hs3 q3 q3';exact U268
  .
   have:j=m:=V6
   subst this;go_wp2_with fail;obtain⟨v',hp⟩:=hp.out
   rw[zD3 (by rw[Hm.out];exact zB0 _)]at hp
   exact bodyPost_end (results_none rfl _ _ _) rfl ⟨rfl,⟨v',hp⟩,hw.out⟩
def fI (n:Int):List Int:=(Lib.itoa n).map fun b=>(b.toNat:Int)
def opI (n:Int):List Int:=if n=0 then [43] else if n=1 then [45] else if n=2 then [42] else if n=3 then [47] else if n=4 then [60] else [61]
def aV (s:List Int):List (List Int)->List Int
 | []=>[]
 | [x]=>x
 | x :: y :: l=>x++s++aV s (y :: l)
def iO (k n:Int)(mod name:List Int)(ts:List (List Int)):List Int:=
 if k=0 then fI n++[32]
 else if k=1 then name++[32]
 else if k=2 then name++[32]++[91,32]++ts[0]?.getD []++[93,32]
 else if k=3 then [40,32]++ts[0]?.getD []++(opI n++[32])++ts[1]?.getD []++[41,32]
 else if k=4 then [73,78,32]
 else if k=5 then [76,69,78,32]++(name++[32])
 else if k=6 then (if mod.length=0 then [] else mod++[32]++[46,32])++(name++[32])++([40,32]++aV [44,32] ts++[41,32])
 else [64,32]++(name++[32])
mutual
def prE:Ex->List Int
 | .mk k n m a ks=>iO k n m a (kC ks)
def kC:List Ex->List (List Int)
 | []=>[]
 | e :: l=>prE e :: kC l
end
theorem kB (l:List Ex):kC l=l.map prE:=by
 induction l with
 | nil=>rfl
 | cons x l ih=>simp[kC,ih]
def fK (k n:Int)(name:List Int)(ts:List (List Int))(body els:List Int):List Int:=
 if k=0 then name++[32]++[58,61,32]++ts[0]?.getD []++[59,10]
 else if k=1 then name++[32]++[91,32]++ts[0]?.getD []++[93,32]++[58,61,32]++ts[1]?.getD []++[59,10]
 else if k=2 then [73,70,32]++ts[0]?.getD []++[84,72,69,78,10]++body++[69,76,83,69,10]++els++[69,78,68,32]++[59,10]
 else if k=3 then [87,72,73,76,69,32]++ts[0]?.getD []++[68,79,10]++body++[69,78,68,32]++[59,10]
 else if k=4 then [82,69,84,85,82,78,32]++ts[0]?.getD []++[59,10]
 else if k=5 then [79,85,84,32]++ts[0]?.getD []++[59,10]
 else if k=6 then [84,82,65,80,32]++(fI n++[32])++[59,10]
 else [67,65,76,76,32]++ts[0]?.getD []++[59,10]
mutual
def prS:St->List Int
 | .mk k n a ks bs es=>fK k n a (kC ks) (prB bs) (prB es)
def prB:List St->List Int
 | []=>[]
 | s :: l=>prS s++prB l
end
def dG (v:Va):List Int:=[86,65,82,32]++(v.name++[32])++(if 0<v.size then [91,32]++(fI v.size++[32])++[93,32] else [])++[59,10]
def nN (a:Pa):List Int:=(if a.arr then [64,32] else [])++(a.name++[32])
def aX (x:List Int):List Int:=[86,65,82,32]++(x++[32])++[59,10]
def fG (x:List Int):List Int:=[73,77,80,79,82,84,32]++(x++[32])++[59,10]
def cG (q:Pr):List Int:=[80,82,79,67,32]++(q.name++[32])++(if q.opn then [42,32] else [])++([40,32]++aV [44,32] (q.params.map nN)++[41,32])++[59,10]++q.locals.flatMap aX++[66,69,71,73,78,10]++prB q.body++([69,78,68,32]++[59,10])
def prM (m:Mo):List Int:=[77,79,68,85,76,69,32]++(m.name++[32])++[59,10]++m.uses.flatMap fG++m.vars.flatMap dG++m.procs.flatMap cG++[69,78,68,32]++[46,10]
theorem aBf {l:List Int}(h:∀x ∈ l,0<=x/\x<=255):sI (strOfNums l)=l:=by
 unfold sI;rw[strOfNums_data];simp only[List.map_map]
 apply List.ext_getElem
 .
  simp
 .
  intro i h1 h2;have hb:=h _ (List.getElem_mem h2);simp only[List.getElem_map,Function.comp_apply,UInt8.toNat_ofNat']
  omega
theorem aLc {l:List Int}(h:∀x ∈ l,0<=x/\x<=255)(hn:l ∉ jB.map fun t=>t.map fun b=>((b.toNat:Nat):Int)):eH (strOfNums l)=32:=by
 unfold eH;rw[if_neg];intro hm
 apply hn
 have:=List.mem_map_of_mem (f:=fun t:List UInt8=>t.map fun b=>((b.toNat:Nat):Int)) hm
 rw[ByteArray.toList_eq]at this;have e:=aBf h;unfold sI at e;rw[e]at this;exact this
theorem aFo {l:List Int}{g:Bool}(hb:∀x ∈ l,0<=x/\x<=255)(h:aK l g=true):eH (strOfNums l)=32:=by
 refine aLc hb fun hm=>?_
 simp only[jB,zI0,List.map_nil,zH0,List.not_mem_nil,or_false]at hm
 have key:∀x:List Int,aK x true=false->aK x false=false->l=x->False:=fun x h1 h2 e=>by
  subst e;cases g
  .
   rw[h2]at h;cases h
  .
   rw[h1]at h;cases h
 rcases hm with e|e|e|e|e
 .
  exact key _ V7 V7 e
 .
  exact key _ V7 V7 e
 .
  exact key _ V7 V7 e
 .
  exact key _ V7 V7 e
 .
  exact key _ V7 V7 e
theorem aEf {l:List Int}{g:Bool}(hb:∀x ∈ l,0<=x/\x<=255)(h:aK l g=true):iJ (strOfNums l)=l++[32]:=by
 unfold iJ;rw[aBf hb,aFo hb h]
theorem aGn (u:Nat):∀b ∈ Lib.decDigits u,b.toNat<=57:=by
 induction u using Nat.strongRecOn with
 | _ u ih=>
  intro b hb;rw[Lib.decDigits]at hb
  split at hb
  .
   simp only[List.mem_singleton]at hb;subst hb;rw[UInt8.toNat_ofNat'];omega
  .
   rcases List.mem_append.1 hb with h|h
   .
    exact ih (u / 10) V6 b h
   .
    simp only[List.mem_singleton]at h;subst h;rw[UInt8.toNat_ofNat'];omega
theorem aDc:∀(k u:Nat),u<10 ^ (k+1)->(Lib.decDigits u).length<=k+1:=by
 intro k
 induction k with
 | zero=>intro u h;rw[Lib.decDigits,dif_pos V6];simp
 | succ k ih=>
  intro u h;rw[Lib.decDigits]
  split
  .
   simp
  .
   have:=ih (u / 10) (by rw[Nat.pow_succ]at h;omega)
   simp only[zA1,List.length_singleton];omega
theorem aIl (n:Int):∀b ∈ Lib.itoa n,b.toNat<=57:=by
 intro b hb;unfold Lib.itoa at hb
 split at hb
 .
  rcases zH0.1 hb with h|h
  .
   subst h;decide
  .
   exact aGn _ b h
 .
  exact aGn _ b hb
theorem iS {n:Int}(h0:-9223372036854775808<=n)(h1:n<=9223372036854775807):(fI n).length<=21:=by
 unfold fI Lib.itoa;rw[zB2]
 split
 .
  have:=aDc 19 n.natAbs V6
  simp only[zB1];omega
 .
  have:=aDc 19 n.toNat V6
  omega
theorem aHx (n:Int):iJ ⟨(Lib.itoa n).toArray⟩=fI n++[32]:=by
 unfold iJ fI sI
 congr 1
 unfold eH;rw[if_neg];rw[ByteArray.toList_eq];intro hm;have hle:=aIl n;simp only[jB,zH0,List.not_mem_nil,or_false]at hm
 rcases hm with e|e|e|e|e
 .
  rw[e]at hle;exact absurd (hle 59 V15) V7
 .
  rw[e]at hle;exact absurd (hle 66 V15) V7
 .
  rw[e]at hle;exact absurd (hle 84 V15) V7
 .
  rw[e]at hle;exact absurd (hle 69 V15) V7
 .
  rw[e]at hle;exact absurd (hle 68 V15) V7
theorem aNt:(exF 0).words=[[110,117,109]]:=by decide
theorem aNs:(exF 1).words=[[110,97,109,101]]:=by decide
theorem aNr:(exF 2).words=[[110,97,109,101],[91],[107,105,100],[93]]:=by decide
theorem aNq:(exF 3).words=[[40],[107,105,100],[111,112],[107,105,100],[41]]:=by decide
theorem aNp:(exF 4).words=[[73,78]]:=by decide
theorem aNo:(exF 5).words=[[76,69,78],[110,97,109,101]]:=by decide
theorem aNn:(exF 6).words=[[109,111,100],[110,97,109,101],[97,114,103,115]]:=by decide
theorem aNm:(exF 7).words=[[64],[110,97,109,101]]:=by decide
theorem aNg:(stF 0).words=[[110,97,109,101],[58,61],[107,105,100],[59]]:=by decide
theorem aNf:(stF 1).words=[[110,97,109,101],[91],[107,105,100],[93],[58,61],[107,105,100],[59]]:=by decide
theorem aNe:(stF 2).words=[[73,70],[107,105,100],[84,72,69,78],[98,111,100,121],[69,76,83,69],[101,108,115,101],[69,78,68],[59]]:=by decide
theorem aNd:(stF 3).words=[[87,72,73,76,69],[107,105,100],[68,79],[98,111,100,121],[69,78,68],[59]]:=by decide
theorem aNc:(stF 4).words=[[82,69,84,85,82,78],[107,105,100],[59]]:=by decide
theorem aNb:(stF 5).words=[[79,85,84],[107,105,100],[59]]:=by decide
theorem aNa:(stF 6).words=[[84,82,65,80],[110,117,109],[59]]:=by decide
theorem aM9:(stF 7).words=[[67,65,76,76],[99,97,108,108],[59]]:=by decide
theorem sG:aR [⟨#[91]⟩]=[91,32]:=by simp[aR,iJ,sI,eH,jB,ByteArray.toList_eq]
theorem aOt:aR [⟨#[93]⟩]=[93,32]:=by simp[aR,iJ,sI,eH,jB,ByteArray.toList_eq]
theorem pQ:aR [⟨#[40]⟩]=[40,32]:=by simp[aR,iJ,sI,eH,jB,ByteArray.toList_eq]
theorem pP:aR [⟨#[41]⟩]=[41,32]:=by simp[aR,iJ,sI,eH,jB,ByteArray.toList_eq]
theorem sH:aR [⟨#[73,78]⟩]=[73,78,32]:=by simp[aR,iJ,sI,eH,jB,ByteArray.toList_eq]
theorem mW:aR [⟨#[76,69,78]⟩]=[76,69,78,32]:=by simp[aR,iJ,sI,eH,jB,ByteArray.toList_eq]
theorem aBj:aR [⟨#[64]⟩]=[64,32]:=by simp[aR,iJ,sI,eH,jB,ByteArray.toList_eq]
theorem lN:aR [⟨#[58,61]⟩]=[58,61,32]:=by simp[aR,iJ,sI,eH,jB,ByteArray.toList_eq]
theorem dP:aR [⟨#[59]⟩]=[59,10]:=by simp[aR,iJ,sI,eH,jB,ByteArray.toList_eq]
theorem sJ:aR [⟨#[73,70]⟩]=[73,70,32]:=by simp[aR,iJ,sI,eH,jB,ByteArray.toList_eq]
theorem jK:aR [⟨#[84,72,69,78]⟩]=[84,72,69,78,10]:=by simp[aR,iJ,sI,eH,jB,ByteArray.toList_eq]
theorem jN:aR [⟨#[69,76,83,69]⟩]=[69,76,83,69,10]:=by simp[aR,iJ,sI,eH,jB,ByteArray.toList_eq]
theorem eM:aR [⟨#[69,78,68]⟩]=[69,78,68,32]:=by simp[aR,iJ,sI,eH,jB,ByteArray.toList_eq]
theorem iA:aR [⟨#[87,72,73,76,69]⟩]=[87,72,73,76,69,32]:=by simp[aR,iJ,sI,eH,jB,ByteArray.toList_eq]
theorem sK:aR [⟨#[68,79]⟩]=[68,79,10]:=by simp[aR,iJ,sI,eH,jB,ByteArray.toList_eq]
theorem aN5:aR [⟨#[82,69,84,85,82,78]⟩]=[82,69,84,85,82,78,32]:=by simp[aR,iJ,sI,eH,jB,ByteArray.toList_eq]
theorem mV:aR [⟨#[79,85,84]⟩]=[79,85,84,32]:=by simp[aR,iJ,sI,eH,jB,ByteArray.toList_eq]
theorem jJ:aR [⟨#[84,82,65,80]⟩]=[84,82,65,80,32]:=by simp[aR,iJ,sI,eH,jB,ByteArray.toList_eq]
theorem jO:aR [⟨#[67,65,76,76]⟩]=[67,65,76,76,32]:=by simp[aR,iJ,sI,eH,jB,ByteArray.toList_eq]
theorem aKj:aR [⟨#[46]⟩]=[46,32]:=by simp[aR,iJ,sI,eH,jB,ByteArray.toList_eq]
theorem vS:aR [⟨#[44]⟩]=[44,32]:=by simp[aR,iJ,sI,eH,jB,ByteArray.toList_eq]
theorem aKl:aR [⟨#[43]⟩]=[43,32]:=by simp[aR,iJ,sI,eH,jB,ByteArray.toList_eq]
theorem aKk:aR [⟨#[45]⟩]=[45,32]:=by simp[aR,iJ,sI,eH,jB,ByteArray.toList_eq]
theorem aF6:aR [⟨#[42]⟩]=[42,32]:=by simp[aR,iJ,sI,eH,jB,ByteArray.toList_eq]
theorem aKi:aR [⟨#[47]⟩]=[47,32]:=by simp[aR,iJ,sI,eH,jB,ByteArray.toList_eq]
theorem aKh:aR [⟨#[60]⟩]=[60,32]:=by simp[aR,iJ,sI,eH,jB,ByteArray.toList_eq]
theorem aKg:aR [⟨#[61]⟩]=[61,32]:=by simp[aR,iJ,sI,eH,jB,ByteArray.toList_eq]
theorem jL:aR [⟨#[77,79,68,85,76,69]⟩]=[77,79,68,85,76,69,32]:=by simp[aR,iJ,sI,eH,jB,ByteArray.toList_eq]
theorem jM:aR [⟨#[73,77,80,79,82,84]⟩]=[73,77,80,79,82,84,32]:=by simp[aR,iJ,sI,eH,jB,ByteArray.toList_eq]
theorem iB:aR [⟨#[86,65,82]⟩]=[86,65,82,32]:=by simp[aR,iJ,sI,eH,jB,ByteArray.toList_eq]
theorem oH:aR [⟨#[80,82,79,67]⟩]=[80,82,79,67,32]:=by simp[aR,iJ,sI,eH,jB,ByteArray.toList_eq]
theorem iC:aR [⟨#[66,69,71,73,78]⟩]=[66,69,71,73,78,10]:=by simp[aR,iJ,sI,eH,jB,ByteArray.toList_eq]
theorem cD {l:List Int}{g:Bool}(hb:∀x ∈ l,0<=x/\x<=255)(h:aK l g=true):aR [strOfNums l]=l++[32]:=by
 unfold aR;rw[List.flatMap_singleton];exact aEf hb h
theorem gU (n:Int):aR [⟨(Lib.itoa n).toArray⟩]=fI n++[32]:=by
 unfold aR;rw[List.flatMap_singleton];exact aHx n
theorem aIm (n:Int)(h0:-9223372036854775808<=n)(h1:n<=9223372036854775807)(w:World)(ht:kQ w):
  Calls Tryz.prog 220 #[.int .i64 n] w fun e w'=>e=.returned (.string ⟨(Lib.itoa n).toArray⟩)/\w.grownBy w' none:=by
 refine(Tryz.strconv_Itoa n h0 h1 w ht.p10).mono ?_;rintro e w' ⟨rfl,k,os,rfl⟩;exact⟨rfl,aI (Lib.below_grow w.heap.size w (zB0 _) k os) none⟩
def aGb (mod:List Int):List Int:=if mod.length=0 then [] else mod++[32]++[46,32]
theorem aNj (mod:List Int)(a:Option Addr)(c:Nat)(w:World)(base g:Nat)(l:List Int)(v:Value)(h:bW w a mod.length mod)(hp:Pg w base g l v)(hg:base<=g)(hok:mod.length=0\/aK mod true=true)(Bb:l.length+(aGb mod).length<=1000000000):
  Calls Tryz.prog 262 #[.pointer (some ⟨g,0,none⟩),.slice a mod.length c] w fun e w'=>e=.returned (.tuple #[])/\(∃v',Pg w' base g (l++aGb mod) v')/\aL base (some g) w w':=by
 by_cases h0:mod.length=0
 .
  have he:Hid (aGb mod=[]):=if_pos h0
  rw[h0];go_enter Tryz.func262,Tryz.ntmps262;go_wp2_with fail
  have Bq:∃v',Pg w base g (l++aGb mod) v':=⟨v,by rw[he.out];simpa using hp⟩
  exact bodyPost_end (results_none rfl _ _ _) rfl ⟨rfl,Bq,aL.refl _ _ _⟩
 .
  have he:aGb mod=mod++[32]++[46,32]:=if_neg h0
  have hnm:aK mod true=true:=hok.resolve_left h0
  have hpn:=cD (g:=true) h.2.1 hnm
  have Af:aR [strOfNums mod,⟨#[46]⟩]=mod++[32]++[46,32]:=by
   have h2:=aKj;unfold aR at hpn h2 ⊢;rw[List.flatMap_cons,h2];simp only[List.flatMap_cons,List.flatMap_nil,List.append_nil]at hpn;rw[hpn]
  have kc:=aT c h;have hgl:=hp.blk.lt
  have HQ:=eW [strOfNums mod,⟨#[46]⟩] w.heap.size 2 2 (w.alloc (.cells #[.string (strOfNums mod),.string ⟨#[46]⟩] 9)) base g _ _ (hp.grown (aC w _ none)) rfl (Blk.new w 9 [.string (strOfNums mod),.string ⟨#[46]⟩]) V6 (by rw[Af,<-he];exact Bb) hg
  rw[Af,<-he]at HQ;have Am:(0:Int)<(mod.length:Int):=V6;go_enter Tryz.func262,Tryz.ntmps262;go_wp2_with fail;refine HQ.mono ?_;rintro e w1 ⟨rfl,Bq,hq⟩;go_wp2_with fail;exact bodyPost_end (results_none rfl _ _ _) rfl ⟨rfl,Bq,(aL.of (aC w (.cells #[.string (strOfNums mod),.string ⟨#[46]⟩] 9) none)).trans hq⟩
theorem U297{p:Prop}(h:p:=by
 go_enter Tryz.func191,Tryz.ntmps191
 go_wp2
 go_ret
 exact⟨⟨_,rfl,by decide⟩,yy⟩):p:=h
def Dig (n:Int):Prop:=∀w:World,Calls Tryz.prog 120 #[.int .i64 n] w fun e w'=>∃v,e=.returned v/\Own w' w.heap.size v (fI n).length (fI n)/\w.grownBy w' none
theorem aB1 {u:Nat}(h:u<10):fI u=[48+(u:Int)]:=by
 unfold fI Lib.itoa;rw[if_neg V6,Int.toNat_natCast,Lib.decDigits,dif_pos h];simp only[zI0,List.map_nil,UInt8.toNat_ofNat']
 congr 1
 omega
theorem aH9 {u:Nat}(h:¬u<10):fI u=fI ((u / 10:Nat):Int)++[48+((u % 10:Nat):Int)]:=by
 unfold fI Lib.itoa;rw[if_neg V6,if_neg V6,Int.toNat_natCast,Int.toNat_natCast,Lib.decDigits,dif_neg h,List.map_append];simp only[zI0,List.map_nil,UInt8.toNat_ofNat']
 congr 2
 omega
theorem aH8 {n:Int}(h:n<0):fI n=45 :: fI (-n):=by
 unfold fI Lib.itoa
 rw[if_pos h,if_neg V6,show(-n).toNat=n.natAbs by omega]
 rfl
theorem sU {w wa wb wc:World}{v:Value}{n:Nat}{l:List Int}(h1:w.grownBy wa none)(h2:wa.grownBy wb none)(ho:Own wb w.heap.size v n l)(h3:wb.grownBy wc v.ownBlock):w.grownBy wc none:=by
 have h12:=aD h1 h2
 refine⟨h3.os.trans h12.os,h3.tape.trans h12.tape,h3.output.trans h12.output,zF2 h12.size h3.size,fun k hk _=>?_⟩
 refine(h3.block k (Nat.lt_of_lt_of_le hk h12.size) (fun e=>?_)).trans (h12.block k hk V15)
 have:=(ho.1.lt k e.symm).1
 omega
theorem aDa (u:Nat)(h:u<10):Dig u:=by
 intro w;have h1:¬(u:Int)<0:=V6;have h2:(u:Int)<10:=V6
 have he:Hid (fI u=[48+(u:Int)]):=aB1 h
 clear h;generalize (u:Int)=n at *
 have ho:Own (w.alloc (.cells #[.int .u8 (48+n)] 5)) w.heap.size (.slice (some ⟨w.heap.size,0,none⟩) 1 1) 1 [48+n]:=jP (l:=[48+n]) (zJ3 w _) (zB0 _) (by simp[maxLen]) V52
 have yy:=aC w (.cells #[.int .u8 (48+n)] 5) none;go_enter Tryz.func120,Tryz.ntmps120;go_wp2;go_ret;rw[he.out];exact⟨_,rfl,ho,yy⟩
theorem aI8 (u:Nat)(h:¬u<10)(hm:u<9223372036854775808)(ih:Dig ((u / 10:Nat):Int)):Dig u:=by
 intro w;have hl:=iS (n:=((u / 10:Nat):Int)) V6 V6;have h1:¬(u:Int)<0:=V6;have h2:¬(u:Int)<10:=V6
 have he:Hid (fI u=fI ((u / 10:Nat):Int)++[48+((u % 10:Nat):Int)]):=aH9 h
 have hd:Int.tdiv (u:Int) 10=((u / 10:Nat):Int):=by rw[Int.tdiv_eq_ediv_of_nonneg V6];omega
 have hm2:Int.tmod (u:Int) 10=((u % 10:Nat):Int):=by rw[Int.tmod_eq_emod_of_nonneg V6];omega
 have r1:((u % 10:Nat):Int)<10:=V6
 have r0:0<=((u % 10:Nat):Int):=V6
 have H:=ih w;have hb:(u:Int)<=9223372036854775807:=V6
 have hw:wrap64 ((u / 10:Nat):Int)=((u / 10:Nat):Int):=by unfold wrap64;omega
 generalize ((u % 10:Nat):Int)=r at *;generalize ((u / 10:Nat):Int)=q at *;clear h hm ih;generalize (u:Int)=n at *;go_enter Tryz.func120,Tryz.ntmps120;go_wp2_with fail;refine H.mono ?_;rintro e w1 ⟨v,rfl,ho,hg⟩
 obtain⟨nq,hnq⟩:∃z,z=(fI q).length:=⟨_,rfl⟩
 rw[<-hnq]at ho hl
 have hlen:Hid ((fI q++[48+r]).length=nq+1):=by show _=_;rw[zA1,<-hnq];rfl
 clear hnq;obtain⟨a1,c1,rfl,_⟩:=ho.shape;have Be:=aC w1 (.cells #[.int .u8 (48+r)] 5) none;clear H
 go_wp2_with (at_builtin;refine kN rfl _ _ rfl w.heap.size _ nq (fI q) rfl (ho.alloc _) _ 1 1 [48+r] rfl (qT w1 (48+r) V6 V6) V15 V6 (by have:=hg.size;have:=Be.size;omega) ?_)
 intro v2 w2 ho2 hg3
 have hf:w.grownBy w2 none:=sU hg Be (ho.alloc _) hg3
 clear hg Be hg3;go_wp2;go_ret;rw[he.out,hlen.out];exact⟨_,rfl,ho2,hf⟩
theorem aDb:∀(u:Nat),u<9223372036854775808->Dig u:=by
 intro u
 induction u using Nat.strongRecOn with
 | _ u ih=>
  intro hu
  by_cases h:u<10
  .
   exact aDa u h
  .
   exact aI8 u h hu (ih (u / 10) V6 V6)
theorem aI7 (n:Int)(h:n<0)(hm:-9223372036854775808<n)(ih:Dig (-n)):Dig n:=by
 intro w;have hl:=iS (n:=-n) V6 V6
 have he:Hid (fI n=45 :: fI (-n)):=aH8 h
 have H:=ih (w.alloc (.cells #[.int .u8 45] 5))
 have ho:Own (w.alloc (.cells #[.int .u8 45] 5)) w.heap.size (.slice (some ⟨w.heap.size,0,none⟩) 1 1) 1 [45]:=jP (l:=[45]) (zJ3 w _) (zB0 _) (by simp[maxLen]) V15
 have yy:=aC w (.cells #[.int .u8 45] 5) none
 have hw:wrap64 (-n) = -n:=by unfold wrap64;omega
 clear ih;go_enter Tryz.func120,Tryz.ntmps120;go_wp2_with fail;refine H.mono ?_;rintro e w1 ⟨v,rfl,hod,hg⟩;replace ho:=ho.below (aA hg);generalize w.alloc (.cells #[.int .u8 45] 5)=wa at *
 obtain⟨nq,hnq⟩:∃z,z=(fI (-n)).length:=⟨_,rfl⟩
 rw[<-hnq]at hod hl
 have hlen:Hid ((45 :: fI (-n)).length=1+nq):=by show _=_;rw[zB1,<-hnq];omega
 clear hnq;obtain⟨a1,c1,rfl,hM⟩:=hod.made (aA hg);clear H
 go_wp2_with (at_builtin;refine kN rfl _ _ rfl w.heap.size _ 1 [45] rfl ho a1 nq c1 (fI (-n)) rfl hM.row hM.nil V6 (by have:=yy.size;have:=hg.size;omega) ?_)
 intro v2 w2 ho2 hg3
 have hf:w.grownBy w2 none:=sU yy hg ho hg3
 go_wp2;go_ret;rw[he.out,hlen.out];exact⟨_,rfl,ho2,hf⟩
theorem dig (n:Int)(h0:-9223372036854775808<n)(h1:n<=9223372036854775807):Dig n:=by
 by_cases h:n<0
 .
  refine aI7 n h h0 ?_
  have:=aDb (-n).toNat V6
  rwa [show(((-n).toNat:Nat):Int) = -n by omega]at this
 .
  have:=aDb n.toNat V6
  rwa [show((n.toNat:Nat):Int)=n by omega]at this
theorem aIf (n:Int)(h:n=0\/n=1\/n=2\/n=3\/n=4\/n=5)(w:World):
  Calls Tryz.prog 191 #[.int .i64 n] w fun e w'=>(∃s,e=.returned (.string s)/\sI s=opI n)/\w.grownBy w' none:=by
 have yy:=aC w (.cells #[.string ⟨#[43]⟩,.string ⟨#[45]⟩,.string ⟨#[42]⟩,.string ⟨#[47]⟩,.string ⟨#[60]⟩,.string ⟨#[61]⟩] 9) none
 rcases h with rfl|rfl|rfl|rfl|rfl|rfl
 .
  exact U297
 .
  exact U297
 .
  exact U297
 .
  exact U297
 .
  exact U297
 .
  exact U297
end Go.Proofs.YtegkhlkjfeafjaaGreatDoor

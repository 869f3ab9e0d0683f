import Derived.Test.YtnelibmaancmkaaGreatDoorPackK
namespace Go.Proofs.YtnelibmaancmkaaGreatDoor
set_option maxHeartbeats 1000000
open Go.RowKit
def pK (w:World)(a:Option Addr)(n:Nat)(l:List Int):Prop:=
 l.length=n/\(∀x ∈ l, -9223372036854775808<=x/\x<=9223372036854775807)/\(0<n->∃b off,a=some ⟨b,off,none⟩/\∀i,i<n->w.cell? ⟨b,off+i,none⟩=some (.int .i64 (l[i]?.getD 0)))
theorem pK.below {w w':World}{a:Option Addr}{n:Nat}{l:List Int}(h:pK w a n l)(hb:Below w.heap.size w w'):pK w' a n l:=by
 exact U97
theorem aGg {l:List Int}(h:∀x ∈ l, -9223372036854775808<=x/\x<=9223372036854775807)(i:Nat):-9223372036854775808<=l[i]?.getD 0/\l[i]?.getD 0<=9223372036854775807:=by
 exact U114
def aFx (w:World)(base:Nat)(v:Value)(n:Nat)(l:List Int):Prop:=
 w.ownsRow base 3 1 v n (l.map (Value.int .i64))/\∀x ∈ l, -9223372036854775808<=x/\x<=9223372036854775807
theorem aFx.below {w w':World}{base:Nat}{v:Value}{n:Nat}{l:List Int}(h:aFx w base v n l)(hb:Below w.heap.size w w'):aFx w' base v n l:=by
 exact U89
theorem aFx.shape {w:World}{base:Nat}{v:Value}{n:Nat}{l:List Int}(h:aFx w base v n l):
  ∃a c,v=.slice a n c/\n<=c/\c<=maxLen/\pK w a n l/\∀k,v.ownBlock=some k->base<=k/\k<w.heap.size:=by
 have Ai:=h.1.lt;exact U41
theorem aKx:(Tryz.prog.info? 3).map (fun i=>(i.zero,i.size,i.bytes))=some (some (.int .i64 0),1,8):=by kernel_rfl
theorem vC {w wr:World}{g n k:Nat}{l m:List Int}(hl:l.length=n)(hm:m.length=n)(hk:k<n)(hB:w.heap.size<=g)
  (Av:wr.ownsRow w.heap.size 3 1 (.slice (some ⟨g,0,none⟩) n n) n ((l.take k++m.drop k).map (Value.int .i64))) (hb:Below w.heap.size w wr):
  (wr.setCell ⟨g,k,none⟩ (.int .i64 (l[k]?.getD 0))).ownsRow w.heap.size 3 1 (.slice (some ⟨g,0,none⟩) n n) n ((l.take (k+1)++m.drop (k+1)).map (Value.int .i64))/\Below w.heap.size w (wr.setCell ⟨g,k,none⟩ (.int .i64 (l[k]?.getD 0))):=by
 refine⟨?_,hb.setCell hB _⟩
 have:=(Av.stored k (.int .i64 (l[k]?.getD 0))).1
 rwa [aGc _ _ _ _ V6 V6]at this
theorem toI (a:Option Addr)(n c:Nat)(l:List Int)(w:World)(h:pK w a n l)(hn:n<=1048576):
  Calls Tryz.prog 173 #[.slice a n c] w fun e w'=>∃v,e=.returned v/\v=.slice (some ⟨w.heap.size,0,none⟩) n n/\aFx w' w.heap.size v n l/\Below w.heap.size w w':=by
 obtain⟨i0,hi,hz0,hz1,hz2⟩:=info_parts aKx;obtain⟨hl,hby,hcells⟩:=h
 have Hl:Hid (l.length=n):=hl
 clear hl
 have hv:∀wr:World,Hid (wr.ownsRow w.heap.size 3 1 (.slice (some ⟨w.heap.size,0,none⟩) n n) n ((l.take n++(List.replicate n 0).drop n).map (Value.int .i64)))->aFx wr w.heap.size (.slice (some ⟨w.heap.size,0,none⟩) n n) n l:=by
  exact U102
 have HV:=hv;clear hv hby
 rcases Nat.eq_zero_or_pos n with h0|Am
 .
  subst h0;clear hcells;go_enter Tryz.func173,Tryz.ntmps173
  go_wp2_with (at_make;refine wpList_make_full _ rfl _ _ 102 rfl w.heap.size 3 i0 (.int .i64 0) 1 Tryz.underlying102 hi hz0 hz1 _ _ _ _ 0 rfl rfl rfl rfl V50 V14 (Nat.le_refl _) ?_)
  intro w1 Av At
  have hb:Below w.heap.size w w1:=(Below.refl _ _).grown At (Nat.le_refl _) V76
  have hown':Hid (w1.ownsRow w.heap.size 3 1 (.slice (some ⟨w.heap.size,0,none⟩) 0 0) 0 ((l.take 0++(List.replicate 0 0).drop 0).map (Value.int .i64))):=by
   show World.ownsRow _ _ _ _ _ _ _
   have e:(madeCells #[Value.int IntKind.i64 0] 0).toList=List.replicate 0 (Value.int IntKind.i64 0):=toList_madeCells_one _ _
   rw[e]at Av
   simpa using Av
  exact U124
 .
  obtain⟨b,off,rfl,hc⟩:=hcells Am;have hbl:b<w.heap.size:=World.block_lt_of_cell? w _ (hc 0 Am);go_enter Tryz.func173,Tryz.ntmps173
  go_wp2_with (at_make;refine wpList_make_full _ rfl _ _ 102 rfl w.heap.size 3 i0 (.int .i64 0) 1 Tryz.underlying102 hi hz0 hz1 _ _ _ _ n rfl rfl rfl rfl V50 V14 (Nat.le_refl _) ?_)
  intro w1 Av At
  have hb:Below w.heap.size w w1:=(Below.refl _ _).grown At (Nat.le_refl _) V76
  have hown':w1.ownsRow w.heap.size 3 1 (.slice (some ⟨w.heap.size,0,none⟩) n n) n ((l.take 0++(List.replicate n 0).drop 0).map (Value.int .i64)):=by
   have e:(madeCells #[Value.int IntKind.i64 0] n).toList=List.replicate n (Value.int IntKind.i64 0):=toList_madeCells_one _ _
   rw[e]at Av
   simpa using Av
  have HO:=hown';clear Av At hown';go_wp2
  go_loopw [4] (fun i wr=>∃k:Nat,k<=n/\i=.int .i64 k/\Hid (wr.ownsRow w.heap.size 3 1 (.slice (some ⟨w.heap.size,0,none⟩) n n) n ((l.take k++(List.replicate n 0).drop k).map (Value.int .i64)))/\Below w.heap.size w wr) (fun i _=>n-(intOf i).toNat)
  case atStart=>exact⟨0,Nat.zero_le _,rfl,HO,hb⟩
  case round=>
   obtain⟨k,hk,rfl,Av,Au⟩:=hrel;clear HO hb
   by_cases Ai:k<n
   .
    have hcx:wr.cell? ⟨b,off+k,none⟩=some (.int .i64 (l[k]?.getD 0)):=(Au.cell (by exact hbl)).trans (hc k Ai)
    have hcy:∃u,wr.cell? ⟨w.heap.size,k,none⟩=some u:=by
     exact U153
    obtain⟨u,hcy⟩:=hcy
    have hfy:wr.frozen? ⟨w.heap.size,k,none⟩=false:=Av.out.frozenAt k
    have R:=vC Hl.out (List.length_replicate) Ai (Nat.le_refl _) Av.out Au;exact U108
   .
    go_wp2;go_ret
    have:k=n:=V6
    subst this;exact⟨_,rfl,rfl,HV _ Av,Au⟩
theorem aMi (a:Option Addr)(n c:Nat)(l:List Int)(w:World)(h:pK w a n l)(hn:n<=1048576):
  Calls Tryz.prog 173 #[.slice a n c] w fun e w'=>e=.returned (.slice (some ⟨w.heap.size,0,none⟩) n n)/\aFx w' w.heap.size (.slice (some ⟨w.heap.size,0,none⟩) n n) n l/\pK w' (some ⟨w.heap.size,0,none⟩) n l/\Below w.heap.size w w'/\w.heap.size<w'.heap.size:=by
 refine(toI a n c l w h hn).mono ?_;exact U92
theorem eqI (a1:Option Addr)(n1 c1:Nat)(l1:List Int)(a2:Option Addr)(n2 c2:Nat)(l2:List Int)(w:World)(h1:pK w a1 n1 l1)(h2:pK w a2 n2 l2)(hn:n1<=1073741824):
  Calls Tryz.prog 201 #[.slice a1 n1 c1,.slice a2 n2 c2] w fun e w'=>e=.returned (.bool (decide (l1=l2)))/\∃k,w'=w.drewN k:=by
 obtain⟨hl1,hby1,hc1⟩:=h1;obtain⟨hl2,hby2,hc2⟩:=h2
 have Hl1:Hid (l1.length=n1):=hl1
 have Hl2:Hid (l2.length=n2):=hl2
 clear hl1 hl2
 by_cases hne:n1=n2
 .
  subst hne
  rcases Nat.eq_zero_or_pos n1 with h0|Am
  .
   subst h0
   have hd:decide (l1=l2)=true:=by
    exact U118
   have HD:Hid _:=hd
   clear hd hc1 hc2 hby1 hby2;go_enter Tryz.func201,Tryz.ntmps201;exact U148
  .
   obtain⟨b1,o1,rfl,hd1⟩:=hc1 Am;obtain⟨b2,o2,rfl,hd2⟩:=hc2 Am;clear hc1 hc2;go_enter Tryz.func201,Tryz.ntmps201;go_wp2
   go_loopw [5] (fun i wr=>∃k:Nat,k<=n1/\i=.int .i64 k/\Hid (l1.take k=l2.take k)/\∃d,wr=w.drewN d) (fun i _=>n1-(intOf i).toNat)
   case atStart=>exact⟨0,Nat.zero_le _,rfl,by simp[Hid],0,rfl⟩
   case round=>
    obtain⟨k,hk,rfl,heq,d,rfl⟩:=hrel
    by_cases Ai:k<n1
    .
     have hx1:=hd1 k Ai;have hx2:=hd2 k Ai;have Aj:=aGg hby1 k;have Ae:=aGg hby2 k;exact U25
    .
     exact U81
 .
  have hd:Hid (decide (l1=l2)=false):=by
   exact U137
  have hneq:((n1:Int) != (n2:Int))=true:=by simp;omega
  clear hne;go_enter Tryz.func201,Tryz.ntmps201;go_wp2;go_ret;exact⟨aE hd.out.symm,0,rfl⟩
end Go.Proofs.YtnelibmaancmkaaGreatDoor

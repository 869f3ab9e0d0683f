import Derived.Test.YtnelibmaancmkaaGreatDoorTreeTo
import Derived.Test.YtnelibmaancmkaaGreatDoorTreeSz
namespace Go.Proofs.YtnelibmaancmkaaGreatDoor
set_option maxHeartbeats 8000000
open Go.RowKit
set_option linter.unusedVariables false
set_option linter.unusedSimpArgs false
set_option maxRecDepth 100000
theorem V55{p:Prop}(h:p:=by have:=hZ (f:=fun x=>[Fl.b x]) hx;simp only[aH,Fl.len]at this;unfold bH at h;omega):p:=h
theorem U11{p:Prop}(h:p:=by
 subst h0
 clear Ao hn
 go_wp2_with fail
 refine wp_loop_rounds 1 ?_
 rw[rounds_succ]
 go_wp2_with fail
 go_ret
 obtain⟨vs,rest,ht⟩:=H1.out
 exact⟨_,_,rfl,ht.done Hd.out V14,ht.below⟩):p:=h
theorem U16{p:Prop}(h:p:=by
 have hcs:=(HT.out.call Ae).cells Ai
 obtain⟨v0,k0⟩:=hcs 0 V6
 have z0:=(HT.out.call Ae).blk.free (j*2+0)
 obtain⟨v1,k1⟩:=hcs 1 V6
 have z1:=(HT.out.call Ae).blk.free (j*2+1)
 clear hcs hh Ae HC HT HK q0 q1
 simp only[Nat.add_zero,Nat.mul_one]at k0 z0 k1 z1
 go_wp2_with fail
 go_roundw
 case rel=>exact⟨j+1,by omega,by go_num,⟨_,_,HS.out⟩⟩
 case measure=>simp[intOf];omega):p:=h
theorem U21{p:Prop}(h:p:=by
 have:j=n:=V6
 subst this
 go_wp2_with fail
 go_ret
 obtain⟨vs,rest,ht⟩:=ht.out
 exact⟨_,_,rfl,ht.done Hd.out V14,ht.below⟩):p:=h
theorem U26{p:Prop}(h:p:=by
 go_wp2_with fail
 go_roundw
 case rel=>exact⟨j+1,by omega,by go_num,⟨_,_,HS.out⟩⟩
 case measure=>simp[intOf];omega):p:=h
theorem U121{p:Prop}(h:p:=by
 simp only[bJ,Fl.Has]at h
 obtain⟨u0,_,_,rfl,_,_,⟨g0,rfl,_⟩,u1,_,_,rfl,_,_,rfl,rfl⟩:=h
 exact⟨g0,_,rfl⟩):p:=h
def ToF (F:Nat)(f:Fl):Prop:=∀(w:World) (v:Value),f.Rd w v->ToV w F f v
def ToR (F K:Nat)(r:List Fl):Prop:=∀(w:World) (vs:List Value),aO w r vs->∀w1:World,Below w.heap.size w w1->Calls Tryz.prog F #[.agg vs.toArray] w1 fun e w'=>∃us,e=.returned (.agg (List.toArray us))/\us.length=K/\bJ w' w1.heap.size w'.heap.size r us/\Below w1.heap.size w1 w'
theorem aHw {w:World}{lo hi:Nat}{f:Fl}{u:Value}(h:f.Has w lo hi u)(hl:lo<=hi:=by omega):bJ w lo hi [f] [u]:=by
 unfold bJ;refine⟨u,[],hi,rfl,hl,Nat.le_refl _,h, ?_⟩;unfold bJ;rfl
theorem Blk.setAll {g:Nat}{T:TypeId}:∀(us:List Value) {W:World} {pre old post:List Value},Blk W g T (pre++old++post)->old.length=us.length->Blk (setAll W g pre.length us) g T (pre++us++post):=by
 intro us
 induction us with
 | nil=>intro W pre old post h hl;have:old=[]:=List.eq_nil_of_length_eq_zero hl;subst this;exact h
 | cons u us ih=>
  intro W pre old post h hl
  cases old with
  | nil=>simp at hl
  | cons x old=>
   have h1:=h.set (i:=pre.length) u
   have e:(pre++x :: old++post).set pre.length u=(pre++[u])++old++post:=by simp
   rw[e]at h1
   have h2:=ih h1 (by simpa using hl)
   have e2:(pre++[u]).length=pre.length+1:=by simp
   rw[e2]at h2
   simpa [Go.Proofs.YtnelibmaancmkaaGreatDoor.setAll] using h2
structure TL (w wr:World) (T K n j:Nat) (rs:List (List Fl)) (vs rest:List Value):Prop where
 len:rest.length=(n-j)*K
 blk:Blk wr w.heap.size T (vs++rest)
 has:bQ wr K (w.heap.size+1) wr.heap.size (rs.take j) vs
 lenr:rs.length=n
 leqj:j<=n
 below:Below w.heap.size w wr
theorem TL.start {w wr:World}{T K n:Nat}{rs:List (List Fl)}{xs:List Value}(hn:rs.length=n)(h:wr.ownsRow w.heap.size T K (.slice (some ⟨w.heap.size,0,none⟩) n n) n xs)(hg:w.grownBy wr none):∃vs rest,TL w wr T K n 0 rs vs rest:=by
 have hl:=h.1
 rcases h.2 with⟨h',_⟩|⟨g',cap,cur,h',_,hgb,_,_,hs,ht⟩
 .
  simp at h'
 .
  simp only[Value.slice.injEq,Option.some.injEq,Addr.mk.injEq,and_true,true_and]at h';obtain⟨rfl,rfl⟩:=h';rw[List.take_of_length_le V52]at ht
  refine⟨[],xs,by simpa using hl, ?_, ?_,hn,Nat.zero_le _,(Below.refl _ _).grown hg (Nat.le_refl _) V76⟩
  .
   show wr.heap[w.heap.size]?=_
   rw[hgb,<-ht];simp
  .
   rw[List.take_zero];unfold bQ;rfl
theorem TL.vlen {w wr:World}{T K n j:Nat}{rs:List (List Fl)}{vs rest:List Value}(h:TL w wr T K n j rs vs rest):vs.length=j*K:=by
 rw[h.has.len,List.length_take,h.lenr,Nat.min_eq_left h.leqj]
theorem TL.call {w w1 w2:World}{T K n j:Nat}{rs:List (List Fl)}{vs rest:List Value}(h:TL w w1 T K n j rs vs rest)(hb:Below w1.heap.size w1 w2):TL w w2 T K n j rs vs rest:=
 ⟨h.len,h.blk.below hb h.blk.lt,(h.has.stays (gG.of hb (Nat.le_refl _))).wide (Nat.le_refl _) hb.size,h.lenr,h.leqj,h.below.trans (hb.mono h.below.size)⟩
theorem TL.cells {w wr:World}{T K n j:Nat}{rs:List (List Fl)}{vs rest:List Value}(h:TL w wr T K n j rs vs rest)(hj:j<n):∀i,i<K->∃v,wr.cell? ⟨w.heap.size,j*K+i,none⟩=some v:=by
 intro i hi;have hv:=h.vlen;have hr:=h.len;have hp:K<=(n-j)*K:=Nat.le_mul_of_pos_left K V6;have Ai:i<rest.length:=V6;refine⟨rest[i],h.blk.cell ?_⟩;rw[List.getElem?_append_right V6,hv,Nat.add_sub_cancel_left];exact List.getElem?_eq_getElem Ai
theorem TL.step {w w1 w2:World}{T K n j:Nat}{rs:List (List Fl)}{vs rest us:List Value}{r:List Fl}(h:TL w w1 T K n j rs vs rest)(hj:j<n)(hb:Below w1.heap.size w1 w2)(hr:rs[j]?=some r)(hl:us.length=K)(hh:bJ w2 w1.heap.size w2.heap.size r us):
  TL w (setAll w2 w.heap.size (j*K) us) T K n (j+1) rs (vs++us) (rest.drop K):=by
 have h2:=h.call hb;have hv:=h.vlen;have hp:K<=(n-j)*K:=Nat.le_mul_of_pos_left K V6;have hrl:=h.len
 have Aj:Blk (setAll w2 w.heap.size (j*K) us) w.heap.size T ((vs++us)++rest.drop K):=by
  have e:vs++rest=vs++rest.take K++rest.drop K:=by rw[List.append_assoc,List.take_append_drop]
  have:=h2.blk
  rw[e]at this
  have h3:=this.setAll us (by rw[List.length_take,hl];omega)
  rw[hv]at h3;exact h3
 have hlt1:=h.blk.lt
 have hrow:bQ w2 K (w.heap.size+1) w2.heap.size (rs.take (j+1)) (vs++us):=by
  obtain⟨hk,e⟩:=List.getElem?_eq_some_iff.1 hr;rw[List.take_succ_eq_append_getElem hk,e];exact(h.has.stays (gG.of hb (Nat.le_refl _))).snoc hh hl V6 hb.size
 have key:∀(l:List Value) (W:World) (i:Nat),Below w.heap.size w W->bQ W K (w.heap.size+1) w2.heap.size (rs.take (j+1)) (vs++us)->Below w.heap.size w (setAll W w.heap.size i l)/\bQ (setAll W w.heap.size i l) K (w.heap.size+1) w2.heap.size (rs.take (j+1)) (vs++us):=by
  intro l
  induction l with
  | nil=>intro W i a b;exact⟨a,b⟩
  | cons v l ih=>intro W i a b;exact ih _ _ (a.setCell V15 v) (b.stays (gG.put (.inl V6)))
 obtain⟨k1,k2⟩:=key us w2 (j*K) h2.below hrow
 refine⟨?_,Aj, ?_,h.lenr,by omega,k1⟩
 .
  rw[List.length_drop,hrl]
  have:n-j=(n-(j+1))+1:=V6
  rw[this,Nat.add_mul];omega
 .
  rw[oF];exact k2
theorem TL.done {w wr:World}{T K n:Nat}{rs:List (List Fl)}{vs rest:List Value}(h:TL w wr T K n n rs vs rest)(hn:rs.length=n)(hm:n<=maxLen):(Fl.l K rs).Has wr w.heap.size wr.heap.size (.slice (some ⟨w.heap.size,0,none⟩) n n):=by
 have hr:rest=[]:=List.eq_nil_of_length_eq_zero (by rw[h.len];simp)
 have hb:=h.blk;have hh:=h.has;rw[hr,List.append_nil]at hb;rw[List.take_of_length_le V6]at hh;unfold Fl.Has
 exact⟨w.heap.size,vs,T,by rw[hn],Nat.le_refl _,h.blk.lt,hb,by omega,hh⟩
theorem aEd {w:World}{lo hi:Nat}{us:List Value}{x0:List Int}{x1:Int}(h:bJ w lo hi (Va.fl ⟨x0,x1⟩) us):
  ∃g0 m0,us=[.slice (some ⟨g0,0,none⟩) m0 m0,.int .i64 x1]:=by
 unfold Va.fl at h;exact U121
theorem aEx:(Tryz.prog.info? 125).map (fun i=>(i.zero,i.size,i.bytes))=some (some (.agg #[.slice none 0 0,.int .i64 0]),2,32):=by kernel_rfl
theorem aG5 (l:List Va)(hlen:(l.map Va.fl).length<=1048576)(H:∀x ∈ l,ToR 77 2 (Va.fl x)):ToF 32 (.l 2 (l.map Va.fl)):=by
 intro w0 v hv w Ar;obtain⟨a,c,rfl,Ao⟩:=(hv.below Ar).list;clear hv Ar
 have hm:(l.map Va.fl).length=l.length:=by simp[aJ,aM,bH]
 have Ap:∀j,j<l.length->∃x ∈ l,(l.map Va.fl)[j]?=some (Va.fl x):=by
  exact U9
 generalize hrs:l.map Va.fl=rs at Ao hm Ap hlen ⊢;clear hrs;rw[<-hm]at Ap;generalize hn:rs.length=n at Ao Ap hlen ⊢;clear hm;obtain⟨i0,hi,hz0,hz1,hz2⟩:=info_parts aEx
 have Hd:Hid (rs.length=n):=hn
 have HL:Hid (aS w a c 2 rs):=Ao
 have HA:Hid (∀j,j<n->∃x ∈ l,rs[j]?=some (Va.fl x)):=Ap
 have HH:Hid (∀x ∈ l,ToR 77 2 (Va.fl x)):=H
 clear Ap H;go_enter Tryz.func32,Tryz.ntmps32
 go_wp2_with (at_make;refine wpList_make_full _ rfl _ _ 32 rfl w.heap.size 125 i0 _ 2 Tryz.underlying32 hi hz0 hz1 _ _ _ _ n rfl rfl rfl rfl V50 V14 (Nat.le_refl _) ?_)
 intro w1 Av At
 have H1:Hid (∃vs rest,TL w w1 125 2 n 0 rs vs rest):=TL.start Hd.out Av At
 clear Av At
 rcases Nat.eq_zero_or_pos n with h0|Am
 .
  exact U11
 .
  obtain⟨b,off,rfl⟩:=Ao.addr V19;clear Ao hn;go_wp2_with fail
  go_loopw [4] (fun i wr=>∃j:Nat,j<=n/\i=.int .i64 j/\Hid (∃vs rest,TL w wr 125 2 n j rs vs rest)) (fun i _=>n-(intOf i).toNat)
  case atStart=>exact⟨0,Nat.zero_le _,rfl,H1⟩
  case round=>
   obtain⟨j,hj,rfl,ht⟩:=hrel;clear H1
   by_cases Ai:j<n
   .
    obtain⟨vs0,rest,ht⟩:=ht.out;obtain⟨x,hx,Ak⟩:=HA.out j Ai
    obtain⟨vs,Ad,Ab⟩:=((show aS w (some ⟨b,off,none⟩) c 2 rs from HL.out).below ht.below |>.el Ak).vals
    skip
    have HC:=HH.out x hx wr vs Ad wr (Below.refl _ _)
    have HT:Hid _:=ht
    have HK:Hid _:=Ak
    clear ht Ak;generalize hfl:(Va.fl x)=fx at HC HK;obtain⟨x0,x1⟩:=x;obtain⟨y0,_,rfl,⟨a0,c0,rfl,d0⟩,y1,_,rfl,rfl,rfl⟩:=Ad
    skip
    have q0:wr.cell? ⟨b,off+j*2,none⟩=some _:=Ab 0 _ rfl
    have q1:wr.cell? ⟨b,off+j*2+1,none⟩=some _:=Ab 1 _ rfl
    clear Ab d0 hx
    have HF:Hid _:=hfl;clear hfl
    go_wp2_with fail;refine HC.mono ?_;rintro e w2 ⟨us,rfl,hl,hh,Ae⟩;obtain⟨g0,m0_,hus⟩:=aEd (HF.out ▸ hh);subst hus
    have HS:Hid _:=HT.out.step (us:=[.slice (some ⟨g0,0,none⟩) m0_ m0_,.int .i64 x1]) Ai Ae HK.out rfl hh
    exact U16
   .
    exact U21
theorem yT {w:World}{lo hi:Nat}{us:List Value}{x0:List Int}{x1:Bool}(h:bJ w lo hi (Pa.fl ⟨x0,x1⟩) us):
  ∃g0 m0,us=[.slice (some ⟨g0,0,none⟩) m0 m0,.bool x1]:=by
 unfold Pa.fl at h;exact U121
theorem zK:(Tryz.prog.info? 128).map (fun i=>(i.zero,i.size,i.bytes))=some (some (.agg #[.slice none 0 0,.bool false]),2,32):=by kernel_rfl
theorem aAt (l:List Pa)(hlen:(l.map Pa.fl).length<=1048576)(H:∀x ∈ l,ToR 171 2 (Pa.fl x)):ToF 124 (.l 2 (l.map Pa.fl)):=by
 intro w0 v hv w Ar;obtain⟨a,c,rfl,Ao⟩:=(hv.below Ar).list;clear hv Ar
 have hm:(l.map Pa.fl).length=l.length:=by simp[aJ,aM,bH]
 have Ap:∀j,j<l.length->∃x ∈ l,(l.map Pa.fl)[j]?=some (Pa.fl x):=by
  exact U9
 generalize hrs:l.map Pa.fl=rs at Ao hm Ap hlen ⊢;clear hrs;rw[<-hm]at Ap;generalize hn:rs.length=n at Ao Ap hlen ⊢;clear hm;obtain⟨i0,hi,hz0,hz1,hz2⟩:=info_parts zK
 have Hd:Hid (rs.length=n):=hn
 have HL:Hid (aS w a c 2 rs):=Ao
 have HA:Hid (∀j,j<n->∃x ∈ l,rs[j]?=some (Pa.fl x)):=Ap
 have HH:Hid (∀x ∈ l,ToR 171 2 (Pa.fl x)):=H
 clear Ap H;go_enter Tryz.func124,Tryz.ntmps124
 go_wp2_with (at_make;refine wpList_make_full _ rfl _ _ 69 rfl w.heap.size 128 i0 _ 2 Tryz.underlying69 hi hz0 hz1 _ _ _ _ n rfl rfl rfl rfl V50 V14 (Nat.le_refl _) ?_)
 intro w1 Av At
 have H1:Hid (∃vs rest,TL w w1 128 2 n 0 rs vs rest):=TL.start Hd.out Av At
 clear Av At
 rcases Nat.eq_zero_or_pos n with h0|Am
 .
  exact U11
 .
  obtain⟨b,off,rfl⟩:=Ao.addr V19;clear Ao hn;go_wp2_with fail
  go_loopw [4] (fun i wr=>∃j:Nat,j<=n/\i=.int .i64 j/\Hid (∃vs rest,TL w wr 128 2 n j rs vs rest)) (fun i _=>n-(intOf i).toNat)
  case atStart=>exact⟨0,Nat.zero_le _,rfl,H1⟩
  case round=>
   obtain⟨j,hj,rfl,ht⟩:=hrel;clear H1
   by_cases Ai:j<n
   .
    obtain⟨vs0,rest,ht⟩:=ht.out;obtain⟨x,hx,Ak⟩:=HA.out j Ai
    obtain⟨vs,Ad,Ab⟩:=((show aS w (some ⟨b,off,none⟩) c 2 rs from HL.out).below ht.below |>.el Ak).vals
    skip
    have HC:=HH.out x hx wr vs Ad wr (Below.refl _ _)
    have HT:Hid _:=ht
    have HK:Hid _:=Ak
    clear ht Ak;generalize hfl:(Pa.fl x)=fx at HC HK;obtain⟨x0,x1⟩:=x;obtain⟨y0,_,rfl,⟨a0,c0,rfl,d0⟩,y1,_,rfl,rfl,rfl⟩:=Ad
    skip
    have q0:wr.cell? ⟨b,off+j*2,none⟩=some _:=Ab 0 _ rfl
    have q1:wr.cell? ⟨b,off+j*2+1,none⟩=some _:=Ab 1 _ rfl
    clear Ab d0 hx
    have HF:Hid _:=hfl;clear hfl
    go_wp2_with fail;refine HC.mono ?_;rintro e w2 ⟨us,rfl,hl,hh,Ae⟩;obtain⟨g0,m0_,hus⟩:=yT (HF.out ▸ hh);subst hus
    have HS:Hid _:=HT.out.step (us:=[.slice (some ⟨g0,0,none⟩) m0_ m0_,.bool x1]) Ai Ae HK.out rfl hh
    exact U16
   .
    exact U21
theorem aBd {w:World}{lo hi:Nat}{us:List Value}{x0:Int}{x1:Int}{x2:List Int}{x3:List Int}{x4:List Ex}(h:bJ w lo hi (Ex.fl ⟨x0,x1,x2,x3,x4⟩) us):
  ∃g2 m2 g3 m3 g4 m4,us=[.int .i64 x0,.int .i64 x1,.slice (some ⟨g2,0,none⟩) m2 m2,.slice (some ⟨g3,0,none⟩) m3 m3,.slice (some ⟨g4,0,none⟩) m4 m4]:=by
 unfold Ex.fl at h;simp only[bJ,Fl.Has]at h;obtain⟨u0,_,_,rfl,_,_,rfl,u1,_,_,rfl,_,_,rfl,u2,_,_,rfl,_,_,⟨g2,rfl,_⟩,u3,_,_,rfl,_,_,⟨g3,rfl,_⟩,u4,_,_,rfl,_,_,⟨g4,_,_,rfl,_⟩,rfl⟩:=h;exact⟨g2,_,g3,_,g4,_,rfl⟩
theorem aCc:(Tryz.prog.info? 135).map (fun i=>(i.zero,i.size,i.bytes))=some (some (.agg #[.int .i64 0,.int .i64 0,.slice none 0 0,.slice none 0 0,.slice none 0 0]),5,88):=by kernel_rfl
theorem vN (l:List Ex)(hlen:(exs l).length<=1048576)(H:∀x ∈ l,ToR 230 5 (Ex.fl x)):ToF 211 (.l 5 (exs l)):=by
 intro w0 v hv w Ar;obtain⟨a,c,rfl,Ao⟩:=(hv.below Ar).list;clear hv Ar
 have hm:(exs l).length=l.length:=by simp[aJ,aM,bH]
 have Ap:∀j,j<l.length->∃x ∈ l,(exs l)[j]?=some (Ex.fl x):=by
  exact U9
 generalize hrs:exs l=rs at Ao hm Ap hlen ⊢;clear hrs;rw[<-hm]at Ap;generalize hn:rs.length=n at Ao Ap hlen ⊢;clear hm;obtain⟨i0,hi,hz0,hz1,hz2⟩:=info_parts aCc
 have Hd:Hid (rs.length=n):=hn
 have HL:Hid (aS w a c 5 rs):=Ao
 have HA:Hid (∀j,j<n->∃x ∈ l,rs[j]?=some (Ex.fl x)):=Ap
 have HH:Hid (∀x ∈ l,ToR 230 5 (Ex.fl x)):=H
 clear Ap H;go_enter Tryz.func211,Tryz.ntmps211
 go_wp2_with (at_make;refine wpList_make_full _ rfl _ _ 129 rfl w.heap.size 135 i0 _ 5 Tryz.underlying129 hi hz0 hz1 _ _ _ _ n rfl rfl rfl rfl V50 V14 (Nat.le_refl _) ?_)
 intro w1 Av At
 have H1:Hid (∃vs rest,TL w w1 135 5 n 0 rs vs rest):=TL.start Hd.out Av At
 clear Av At
 rcases Nat.eq_zero_or_pos n with h0|Am
 .
  exact U11
 .
  obtain⟨b,off,rfl⟩:=Ao.addr V19;clear Ao hn;go_wp2_with fail
  go_loopw [4] (fun i wr=>∃j:Nat,j<=n/\i=.int .i64 j/\Hid (∃vs rest,TL w wr 135 5 n j rs vs rest)) (fun i _=>n-(intOf i).toNat)
  case atStart=>exact⟨0,Nat.zero_le _,rfl,H1⟩
  case round=>
   obtain⟨j,hj,rfl,ht⟩:=hrel;clear H1
   by_cases Ai:j<n
   .
    obtain⟨vs0,rest,ht⟩:=ht.out;obtain⟨x,hx,Ak⟩:=HA.out j Ai
    obtain⟨vs,Ad,Ab⟩:=((show aS w (some ⟨b,off,none⟩) c 5 rs from HL.out).below ht.below |>.el Ak).vals
    skip
    have HC:=HH.out x hx wr vs Ad wr (Below.refl _ _)
    have HT:Hid _:=ht
    have HK:Hid _:=Ak
    clear ht Ak;generalize hfl:(Ex.fl x)=fx at HC HK;obtain⟨x0,x1,x2,x3,x4⟩:=x;obtain⟨y0,_,rfl,rfl,y1,_,rfl,rfl,y2,_,rfl,⟨a2,c2,rfl,d2⟩,y3,_,rfl,⟨a3,c3,rfl,d3⟩,y4,_,rfl,⟨a4,c4,rfl,d4⟩,rfl⟩:=Ad;generalize (exs x4).length=m4 at HC Ab
    have q0:wr.cell? ⟨b,off+j*5,none⟩=some _:=Ab 0 _ rfl
    have q1:wr.cell? ⟨b,off+j*5+1,none⟩=some _:=Ab 1 _ rfl
    have q2:wr.cell? ⟨b,off+j*5+2,none⟩=some _:=Ab 2 _ rfl
    have q3:wr.cell? ⟨b,off+j*5+3,none⟩=some _:=Ab 3 _ rfl
    have q4:wr.cell? ⟨b,off+j*5+4,none⟩=some _:=Ab 4 _ rfl
    clear Ab d2 d3 d4 hx
    have HF:Hid _:=hfl;clear hfl
    go_wp2_with fail;refine HC.mono ?_;rintro e w2 ⟨us,rfl,hl,hh,Ae⟩;obtain⟨g2,m2_,g3,m3_,g4,m4_,hus⟩:=aBd (HF.out ▸ hh);subst hus
    have HS:Hid _:=HT.out.step (us:=[.int .i64 x0,.int .i64 x1,.slice (some ⟨g2,0,none⟩) m2_ m2_,.slice (some ⟨g3,0,none⟩) m3_ m3_,.slice (some ⟨g4,0,none⟩) m4_ m4_]) Ai Ae HK.out rfl hh
    have hcs:=(HT.out.call Ae).cells Ai;obtain⟨v0,k0⟩:=hcs 0 V6;have z0:=(HT.out.call Ae).blk.free (j*5+0);obtain⟨v1,k1⟩:=hcs 1 V6;have z1:=(HT.out.call Ae).blk.free (j*5+1);obtain⟨v2,k2⟩:=hcs 2 V6;have z2:=(HT.out.call Ae).blk.free (j*5+2);obtain⟨v3,k3⟩:=hcs 3 V6;have z3:=(HT.out.call Ae).blk.free (j*5+3);obtain⟨v4,k4⟩:=hcs 4 V6;have z4:=(HT.out.call Ae).blk.free (j*5+4);clear hcs hh Ae HC HT HK q0 q1 q2 q3 q4;simp only[Nat.add_zero,Nat.mul_one]at k0 z0 k1 z1 k2 z2 k3 z3 k4 z4;exact U26
   .
    exact U21
theorem aBa {w:World}{lo hi:Nat}{us:List Value}{x0:Int}{x1:Int}{x2:List Int}{x3:List Ex}{x4:List St}{x5:List St}(h:bJ w lo hi (St.fl ⟨x0,x1,x2,x3,x4,x5⟩) us):
  ∃g2 m2 g3 m3 g4 m4 g5 m5,us=[.int .i64 x0,.int .i64 x1,.slice (some ⟨g2,0,none⟩) m2 m2,.slice (some ⟨g3,0,none⟩) m3 m3,.slice (some ⟨g4,0,none⟩) m4 m4,.slice (some ⟨g5,0,none⟩) m5 m5]:=by
 unfold St.fl at h;simp only[bJ,Fl.Has]at h;obtain⟨u0,_,_,rfl,_,_,rfl,u1,_,_,rfl,_,_,rfl,u2,_,_,rfl,_,_,⟨g2,rfl,_⟩,u3,_,_,rfl,_,_,⟨g3,_,_,rfl,_⟩,u4,_,_,rfl,_,_,⟨g4,_,_,rfl,_⟩,u5,_,_,rfl,_,_,⟨g5,_,_,rfl,_⟩,rfl⟩:=h;exact⟨g2,_,g3,_,g4,_,g5,_,rfl⟩
theorem aB9:(Tryz.prog.info? 131).map (fun i=>(i.zero,i.size,i.bytes))=some (some (.agg #[.int .i64 0,.int .i64 0,.slice none 0 0,.slice none 0 0,.slice none 0 0,.slice none 0 0]),6,112):=by kernel_rfl
theorem qJ (l:List St)(hlen:(sts l).length<=1048576)(H:∀x ∈ l,ToR 172 6 (St.fl x)):ToF 125 (.l 6 (sts l)):=by
 intro w0 v hv w Ar;obtain⟨a,c,rfl,Ao⟩:=(hv.below Ar).list;clear hv Ar
 have hm:(sts l).length=l.length:=by simp[aJ,aM,bH]
 have Ap:∀j,j<l.length->∃x ∈ l,(sts l)[j]?=some (St.fl x):=by
  exact U9
 generalize hrs:sts l=rs at Ao hm Ap hlen ⊢;clear hrs;rw[<-hm]at Ap;generalize hn:rs.length=n at Ao Ap hlen ⊢;clear hm;obtain⟨i0,hi,hz0,hz1,hz2⟩:=info_parts aB9
 have Hd:Hid (rs.length=n):=hn
 have HL:Hid (aS w a c 6 rs):=Ao
 have HA:Hid (∀j,j<n->∃x ∈ l,rs[j]?=some (St.fl x)):=Ap
 have HH:Hid (∀x ∈ l,ToR 172 6 (St.fl x)):=H
 clear Ap H;go_enter Tryz.func125,Tryz.ntmps125
 go_wp2_with (at_make;refine wpList_make_full _ rfl _ _ 70 rfl w.heap.size 131 i0 _ 6 Tryz.underlying70 hi hz0 hz1 _ _ _ _ n rfl rfl rfl rfl V50 V14 (Nat.le_refl _) ?_)
 intro w1 Av At
 have H1:Hid (∃vs rest,TL w w1 131 6 n 0 rs vs rest):=TL.start Hd.out Av At
 clear Av At
 rcases Nat.eq_zero_or_pos n with h0|Am
 .
  exact U11
 .
  obtain⟨b,off,rfl⟩:=Ao.addr V19;clear Ao hn;go_wp2_with fail
  go_loopw [4] (fun i wr=>∃j:Nat,j<=n/\i=.int .i64 j/\Hid (∃vs rest,TL w wr 131 6 n j rs vs rest)) (fun i _=>n-(intOf i).toNat)
  case atStart=>exact⟨0,Nat.zero_le _,rfl,H1⟩
  case round=>
   obtain⟨j,hj,rfl,ht⟩:=hrel;clear H1
   by_cases Ai:j<n
   .
    obtain⟨vs0,rest,ht⟩:=ht.out;obtain⟨x,hx,Ak⟩:=HA.out j Ai
    obtain⟨vs,Ad,Ab⟩:=((show aS w (some ⟨b,off,none⟩) c 6 rs from HL.out).below ht.below |>.el Ak).vals
    skip
    have HC:=HH.out x hx wr vs Ad wr (Below.refl _ _)
    have HT:Hid _:=ht
    have HK:Hid _:=Ak
    clear ht Ak;generalize hfl:(St.fl x)=fx at HC HK;obtain⟨x0,x1,x2,x3,x4,x5⟩:=x;obtain⟨y0,_,rfl,rfl,y1,_,rfl,rfl,y2,_,rfl,⟨a2,c2,rfl,d2⟩,y3,_,rfl,⟨a3,c3,rfl,d3⟩,y4,_,rfl,⟨a4,c4,rfl,d4⟩,y5,_,rfl,⟨a5,c5,rfl,d5⟩,rfl⟩:=Ad;generalize (exs x3).length=m3 at HC Ab;generalize (sts x4).length=m4 at HC Ab;generalize (sts x5).length=m5 at HC Ab
    have q0:wr.cell? ⟨b,off+j*6,none⟩=some _:=Ab 0 _ rfl
    have q1:wr.cell? ⟨b,off+j*6+1,none⟩=some _:=Ab 1 _ rfl
    have q2:wr.cell? ⟨b,off+j*6+2,none⟩=some _:=Ab 2 _ rfl
    have q3:wr.cell? ⟨b,off+j*6+3,none⟩=some _:=Ab 3 _ rfl
    have q4:wr.cell? ⟨b,off+j*6+4,none⟩=some _:=Ab 4 _ rfl
    have q5:wr.cell? ⟨b,off+j*6+5,none⟩=some _:=Ab 5 _ rfl
    clear Ab d2 d3 d4 d5 hx
    have HF:Hid _:=hfl;clear hfl
    go_wp2_with fail;refine HC.mono ?_;rintro e w2 ⟨us,rfl,hl,hh,Ae⟩;obtain⟨g2,m2_,g3,m3_,g4,m4_,g5,m5_,hus⟩:=aBa (HF.out ▸ hh);subst hus
    have HS:Hid _:=HT.out.step (us:=[.int .i64 x0,.int .i64 x1,.slice (some ⟨g2,0,none⟩) m2_ m2_,.slice (some ⟨g3,0,none⟩) m3_ m3_,.slice (some ⟨g4,0,none⟩) m4_ m4_,.slice (some ⟨g5,0,none⟩) m5_ m5_]) Ai Ae HK.out rfl hh
    have hcs:=(HT.out.call Ae).cells Ai;obtain⟨v0,k0⟩:=hcs 0 V6;have z0:=(HT.out.call Ae).blk.free (j*6+0);obtain⟨v1,k1⟩:=hcs 1 V6;have z1:=(HT.out.call Ae).blk.free (j*6+1);obtain⟨v2,k2⟩:=hcs 2 V6;have z2:=(HT.out.call Ae).blk.free (j*6+2);obtain⟨v3,k3⟩:=hcs 3 V6;have z3:=(HT.out.call Ae).blk.free (j*6+3);obtain⟨v4,k4⟩:=hcs 4 V6;have z4:=(HT.out.call Ae).blk.free (j*6+4);obtain⟨v5,k5⟩:=hcs 5 V6;have z5:=(HT.out.call Ae).blk.free (j*6+5);clear hcs hh Ae HC HT HK q0 q1 q2 q3 q4 q5;simp only[Nat.add_zero,Nat.mul_one]at k0 z0 k1 z1 k2 z2 k3 z3 k4 z4 k5 z5;exact U26
   .
    exact U21
theorem aBb {w:World}{lo hi:Nat}{us:List Value}{x0:List Int}{x1:Bool}{x2:List Pa}{x3:List (List Int)}{x4:List St}(h:bJ w lo hi (Pr.fl ⟨x0,x1,x2,x3,x4⟩) us):
  ∃g0 m0 g2 m2 g3 m3 g4 m4,us=[.slice (some ⟨g0,0,none⟩) m0 m0,.bool x1,.slice (some ⟨g2,0,none⟩) m2 m2,.slice (some ⟨g3,0,none⟩) m3 m3,.slice (some ⟨g4,0,none⟩) m4 m4]:=by
 unfold Pr.fl at h;simp only[bJ,Fl.Has]at h;obtain⟨u0,_,_,rfl,_,_,⟨g0,rfl,_⟩,u1,_,_,rfl,_,_,rfl,u2,_,_,rfl,_,_,⟨g2,_,_,rfl,_⟩,u3,_,_,rfl,_,_,⟨g3,_,_,rfl,_⟩,u4,_,_,rfl,_,_,⟨g4,_,_,rfl,_⟩,rfl⟩:=h;exact⟨g0,_,g2,_,g3,_,g4,_,rfl⟩
theorem aCa:(Tryz.prog.info? 72).map (fun i=>(i.zero,i.size,i.bytes))=some (some (.agg #[.slice none 0 0,.bool false,.slice none 0 0,.slice none 0 0,.slice none 0 0]),5,104):=by kernel_rfl
theorem aDz (l:List Pr)(hlen:(l.map Pr.fl).length<=1048576)(H:∀x ∈ l,ToR 78 5 (Pr.fl x)):ToF 33 (.l 5 (l.map Pr.fl)):=by
 intro w0 v hv w Ar;obtain⟨a,c,rfl,Ao⟩:=(hv.below Ar).list;clear hv Ar
 have hm:(l.map Pr.fl).length=l.length:=by simp[aJ,aM,bH]
 have Ap:∀j,j<l.length->∃x ∈ l,(l.map Pr.fl)[j]?=some (Pr.fl x):=by
  exact U9
 generalize hrs:l.map Pr.fl=rs at Ao hm Ap hlen ⊢;clear hrs;rw[<-hm]at Ap;generalize hn:rs.length=n at Ao Ap hlen ⊢;clear hm;obtain⟨i0,hi,hz0,hz1,hz2⟩:=info_parts aCa
 have Hd:Hid (rs.length=n):=hn
 have HL:Hid (aS w a c 5 rs):=Ao
 have HA:Hid (∀j,j<n->∃x ∈ l,rs[j]?=some (Pr.fl x)):=Ap
 have HH:Hid (∀x ∈ l,ToR 78 5 (Pr.fl x)):=H
 clear Ap H;go_enter Tryz.func33,Tryz.ntmps33
 go_wp2_with (at_make;refine wpList_make_full _ rfl _ _ 33 rfl w.heap.size 72 i0 _ 5 Tryz.underlying33 hi hz0 hz1 _ _ _ _ n rfl rfl rfl rfl V50 V14 (Nat.le_refl _) ?_)
 intro w1 Av At
 have H1:Hid (∃vs rest,TL w w1 72 5 n 0 rs vs rest):=TL.start Hd.out Av At
 clear Av At
 rcases Nat.eq_zero_or_pos n with h0|Am
 .
  exact U11
 .
  obtain⟨b,off,rfl⟩:=Ao.addr V19;clear Ao hn;go_wp2_with fail
  go_loopw [4] (fun i wr=>∃j:Nat,j<=n/\i=.int .i64 j/\Hid (∃vs rest,TL w wr 72 5 n j rs vs rest)) (fun i _=>n-(intOf i).toNat)
  case atStart=>exact⟨0,Nat.zero_le _,rfl,H1⟩
  case round=>
   obtain⟨j,hj,rfl,ht⟩:=hrel;clear H1
   by_cases Ai:j<n
   .
    obtain⟨vs0,rest,ht⟩:=ht.out;obtain⟨x,hx,Ak⟩:=HA.out j Ai
    obtain⟨vs,Ad,Ab⟩:=((show aS w (some ⟨b,off,none⟩) c 5 rs from HL.out).below ht.below |>.el Ak).vals
    skip
    have HC:=HH.out x hx wr vs Ad wr (Below.refl _ _)
    have HT:Hid _:=ht
    have HK:Hid _:=Ak
    clear ht Ak;generalize hfl:(Pr.fl x)=fx at HC HK;obtain⟨x0,x1,x2,x3,x4⟩:=x;obtain⟨y0,_,rfl,⟨a0,c0,rfl,d0⟩,y1,_,rfl,rfl,y2,_,rfl,⟨a2,c2,rfl,d2⟩,y3,_,rfl,⟨a3,c3,rfl,d3⟩,y4,_,rfl,⟨a4,c4,rfl,d4⟩,rfl⟩:=Ad;generalize (List.map Pa.fl x2).length=m2 at HC Ab;generalize (bH x3).length=m3 at HC Ab;generalize (sts x4).length=m4 at HC Ab
    have q0:wr.cell? ⟨b,off+j*5,none⟩=some _:=Ab 0 _ rfl
    have q1:wr.cell? ⟨b,off+j*5+1,none⟩=some _:=Ab 1 _ rfl
    have q2:wr.cell? ⟨b,off+j*5+2,none⟩=some _:=Ab 2 _ rfl
    have q3:wr.cell? ⟨b,off+j*5+3,none⟩=some _:=Ab 3 _ rfl
    have q4:wr.cell? ⟨b,off+j*5+4,none⟩=some _:=Ab 4 _ rfl
    clear Ab d0 d2 d3 d4 hx
    have HF:Hid _:=hfl;clear hfl
    go_wp2_with fail;refine HC.mono ?_;rintro e w2 ⟨us,rfl,hl,hh,Ae⟩;obtain⟨g0,m0_,g2,m2_,g3,m3_,g4,m4_,hus⟩:=aBb (HF.out ▸ hh);subst hus
    have HS:Hid _:=HT.out.step (us:=[.slice (some ⟨g0,0,none⟩) m0_ m0_,.bool x1,.slice (some ⟨g2,0,none⟩) m2_ m2_,.slice (some ⟨g3,0,none⟩) m3_ m3_,.slice (some ⟨g4,0,none⟩) m4_ m4_]) Ai Ae HK.out rfl hh
    have hcs:=(HT.out.call Ae).cells Ai;obtain⟨v0,k0⟩:=hcs 0 V6;have z0:=(HT.out.call Ae).blk.free (j*5+0);obtain⟨v1,k1⟩:=hcs 1 V6;have z1:=(HT.out.call Ae).blk.free (j*5+1);obtain⟨v2,k2⟩:=hcs 2 V6;have z2:=(HT.out.call Ae).blk.free (j*5+2);obtain⟨v3,k3⟩:=hcs 3 V6;have z3:=(HT.out.call Ae).blk.free (j*5+3);obtain⟨v4,k4⟩:=hcs 4 V6;have z4:=(HT.out.call Ae).blk.free (j*5+4);clear hcs hh Ae HC HT HK q0 q1 q2 q3 q4;simp only[Nat.add_zero,Nat.mul_one]at k0 z0 k1 z1 k2 z2 k3 z3 k4 z4;exact U26
   .
    exact U21
theorem qM {w:World}{lo hi:Nat}{us:List Value}{x0:List Int}{x1:List Int}(h:bJ w lo hi (Fp.fl ⟨x0,x1⟩) us):
  ∃g0 m0 g1 m1,us=[.slice (some ⟨g0,0,none⟩) m0 m0,.slice (some ⟨g1,0,none⟩) m1 m1]:=by
 unfold Fp.fl at h;simp only[bJ,Fl.Has]at h;obtain⟨u0,_,_,rfl,_,_,⟨g0,rfl,_⟩,u1,_,_,rfl,_,_,⟨g1,rfl,_⟩,rfl⟩:=h;exact⟨g0,_,g1,_,rfl⟩
theorem qY:(Tryz.prog.info? 104).map (fun i=>(i.zero,i.size,i.bytes))=some (some (.agg #[.slice none 0 0,.slice none 0 0]),2,48):=by kernel_rfl
theorem rW (l:List Fp)(hlen:(l.map Fp.fl).length<=1048576)(H:∀x ∈ l,ToR 126 2 (Fp.fl x)):ToF 79 (.l 2 (l.map Fp.fl)):=by
 intro w0 v hv w Ar;obtain⟨a,c,rfl,Ao⟩:=(hv.below Ar).list;clear hv Ar
 have hm:(l.map Fp.fl).length=l.length:=by simp[aJ,aM,bH]
 have Ap:∀j,j<l.length->∃x ∈ l,(l.map Fp.fl)[j]?=some (Fp.fl x):=by
  exact U9
 generalize hrs:l.map Fp.fl=rs at Ao hm Ap hlen ⊢;clear hrs;rw[<-hm]at Ap;generalize hn:rs.length=n at Ao Ap hlen ⊢;clear hm;obtain⟨i0,hi,hz0,hz1,hz2⟩:=info_parts qY
 have Hd:Hid (rs.length=n):=hn
 have HL:Hid (aS w a c 2 rs):=Ao
 have HA:Hid (∀j,j<n->∃x ∈ l,rs[j]?=some (Fp.fl x)):=Ap
 have HH:Hid (∀x ∈ l,ToR 126 2 (Fp.fl x)):=H
 clear Ap H;go_enter Tryz.func79,Tryz.ntmps79
 go_wp2_with (at_make;refine wpList_make_full _ rfl _ _ 77 rfl w.heap.size 104 i0 _ 2 Tryz.underlying77 hi hz0 hz1 _ _ _ _ n rfl rfl rfl rfl V50 V14 (Nat.le_refl _) ?_)
 intro w1 Av At
 have H1:Hid (∃vs rest,TL w w1 104 2 n 0 rs vs rest):=TL.start Hd.out Av At
 clear Av At
 rcases Nat.eq_zero_or_pos n with h0|Am
 .
  exact U11
 .
  obtain⟨b,off,rfl⟩:=Ao.addr V19;clear Ao hn;go_wp2_with fail
  go_loopw [4] (fun i wr=>∃j:Nat,j<=n/\i=.int .i64 j/\Hid (∃vs rest,TL w wr 104 2 n j rs vs rest)) (fun i _=>n-(intOf i).toNat)
  case atStart=>exact⟨0,Nat.zero_le _,rfl,H1⟩
  case round=>
   obtain⟨j,hj,rfl,ht⟩:=hrel;clear H1
   by_cases Ai:j<n
   .
    obtain⟨vs0,rest,ht⟩:=ht.out;obtain⟨x,hx,Ak⟩:=HA.out j Ai
    obtain⟨vs,Ad,Ab⟩:=((show aS w (some ⟨b,off,none⟩) c 2 rs from HL.out).below ht.below |>.el Ak).vals
    skip
    have HC:=HH.out x hx wr vs Ad wr (Below.refl _ _)
    have HT:Hid _:=ht
    have HK:Hid _:=Ak
    clear ht Ak;generalize hfl:(Fp.fl x)=fx at HC HK;obtain⟨x0,x1⟩:=x;obtain⟨y0,_,rfl,⟨a0,c0,rfl,d0⟩,y1,_,rfl,⟨a1,c1,rfl,d1⟩,rfl⟩:=Ad
    skip
    have q0:wr.cell? ⟨b,off+j*2,none⟩=some _:=Ab 0 _ rfl
    have q1:wr.cell? ⟨b,off+j*2+1,none⟩=some _:=Ab 1 _ rfl
    clear Ab d0 d1 hx
    have HF:Hid _:=hfl;clear hfl
    go_wp2_with fail;refine HC.mono ?_;rintro e w2 ⟨us,rfl,hl,hh,Ae⟩;obtain⟨g0,m0_,g1,m1_,hus⟩:=qM (HF.out ▸ hh);subst hus
    have HS:Hid _:=HT.out.step (us:=[.slice (some ⟨g0,0,none⟩) m0_ m0_,.slice (some ⟨g1,0,none⟩) m1_ m1_]) Ai Ae HK.out rfl hh
    exact U16
   .
    exact U21
theorem aBc {w:World}{lo hi:Nat}{us:List Value}{x0:List Int}{x1:List Fp}(h:bJ w lo hi (Fa.fl ⟨x0,x1⟩) us):
  ∃g0 m0 g1 m1,us=[.slice (some ⟨g0,0,none⟩) m0 m0,.slice (some ⟨g1,0,none⟩) m1 m1]:=by
 unfold Fa.fl at h;simp only[bJ,Fl.Has]at h;obtain⟨u0,_,_,rfl,_,_,⟨g0,rfl,_⟩,u1,_,_,rfl,_,_,⟨g1,_,_,rfl,_⟩,rfl⟩:=h;exact⟨g0,_,g1,_,rfl⟩
theorem aCb:(Tryz.prog.info? 79).map (fun i=>(i.zero,i.size,i.bytes))=some (some (.agg #[.slice none 0 0,.slice none 0 0]),2,48):=by kernel_rfl
theorem aD2 (l:List Fa)(hlen:(l.map Fa.fl).length<=1048576)(H:∀x ∈ l,ToR 34 2 (Fa.fl x)):ToF 9 (.l 2 (l.map Fa.fl)):=by
 intro w0 v hv w Ar;obtain⟨a,c,rfl,Ao⟩:=(hv.below Ar).list;clear hv Ar
 have hm:(l.map Fa.fl).length=l.length:=by simp[aJ,aM,bH]
 have Ap:∀j,j<l.length->∃x ∈ l,(l.map Fa.fl)[j]?=some (Fa.fl x):=by
  exact U9
 generalize hrs:l.map Fa.fl=rs at Ao hm Ap hlen ⊢;clear hrs;rw[<-hm]at Ap;generalize hn:rs.length=n at Ao Ap hlen ⊢;clear hm;obtain⟨i0,hi,hz0,hz1,hz2⟩:=info_parts aCb
 have Hd:Hid (rs.length=n):=hn
 have HL:Hid (aS w a c 2 rs):=Ao
 have HA:Hid (∀j,j<n->∃x ∈ l,rs[j]?=some (Fa.fl x)):=Ap
 have HH:Hid (∀x ∈ l,ToR 34 2 (Fa.fl x)):=H
 clear Ap H;go_enter Tryz.func9,Tryz.ntmps9
 go_wp2_with (at_make;refine wpList_make_full _ rfl _ _ 37 rfl w.heap.size 79 i0 _ 2 Tryz.underlying37 hi hz0 hz1 _ _ _ _ n rfl rfl rfl rfl V50 V14 (Nat.le_refl _) ?_)
 intro w1 Av At
 have H1:Hid (∃vs rest,TL w w1 79 2 n 0 rs vs rest):=TL.start Hd.out Av At
 clear Av At
 rcases Nat.eq_zero_or_pos n with h0|Am
 .
  exact U11
 .
  obtain⟨b,off,rfl⟩:=Ao.addr V19;clear Ao hn;go_wp2_with fail
  go_loopw [4] (fun i wr=>∃j:Nat,j<=n/\i=.int .i64 j/\Hid (∃vs rest,TL w wr 79 2 n j rs vs rest)) (fun i _=>n-(intOf i).toNat)
  case atStart=>exact⟨0,Nat.zero_le _,rfl,H1⟩
  case round=>
   obtain⟨j,hj,rfl,ht⟩:=hrel;clear H1
   by_cases Ai:j<n
   .
    obtain⟨vs0,rest,ht⟩:=ht.out;obtain⟨x,hx,Ak⟩:=HA.out j Ai
    obtain⟨vs,Ad,Ab⟩:=((show aS w (some ⟨b,off,none⟩) c 2 rs from HL.out).below ht.below |>.el Ak).vals
    skip
    have HC:=HH.out x hx wr vs Ad wr (Below.refl _ _)
    have HT:Hid _:=ht
    have HK:Hid _:=Ak
    clear ht Ak;generalize hfl:(Fa.fl x)=fx at HC HK;obtain⟨x0,x1⟩:=x;obtain⟨y0,_,rfl,⟨a0,c0,rfl,d0⟩,y1,_,rfl,⟨a1,c1,rfl,d1⟩,rfl⟩:=Ad;generalize (List.map Fp.fl x1).length=m1 at HC Ab
    have q0:wr.cell? ⟨b,off+j*2,none⟩=some _:=Ab 0 _ rfl
    have q1:wr.cell? ⟨b,off+j*2+1,none⟩=some _:=Ab 1 _ rfl
    clear Ab d0 d1 hx
    have HF:Hid _:=hfl;clear hfl
    go_wp2_with fail;refine HC.mono ?_;rintro e w2 ⟨us,rfl,hl,hh,Ae⟩;obtain⟨g0,m0_,g1,m1_,hus⟩:=aBc (HF.out ▸ hh);subst hus
    have HS:Hid _:=HT.out.step (us:=[.slice (some ⟨g0,0,none⟩) m0_ m0_,.slice (some ⟨g1,0,none⟩) m1_ m1_]) Ai Ae HK.out rfl hh
    exact U16
   .
    exact U21
theorem zL:(Tryz.prog.info? 22).map (fun i=>(i.zero,i.size,i.bytes))=some (some (.slice none 0 0),1,24):=by kernel_rfl
theorem aAw (l:List (List Int))(hlen:(bH l).length<=1048576)(H:∀x ∈ l,ToF 30 (.b x)):ToF 31 (.l 1 (bH l)):=by
 intro w0 v hv w Ar;obtain⟨a,c,rfl,Ao⟩:=(hv.below Ar).list;clear hv Ar
 have hm:(bH l).length=l.length:=by simp[aJ,aM,bH]
 have Ap:∀j,j<l.length->∃x ∈ l,(bH l)[j]?=some [.b x]:=by
  exact U9
 generalize hrs:bH l=rs at Ao hm Ap hlen ⊢;clear hrs;rw[<-hm]at Ap;generalize hn:rs.length=n at Ao Ap hlen ⊢;clear hm;obtain⟨i0,hi,hz0,hz1,hz2⟩:=info_parts zL
 have Hd:Hid (rs.length=n):=hn
 have HL:Hid (aS w a c 1 rs):=Ao
 have HA:Hid (∀j,j<n->∃x ∈ l,rs[j]?=some [.b x]):=Ap
 have HH:Hid (∀x ∈ l,ToF 30 (.b x)):=H
 clear Ap H;go_enter Tryz.func31,Tryz.ntmps31
 go_wp2_with (at_make;refine wpList_make_full _ rfl _ _ 23 rfl w.heap.size 22 i0 _ 1 Tryz.underlying23 hi hz0 hz1 _ _ _ _ n rfl rfl rfl rfl V50 V14 (Nat.le_refl _) ?_)
 intro w1 Av At
 have H1:Hid (∃vs rest,TL w w1 22 1 n 0 rs vs rest):=TL.start Hd.out Av At
 clear Av At
 rcases Nat.eq_zero_or_pos n with h0|Am
 .
  exact U11
 .
  obtain⟨b,off,rfl⟩:=Ao.addr V19;clear Ao hn;go_wp2_with fail
  go_loopw [4] (fun i wr=>∃j:Nat,j<=n/\i=.int .i64 j/\Hid (∃vs rest,TL w wr 22 1 n j rs vs rest)) (fun i _=>n-(intOf i).toNat)
  case atStart=>exact⟨0,Nat.zero_le _,rfl,H1⟩
  case round=>
   obtain⟨j,hj,rfl,ht⟩:=hrel;clear H1
   by_cases Ai:j<n
   .
    obtain⟨vs0,rest,ht⟩:=ht.out;obtain⟨x,hx,Ak⟩:=HA.out j Ai
    obtain⟨vs,Ad,Ab⟩:=((show aS w (some ⟨b,off,none⟩) c 1 rs from HL.out).below ht.below |>.el Ak).vals
    obtain⟨y0,_,rfl,hy0,rfl⟩:=Ad;have HC:=HH.out x hx wr y0 hy0 wr (Below.refl _ _)
    have HT:Hid _:=ht
    have HK:Hid _:=Ak
    clear ht Ak
    skip
    skip
    obtain⟨a0,c0,rfl,d0⟩:=hy0
    skip
    have q0:wr.cell? ⟨b,off+j,none⟩=some _:=(by have:=Ab 0 _ rfl;simpa using this:wr.cell? ⟨b,off+j,none⟩=some (.slice a0 x.length c0))
    clear Ab d0 hx
    skip
    go_wp2_with fail;refine HC.mono ?_;rintro e w2 ⟨g,m,rfl,hh,Ae⟩
    skip
    skip
    have HS:Hid _:=HT.out.step (us:=[.slice (some ⟨g,0,none⟩) m m]) Ai Ae HK.out rfl (aHw hh Ae.size)
    have hcs:=(HT.out.call Ae).cells Ai;obtain⟨v0,k0⟩:=hcs 0 V6;have z0:=(HT.out.call Ae).blk.free (j*1+0);clear hcs hh Ae HC HT HK q0;simp only[Nat.add_zero,Nat.mul_one]at k0 z0;go_wp2_with fail;go_roundw
    case rel=>exact⟨j+1,by omega,by go_num,⟨_,_,by have:=HS.out;simpa [setAll] using this⟩⟩
    case measure=>simp[intOf];omega
   .
    exact U21
theorem iG (l:List Int)(hl:l.length<=1048576):ToF 30 (.b l):=by
 rintro w v hv w1 hb;obtain⟨a,c,rfl,hr,_⟩:=hv.below hb;refine(aMj a l.length c l w1 hr hl).mono ?_;rintro e w' ⟨rfl,ho,_,Aj,Ai⟩;refine⟨_,_,rfl, ?_,Aj⟩;unfold Fl.Has
 exact⟨_,rfl,Nat.le_refl _,Ai,rL ho.1,ho.2,by unfold maxLen;omega⟩
theorem pE {w:World}{base g n:Nat}{xs:List Value}(h:w.ownsRow base 3 1 (.slice (some ⟨g,0,none⟩) n n) n xs):w.heap[g]?=some (.cells xs.toArray 3 (0,0)):=by
 exact U82
theorem aJu (l:List Int)(hl:l.length<=1048576):ToF 173 (.i l):=by
 rintro w v hv w1 hb;obtain⟨a,c,rfl,hr,_⟩:=hv.below hb;refine(aMi a l.length c l w1 hr hl).mono ?_;rintro e w' ⟨rfl,ho,_,Aj,Ai⟩;refine⟨_,_,rfl, ?_,Aj⟩;unfold Fl.Has
 exact⟨_,rfl,Nat.le_refl _,Ai,pE ho.1,ho.2,by unfold maxLen;omega⟩
theorem ToV.on {w w1:World}{F:Nat}{f:Fl}{v:Value}(h:ToV w F f v)(hb:Below w.heap.size w w1):ToV w1 F f v:=
 fun w2 Ae=>h w2 (hb.trans (Ae.mono hb.size))
theorem aJs (x0:List Int)(x1:Int)(S0:ToF 30 (.b x0)):ToR 77 2 (Va.mk x0 x1).fl:=by
 intro w vs hv w1 hb;unfold Va.fl at hv ⊢;obtain⟨y0,_,rfl,h0,y1,_,rfl,rfl,rfl⟩:=hv;have g0:=(S0 w _ h0).on hb;obtain⟨a0,c0,rfl,_⟩:=h0;exact aJt a0 _ c0 _ x1 w1 g0
theorem aD0 (x0:List Int)(x1:Bool)(S0:ToF 30 (.b x0)):ToR 171 2 (Pa.mk x0 x1).fl:=by
 intro w vs hv w1 hb;unfold Pa.fl at hv ⊢;obtain⟨y0,_,rfl,h0,y1,_,rfl,rfl,rfl⟩:=hv;have g0:=(S0 w _ h0).on hb;obtain⟨a0,c0,rfl,_⟩:=h0;exact aD1 a0 _ c0 _ x1 w1 g0
theorem aHd (x0:Int)(x1:Int)(x2:List Int)(x3:List Int)(x4:List Ex)(S2:ToF 30 (.b x2))(S3:ToF 30 (.b x3))(S4:ToF 211 (.l 5 (exs x4))):ToR 230 5 (Ex.mk x0 x1 x2 x3 x4).fl:=by
 intro w vs hv w1 hb;unfold Ex.fl at hv ⊢;obtain⟨y0,_,rfl,rfl,y1,_,rfl,rfl,y2,_,rfl,h2,y3,_,rfl,h3,y4,_,rfl,h4,rfl⟩:=hv;have g2:=(S2 w _ h2).on hb;have g3:=(S3 w _ h3).on hb;have g4:=(S4 w _ h4).on hb;obtain⟨a2,c2,rfl,_⟩:=h2;obtain⟨a3,c3,rfl,_⟩:=h3;obtain⟨a4,c4,rfl,_⟩:=h4;exact aHe x0 x1 a2 _ c2 _ a3 _ c3 _ a4 _ c4 _ w1 g2 g3 g4
theorem aG6 (x0:Int)(x1:Int)(x2:List Int)(x3:List Ex)(x4:List St)(x5:List St)(S2:ToF 30 (.b x2))(S3:ToF 211 (.l 5 (exs x3)))(S4:ToF 125 (.l 6 (sts x4)))(S5:ToF 125 (.l 6 (sts x5))):ToR 172 6 (St.mk x0 x1 x2 x3 x4 x5).fl:=by
 intro w vs hv w1 hb;unfold St.fl at hv ⊢;obtain⟨y0,_,rfl,rfl,y1,_,rfl,rfl,y2,_,rfl,h2,y3,_,rfl,h3,y4,_,rfl,h4,y5,_,rfl,h5,rfl⟩:=hv;have g2:=(S2 w _ h2).on hb;have g3:=(S3 w _ h3).on hb;have g4:=(S4 w _ h4).on hb;have g5:=(S5 w _ h5).on hb;obtain⟨a2,c2,rfl,_⟩:=h2;obtain⟨a3,c3,rfl,_⟩:=h3;obtain⟨a4,c4,rfl,_⟩:=h4;obtain⟨a5,c5,rfl,_⟩:=h5;exact aG7 x0 x1 a2 _ c2 _ a3 _ c3 _ a4 _ c4 _ a5 _ c5 _ w1 g2 g3 g4 g5
theorem aG8 (x0:List Int)(x1:Bool)(x2:List Pa)(x3:List (List Int))(x4:List St)(S0:ToF 30 (.b x0))(S2:ToF 124 (.l 2 (x2.map Pa.fl)))(S3:ToF 31 (.l 1 (bH x3)))(S4:ToF 125 (.l 6 (sts x4))):ToR 78 5 (Pr.mk x0 x1 x2 x3 x4).fl:=by
 intro w vs hv w1 hb;unfold Pr.fl at hv ⊢;obtain⟨y0,_,rfl,h0,y1,_,rfl,rfl,y2,_,rfl,h2,y3,_,rfl,h3,y4,_,rfl,h4,rfl⟩:=hv;have g0:=(S0 w _ h0).on hb;have g2:=(S2 w _ h2).on hb;have g3:=(S3 w _ h3).on hb;have g4:=(S4 w _ h4).on hb;obtain⟨a0,c0,rfl,_⟩:=h0;obtain⟨a2,c2,rfl,_⟩:=h2;obtain⟨a3,c3,rfl,_⟩:=h3;obtain⟨a4,c4,rfl,_⟩:=h4;exact aG9 a0 _ c0 _ x1 a2 _ c2 _ a3 _ c3 _ a4 _ c4 _ w1 g0 g2 g3 g4
theorem tU (x0:List Int)(x1:List Int)(S0:ToF 30 (.b x0))(S1:ToF 173 (.i x1)):ToR 126 2 (Fp.mk x0 x1).fl:=by
 intro w vs hv w1 hb;unfold Fp.fl at hv ⊢;obtain⟨y0,_,rfl,h0,y1,_,rfl,h1,rfl⟩:=hv;have g0:=(S0 w _ h0).on hb;have g1:=(S1 w _ h1).on hb;obtain⟨a0,c0,rfl,_⟩:=h0;obtain⟨a1,c1,rfl,_⟩:=h1;exact tV a0 _ c0 _ a1 _ c1 _ w1 g0 g1
theorem aHa (x0:List Int)(x1:List Fp)(S0:ToF 30 (.b x0))(S1:ToF 79 (.l 2 (x1.map Fp.fl))):ToR 34 2 (Fa.mk x0 x1).fl:=by
 intro w vs hv w1 hb;unfold Fa.fl at hv ⊢;obtain⟨y0,_,rfl,h0,y1,_,rfl,h1,rfl⟩:=hv;have g0:=(S0 w _ h0).on hb;have g1:=(S1 w _ h1).on hb;obtain⟨a0,c0,rfl,_⟩:=h0;obtain⟨a1,c1,rfl,_⟩:=h1;exact aHb a0 _ c0 _ a1 _ c1 _ w1 g0 g1
theorem aAu (x0:List Int)(x1:List (List Int))(x2:List Va)(x3:List Pr)(S0:ToF 30 (.b x0))(S1:ToF 31 (.l 1 (bH x1)))(S2:ToF 32 (.l 2 (x2.map Va.fl)))(S3:ToF 33 (.l 5 (x3.map Pr.fl))):ToR 8 4 (Mo.mk x0 x1 x2 x3).fl:=by
 intro w vs hv w1 hb;unfold Mo.fl at hv ⊢;obtain⟨y0,_,rfl,h0,y1,_,rfl,h1,y2,_,rfl,h2,y3,_,rfl,h3,rfl⟩:=hv;have g0:=(S0 w _ h0).on hb;have g1:=(S1 w _ h1).on hb;have g2:=(S2 w _ h2).on hb;have g3:=(S3 w _ h3).on hb;obtain⟨a0,c0,rfl,_⟩:=h0;obtain⟨a1,c1,rfl,_⟩:=h1;obtain⟨a2,c2,rfl,_⟩:=h2;obtain⟨a3,c3,rfl,_⟩:=h3;exact aAv a0 _ c0 _ a1 _ c1 _ a2 _ c2 _ a3 _ c3 _ w1 g0 g1 g2 g3
mutual
theorem aM3:∀e:Ex,aH e.fl<=1048576->ToR 230 5 e.fl
 | .mk k n m a ks,h=>by
  have e:aH (Ex.mk k n m a ks).fl=m.length+a.length+((exs ks).length+aF (exs ks)):=by simp[Ex.fl,aH,Fl.len] <;> omega
  rw[e]at h;exact aHd k n m a ks (iG m V6) (iG a V6) (vN ks V6 (aHc ks V6))
theorem aHc:∀(l:List Ex),aF (exs l)<=1048576->∀e ∈ l,ToR 230 5 e.fl
 | [],_,e,h=>by simp at h
 | x :: l,hl,e,h=>by
  simp only[exs,aF]at hl
  rcases List.mem_cons.1 h with h|h
  .
   rw[h];exact aM3 x V6
  .
   exact aHc l V6 e h
end
mutual
theorem aM1:∀e:St,aH e.fl<=1048576->ToR 172 6 e.fl
 | .mk k n a ks bs es,h=>by
  have e:aH (St.mk k n a ks bs es).fl=a.length+((exs ks).length+aF (exs ks))+((sts bs).length+aF (sts bs))+((sts es).length+aF (sts es)):=by simp[St.fl,aH,Fl.len] <;> omega
  rw[e]at h;exact aG6 k n a ks bs es (iG a V6) (vN ks V6 (aHc ks V6)) (qJ bs V6 (aDy bs V6)) (qJ es V6 (aDy es V6))
theorem aDy:∀(l:List St),aF (sts l)<=1048576->∀e ∈ l,ToR 172 6 e.fl
 | [],_,e,h=>by simp at h
 | x :: l,hl,e,h=>by
  simp only[sts,aF]at hl
  rcases List.mem_cons.1 h with h|h
  .
   rw[h];exact aM1 x V6
  .
   exact aDy l V6 e h
end
theorem hZ {α:Type}{f:α->List Fl}{l:List α}{x:α}(h:x ∈ l):aH (f x)<=aF (l.map f):=bK (List.mem_map_of_mem h)
theorem aM2 (f:Fa)(h:aH f.fl<=1048576):ToR 34 2 f.fl:=by
 have e:aH f.fl=f.name.length+((f.procs.map Fp.fl).length+aF (f.procs.map Fp.fl)):=by simp[Fa.fl,aH,Fl.len]
 rw[e]at h
 refine aHa f.name f.procs (iG _ V6) (rW _ V6 fun q hq=>?_)
 have:=hZ (f:=Fp.fl) hq
 simp only[Fp.fl,aH,Fl.len]at this;exact tU q.name q.kinds (iG _ V6) (aJu _ V6)
theorem aLk (l:List Fa)(h:(l.map Fa.fl).length+aF (l.map Fa.fl)<=1048576):ToF 9 (.l 2 (l.map Fa.fl)):=
 aD2 l V6 fun x hx=>aM2 x (by have:=hZ (f:=Fa.fl) hx;omega)
theorem aF2 (l:List (List Int))(h:(bH l).length+aF (bH l)<=1048576):ToF 31 (.l 1 (bH l)):=
 aAw l V6 fun x hx=>iG x V55
theorem aLj (m:Mo)(h:aH m.fl<=1048576):ToR 8 4 m.fl:=by
 have e:aH m.fl=m.name.length+((bH m.uses).length+aF (bH m.uses))+((m.vars.map Va.fl).length+aF (m.vars.map Va.fl))+((m.procs.map Pr.fl).length+aF (m.procs.map Pr.fl)):=by simp[Mo.fl,aH,Fl.len] <;> omega
 rw[e]at h
 refine aAu m.name m.uses m.vars m.procs (iG _ V6) (aF2 _ V6) (aG5 _ V6 fun v hv=>?_) (aDz _ V6 fun q hq=>?_)
 .
  have:=hZ (f:=Va.fl) hv
  simp only[Va.fl,aH,Fl.len]at this;exact aJs v.name v.size (iG _ V6)
 .
  have:=hZ (f:=Pr.fl) hq
  have e2:aH q.fl=q.name.length+((q.params.map Pa.fl).length+aF (q.params.map Pa.fl))+((bH q.locals).length+aF (bH q.locals))+((sts q.body).length+aF (sts q.body)):=by simp[Pr.fl,aH,Fl.len] <;> omega
  rw[e2]at this
  refine aG8 q.name q.opn q.params q.locals q.body (iG _ V6) (aAt _ V6 fun p hp=>?_) (aF2 _ V6) (qJ _ V6 (aDy _ V6))
  have h3:=hZ (f:=Pa.fl) hp;simp only[Pa.fl,aH,Fl.len]at h3;exact aD0 p.name p.arr (iG _ V6)
end Go.Proofs.YtnelibmaancmkaaGreatDoor

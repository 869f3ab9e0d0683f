import Derived.Test.YtffphdacgblaoaaGreatDoorPackE
import Derived.Deep.QuietTactic
import Derived.BigQuiet
namespace Go.Proofs.YtffphdacgblaoaaGreatDoor
open Go.RowKit
set_option maxHeartbeats 2000000
set_option linter.unusedVariables false
theorem U64{p:Prop}(h:p:=by
 go_wp2
 go_ret
 refine⟨_,rfl, ?_,fun _=>?_,fun h=>absurd h Q0,hd'⟩
 .
  exact Int.emod_nonneg _ Q0
 .
  exact Int.emod_lt_of_pos _ Q0):p:=h
theorem aPn (n:Int):bits .and .i64 n 255=n % 256:=by
 have hm:(BitVec.ofInt 64 255).toNat=2 ^ 8-1:=by decide
 have key:(BitVec.ofInt 64 n &&& BitVec.ofInt 64 255).toNat=(n % ((2 ^ 64:Nat):Int)).toNat % 2 ^ 8:=by
  rw[BitVec.toNat_and,BitVec.toNat_ofInt,hm,Nat.and_two_pow_sub_one_eq_mod]
 show IntKind.i64.wrap ((BitVec.ofInt 64 n &&& BitVec.ofInt 64 255).toNat:Nat)=n % 256
 rw[key,IntKind.wrap_i64]
 omega
theorem aR0 (n:Int):bits .and .i64 n 1073741823=n % 1073741824:=by
 have hm:(BitVec.ofInt 64 1073741823).toNat=2 ^ 30-1:=by decide
 have key:(BitVec.ofInt 64 n &&& BitVec.ofInt 64 1073741823).toNat=(n % ((2 ^ 64:Nat):Int)).toNat % 2 ^ 30:=by
  rw[BitVec.toNat_and,BitVec.toNat_ofInt,hm,Nat.and_two_pow_sub_one_eq_mod]
 show IntKind.i64.wrap ((BitVec.ofInt 64 n &&& BitVec.ofInt 64 1073741823).toNat:Nat)=n % 1073741824
 rw[key,IntKind.wrap_i64]
 omega
def Cur (w:World)(g:Nat):Prop:=
 ∃(a:Option Addr) (n c:Nat) (l:List Int) (i h:Int),w.heap[g]?=some (.cells #[.slice a n c,.int .i64 i,.int .i64 h] 74 (0,0))/\0<=i/\i<=n/\n<=9223372036854775807 ∧
  l.length=n/\(∀x ∈ l,0<=x/\x<=255)/\(0<n->∃b off,a=some ⟨b,off,none⟩/\b<g/\∀j,j<n->w.cell? ⟨b,off+j,none⟩=some (.int .u8 (l[j]?.getD 0)))
set_option maxRecDepth 100000 in
theorem aGk (g:Nat)(w:World)(h:Cur w g):
  Calls Tryz.prog 68 #[.pointer (some ⟨g,0,none⟩)] w fun e w'=>∃x:Int,e=.returned (.int .i64 x)/\0<=x/\x<=255/\Cur w' g/\w.grownBy w' (some g):=by
 obtain⟨a,n,c,l,i,h,hg,hi0,hi1,hn,hl,hby,hc⟩:=h
 have c0:w.cell? ⟨g,0,none⟩=some (.slice a n c):=by rw[cell_of_row w g 0 _ _ (0,0) hg];rfl
 have c1:w.cell? ⟨g,1,none⟩=some (.int .i64 i):=by rw[cell_of_row w g 1 _ _ (0,0) hg];rfl
 have c2:w.cell? ⟨g,2,none⟩=some (.int .i64 h):=by rw[cell_of_row w g 2 _ _ (0,0) hg];rfl
 have f2:w.frozen? ⟨g,2,none⟩=false:=frozen_of_row w g 2 _ _ hg
 have HG:Hid _:=hg
 clear hg;have ha255:=aPn;go_enter Tryz.func68,Tryz.ntmps68;go_wp2_with fail;generalize wrap64 (wrap64 (h*6364136223846793005)+1442695040888963407)=h1;generalize wrap64 (h*6364136223846793005)=h2
 obtain⟨w1,hw1⟩:∃w1,w1=w.setCell ⟨g,2,none⟩ (.int .i64 h1):=⟨_,rfl⟩
 rw[<-hw1]
 have hg1:w1.heap[g]?=some (.cells #[.slice a n c,.int .i64 i,.int .i64 h1] 74 (0,0)):=by
  rw[hw1,heap_setCell_same w g 2 _ _ _ HG.out];rfl
 have Az:w.grownBy w1 (some g):=by
  rw[hw1];exact⟨rfl,rfl,rfl,by simp,fun k _ hk=>heap_setCell_other w ⟨g,2,none⟩ k _ (fun e=>hk (by simp[e]))⟩
 have hc1:0<n->∃b off,a=some ⟨b,off,none⟩/\b<g/\∀j,j<n->w1.cell? ⟨b,off+j,none⟩=some (.int .u8 (l[j]?.getD 0)):=by
  intro hp;obtain⟨b,off,e,hb,hcc⟩:=hc hp
  exact⟨b,off,e,hb,fun j hj=>Az.cell (hcc j hj) (by simp;omega)⟩
 have d0:w1.cell? ⟨g,0,none⟩=some (.slice a n c):=by rw[cell_of_row w1 g 0 _ _ (0,0) hg1];rfl
 have d1:w1.cell? ⟨g,1,none⟩=some (.int .i64 i):=by rw[cell_of_row w1 g 1 _ _ (0,0) hg1];rfl
 have d2:w1.cell? ⟨g,2,none⟩=some (.int .i64 h1):=by rw[cell_of_row w1 g 2 _ _ (0,0) hg1];rfl
 have k1:w1.frozen? ⟨g,1,none⟩=false:=frozen_of_row w1 g 1 _ _ hg1
 have HC:Hid _:=hc1
 have HG1:Hid _:=hg1
 have HR:Hid _:=Az
 have HLL:Hid _:=hl
 clear hc c0 c1 c2 f2 HG hw1 hc1 hg1 Az hl;obtain⟨k,rfl⟩:=Int.eq_ofNat_of_zero_le hi0
 have hcur:Hid (∀(w2:World) (k':Nat),w2.heap[g]?=some (.cells #[.slice a n c,.int .i64 k',.int .i64 h1] 74 (0,0))->k'<=n->w1.grownBy w2 (some g)->Cur w2 g/\w.grownBy w2 (some g)):=by
  intro w2 k' hb hk' hgr2
  refine⟨⟨a,n,c,l,k',h1,hb,by omega,by omega,hn,HLL.out,hby,fun hp=>?_⟩, ?_⟩
  .
   obtain⟨b,off,e,hbg,hcc⟩:=HC.out hp
   exact⟨b,off,e,hbg,fun j hj=>hgr2.cell (hcc j hj) (by simp;omega)⟩
  .
   have h1':=HR.out
   exact⟨hgr2.os.trans h1'.os,hgr2.tape.trans h1'.tape,hgr2.output.trans h1'.output,zF2 h1'.size hgr2.size,fun b hb Aw=>(hgr2.block b (Nat.lt_of_lt_of_le hb h1'.size) Aw).trans (h1'.block b hb Aw)⟩
 by_cases hin:k<n
 .
  obtain⟨b,off,rfl,hbg,hcc⟩:=HC.out Q0;have hx:=hcc k hin;have hxb:=qJ hby k
  have hst:Hid (∀q,((w1.drewN q).setCell ⟨g,1,none⟩ (.int .i64 ((k:Int)+1))).heap[g]?=some (.cells #[.slice (some ⟨b,off,none⟩) n c,.int .i64 ((k+1:Nat):Int),.int .i64 h1] 74 (0,0))/\w1.grownBy ((w1.drewN q).setCell ⟨g,1,none⟩ (.int .i64 ((k:Int)+1))) (some g)):=by
   intro q
   refine⟨?_,⟨rfl,rfl,rfl,by simp,fun j _ hj=>heap_setCell_other w1 ⟨g,1,none⟩ j _ (fun e=>hj (by simp[e]))⟩⟩
   rw[heap_setCell_same (w1.drewN q) g 1 _ _ _ HG1.out];rfl
  have hin':(k:Int)<(n:Int):=Q0;clear hcc HC HG1 HR HLL hby
  go_quiet (fail)
  go_wp2_with fail
  go_quiet (fail)
  go_wp2_with fail
  go_quiet (fail)
  go_wp2;go_ret
  have HH:=fun q=>hcur.out _ (k+1) (hst.out q).1 Q0 (hst.out q).2
  refine⟨_,rfl, ?_, ?_,(HH _).1,(HH _).2⟩
  .
   omega
  .
   omega
 .
  clear HC HR HLL hby
  go_quiet (fail)
  go_wp2_with fail
  go_quiet (fail)
  go_wp2;go_ret
  have HH:=fun p q=>hcur.out ((w1.drewN p).drewN q) k HG1.out Q0 ⟨rfl,rfl,rfl,zB0 _,fun _ _ _=>rfl⟩
  refine⟨_,rfl, ?_, ?_,(HH _ _).1,(HH _ _).2⟩
  .
   omega
  .
   omega
theorem aD {w w1 w2:World}{row:Option Nat}(h1:w.grownBy w1 row)(h2:w1.grownBy w2 row):w.grownBy w2 row:=
 ⟨h2.os.trans h1.os,h2.tape.trans h1.tape,h2.output.trans h1.output,zF2 h1.size h2.size,fun b hb Aw=>(h2.block b (Nat.lt_of_lt_of_le hb h1.size) Aw).trans (h1.block b hb Aw)⟩
def tS (w w':World)(g:Nat):Prop:=Cur w' g/\w.grownBy w' (some g)
theorem tS.trans {w w1 w2:World}{g:Nat}(h1:tS w w1 g)(h2:tS w1 w2 g):tS w w2 g:=⟨h2.1,aD h1.2 h2.2⟩
set_option maxRecDepth 100000 in
theorem aPk (g:Nat)(n:Int)(w:World)(h:Cur w g)(hn:n<=1099511627776):
  Calls Tryz.prog 30 #[.pointer (some ⟨g,0,none⟩),.int .i64 n] w fun e w'=>∃x:Int,e=.returned (.int .i64 x)/\0<=x/\(0<n->x<n)/\(n<=0->x=0)/\tS w w' g:=by
 by_cases h0:n<=0
 .
  have hh:tS w w g:=⟨h,World.grownBy.refl _ _⟩
  clear h;go_enter Tryz.func30,Tryz.ntmps30;go_wp2;go_ret
  exact⟨0,rfl,by omega,fun h=>absurd h Q0,fun _=>rfl,hh⟩
 .
  by_cases h256:n<=256
  .
   go_enter Tryz.func30,Tryz.ntmps30;go_wp2_with fail;refine(aGk g _ h).mono ?_;rintro e w1 ⟨x,rfl,hx0,hx1,hd⟩;have Aw:¬n=0:=Q0
   have hd':tS w w1 g:=hd
   clear hd h;exact U64
  .
   go_enter Tryz.func30,Tryz.ntmps30;go_wp2_with fail;refine(aGk g _ h).mono ?_;rintro e w1 ⟨x,rfl,hx0,hx1,hc1,hd1⟩;go_wp2_with fail;refine(aGk g _ hc1).mono ?_;rintro e w2 ⟨y,rfl,hy0,hy1,hc2,hd2⟩;go_wp2_with fail;refine(aGk g _ hc2).mono ?_;rintro e w3 ⟨z,rfl,hz0,hz1,hc3,hd3⟩;go_wp2_with fail;refine(aGk g _ hc3).mono ?_;rintro e w4 ⟨u,rfl,hu0,hu1,hc4,hd4⟩;have Aw:¬n=0:=Q0
   have hd':tS w w4 g:=⟨hc4,aD hd1 (aD hd2 (aD hd3 hd4))⟩
   clear hc1 hc2 hc3 hc4 hd1 hd2 hd3 hd4 h;exact U64
theorem Cur.kept {w w':World}{g:Nat}{row:Option Nat}(h:Cur w g)(hg:w.grownBy w' row)(hr:∀k,row=some k->g<k):Cur w' g:=by
 obtain⟨a,n,c,l,i,h,hb,hi0,hi1,hn,hl,hby,hc⟩:=h;have Aj:g<w.heap.size:=(zJ0.1 hb).1
 refine⟨a,n,c,l,i,h,by rw[hg.block g Aj (fun e=>by have:=hr g e.symm;omega)];exact hb,hi0,hi1,hn,hl,hby,fun hp=>?_⟩
 obtain⟨b,off,e,hbg,hcc⟩:=hc hp
 exact⟨b,off,e,hbg,fun j hj=>hg.cell (hcc j hj) (fun e=>by have:=hr b e.symm;omega)⟩
theorem Cur.lt {w:World}{g:Nat}(h:Cur w g):g<w.heap.size:=by
 obtain⟨a,n,c,l,i,h,hb,_⟩:=h;exact(zJ0.1 hb).1
theorem Cur.alloc {w:World}{g:Nat}(h:Cur w g)(o:Obj):Cur (w.alloc o) g:=h.kept (World.grownBy_alloc w o none) (by intro k hk;cases hk)
theorem Below.drawn {B:Nat}{w0 w w':World}{g:Nat}(h:Below B w0 w)(hd:w.grownBy w' (some g))(hB:B<=w.heap.size)(hg:B<=g):Below B w0 w':=
 h.grown hd hB (by intro k hk;cases hk;exact hg)
set_option maxRecDepth 100000 in
set_option maxHeartbeats 2000000 in
theorem aSw (a:Option Addr)(n c:Nat)(l:List Int)(w:World)(h:eG w a n l)(hn:n<=9223372036854775807):
  Calls Tryz.prog 11 #[.slice a n c] w fun e w'=>∃g,e=.returned (.pointer (some ⟨g,0,none⟩))/\w.heap.size<=g/\Cur w' g/\Below w.heap.size w w':=by
 have hcur:∀hh:Int,Cur (w.alloc (.cells #[.slice a n c,.int .i64 0,.int .i64 hh] 74)) w.heap.size:=by
  intro hh
  refine⟨a,n,c,l,0,hh,zJ1 w _,by omega,by omega,hn,h.1,h.2.1,fun hp=>?_⟩
  obtain⟨b,off,e,hc⟩:=h.2.2 hp;have hbl:b<w.heap.size:=zI3 w _ (hc 0 hp)
  exact⟨b,off,e,hbl,fun j hj=>by rw[((zD2 w.heap.size w).alloc (zB0 _) _).cell (p:=⟨b,off+j,none⟩) hbl];exact hc j hj⟩
 have HC:Hid _:=hcur
 clear hcur;obtain⟨_,hby,hc⟩:=h;have ha30:=aR0
 rcases zG0 n with h0|hpos
 .
  subst h0;clear hc hby;go_enter Tryz.func11,Tryz.ntmps11;go_wp2;refine zH1 1 ?_;rw[zE2];go_wp2;go_ret;exact⟨_,rfl,zB0 _,HC.out _,(zD2 _ _).alloc (zB0 _) _⟩
 .
  obtain⟨b,off,rfl,hd⟩:=hc hpos;clear hc;go_enter Tryz.func11,Tryz.ntmps11;go_wp2
  go_loop [3,4] (fun hh i=>∃(j:Nat) (q:Int),j<=n/\i=.int .i64 j/\hh=.int .i64 q) (fun _ i=>n-(intOf i).toNat)
  case atStart=>exact⟨0,_,zD1 _,rfl,rfl⟩
  case round=>
   obtain⟨j,q,hj,rfl,rfl⟩:=hrel
   by_cases Aj:j<n/\j<4000
   .
    obtain⟨Aj,hlt2⟩:=Aj;have hx:=hd j Aj;have hb:=qJ hby j;clear hd;go_wp2
    go_round
    case rel=>exact⟨j+1,_,by omega,by go_num,rfl⟩
    case measure=>simp[intOf];omega
   .
    clear hd
    by_cases Aj:j<n
    all_goals
     go_wp2;go_ret;exact⟨_,rfl,zB0 _,HC.out _,(zD2 _ _).alloc (zB0 _) _⟩
structure aTg (w w':World) (g:Nat) (a:Option Addr) (n c:Nat) (l:List Int):Prop where
 own:Own w' w.heap.size (.slice a n c) n l
 row:eG w' a n l
 cap:n<=c
 most:c<=maxLen
 nil:a=none->c=0
 block:∀k,(Value.slice a n c).ownBlock=some k->w.heap.size<=k/\k<w'.heap.size
 drawn:tS w w' g
end Go.Proofs.YtffphdacgblaoaaGreatDoor

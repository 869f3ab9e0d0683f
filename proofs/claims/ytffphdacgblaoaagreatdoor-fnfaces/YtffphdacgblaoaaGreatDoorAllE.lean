import Derived.Test.YtffphdacgblaoaaGreatDoorAll
import Derived.RangeFuncOwn
namespace Go.Proofs.YtffphdacgblaoaaGreatDoor
set_option maxHeartbeats 4000000
open Go.RowKit
set_option linter.unusedVariables false
set_option linter.unusedSimpArgs false
set_option maxRecDepth 100000
theorem U34{p:Prop}(h:p:=by
 go_wp2_with fail
 refine HC.mono ?_
 rintro e w2 ⟨r,rfl,h1,h2⟩
 have HR:Hid ((r=true->Q w2)/\(r=false->Inv n w2/\Kc X n0 w w2)):=⟨h1,fun e=>⟨(h2 e).1.1,(Kc.grown y0).trans (h2 e).2⟩⟩
 clear h1 h2 HC
 go_wp2
 go_ret
 exact⟨!r,rfl,fun h=>HR.out.2 Q22,fun h=>HR.out.1 Q22⟩):p:=h
theorem U43{p:Prop}(h:p:=by
 cases be
 .
  go_wp2
  go_roundw
  case rel=>exact⟨j+1,by omega,by go_num,(HN.out (by trivial)).2,(HN.out (by trivial)).1⟩
  case measure=>simp[intOf];omega
 .
  go_wp2
  go_ret
  exact⟨_,rfl,fun _=>HY.out (by trivial),fun h=> Q0⟩):p:=h
theorem U46{p:Prop}(h:p:=by
 go_wp2_with fail
 refine H.mono ?_
 rintro e w2 ⟨r,rfl,hr,hb⟩
 have HR:Hid ((0<=r->Q w2)/\(r<0->Inv n w2/\Kc X n0 w w2)):=⟨hr,hb⟩
 clear hr hb H
 go_wp2
 go_ret
 exact⟨_,rfl,fun h=>HR.out.1 Q22,fun h=>HR.out.2 Q22⟩):p:=h
theorem U50{p:Prop}(h:p:=by
 rintro e w' ⟨b,rfl,h3,h4⟩
 refine⟨b,rfl,fun h=>?_,fun h=>h4 Q22⟩
 obtain⟨h5,h6⟩:=h3 Q22
 have h7:Kc X n0 wr w':=(Kc.grown hw1).trans h6
 exact⟨⟨h5,h7.cell hX hi.2⟩,h7⟩):p:=h
theorem U70{p:Prop}(h:p:=by
 go_wp2_with fail
 refine zH1 1 ?_
 rw[zE2]
 go_wp2
 go_ret
 exact⟨_,rfl,fun h=> Q0,fun _=>⟨H0.out,Kc.refl _ _ _⟩⟩):p:=h
theorem U90{p:Prop}(h:p:=by
 have:j=n:=Q0
 subst this
 go_wp2
 go_ret
 exact⟨_,rfl,fun h=> Q0,fun _=>⟨hinv.out,Az.out⟩⟩):p:=h
theorem U91{p:Prop}(h:p:=by
 refine h1.mono ?_
 rintro e w' ⟨b,rfl,h3,h4⟩
 exact⟨!b,rfl,fun h=>h3 Q22,fun h=>h4 Q22⟩):p:=h
structure Kc (X:Nat->Prop) (n0:Nat) (W W':World):Prop where
 os:W'.os=W.os
 tape:W'.tape=W.tape
 output:W'.output=W.output
 size:W.heap.size<=W'.heap.size
 same:∀k o,W.heap[k]?=some o->¬X k->(o.isCells=true\/k<n0)->W'.heap[k]?=some o
theorem Kc.refl (X:Nat->Prop)(n0:Nat)(W:World):Kc X n0 W W:=⟨rfl,rfl,rfl,zB0 _,fun _ _ h _ _=>h⟩
theorem Kc.trans {X:Nat->Prop}{n0:Nat}{A B C:World}(h:Kc X n0 A B)(k:Kc X n0 B C):Kc X n0 A C:=
 ⟨k.os.trans h.os,k.tape.trans h.tape,k.output.trans h.output,zF2 h.size k.size,fun i o ho hx hc=>k.same i o (h.same i o ho hx hc) hx hc⟩
theorem Kc.grown {X:Nat->Prop}{n0:Nat}{A B:World}(h:A.grownBy B none):Kc X n0 A B:=
 ⟨h.os,h.tape,h.output,h.size,fun k o ho _ _=>(h.block k (zJ0.1 ho).1 Q9).trans ho⟩
theorem tJ {W:World}{p:Addr}{v:Value}(h:W.cell? p=some v):∃o:Obj,W.heap[p.block]?=some o/\o.isCells=true:=by
 unfold World.cell? at h
 cases ho:W.heap[p.block]? with
 | none=>simp[ho]at h
 | some o=>exact⟨o,rfl,by cases o <;> simp_all[Obj.isCells]⟩
theorem Kc.cell {X:Nat->Prop}{n0:Nat}{W W':World}(h:Kc X n0 W W'){p:Addr}{v:Value}(hx:¬X p.block)(hc:W.cell? p=some v):W'.cell? p=some v:=by
 obtain⟨o,ho,hcs⟩:=tJ hc;rw[World.cell?_of_block (a:=p) ((h.same _ o ho hx (.inl hcs)).trans ho.symm)];exact hc
theorem Kc.below {X:Nat->Prop}{n0:Nat}{w0 W W':World}(hb:Below w0.heap.size w0 W)(h:Kc X n0 W W')(h0:w0.heap.size<=n0)(hx:∀k,X k->w0.heap.size<=k):Below w0.heap.size w0 W':=
 ⟨h.os.trans hb.os,h.tape.trans hb.tape,h.output.trans hb.output,zF2 hb.size h.size,fun k hk=>by
  have e:=hb.block k hk;have hl:=Nat.lt_of_lt_of_le hk hb.size;rw[<-e,Array.getElem?_eq_getElem hl]
  exact h.same k _ (Array.getElem?_eq_getElem hl) (fun hX=>by have:=hx k hX;omega) (.inr Q0)⟩
structure lS (s:Bool) (G:Nat) (caps:Array Value) (X:Nat->Prop) (n0:Nat) (mkv:List Value->Value) (a:Option Addr) (c K:Nat) (rs:List (List Fl)) (Inv:Nat->World->Prop) (Q:World->Prop):Prop where
 ent:Ent G
 rows:∀j wr,Inv j wr->bQ wr a c K rs
 each:∀r ∈ rs,r.length=K
 go:∀j r wr vs,rs[j]?=some r->Inv j wr->cC wr r vs->nY wr a (j*K) vs->Calls Tryz.prog G (#[mkv vs]++caps) wr fun e w'=>∃b:Bool,e=.returned (.bool b)/\(b=(!s)->Inv (j+1) w'/\Kc X n0 wr w')/\(b=s->Q w')
theorem aCx (C:Nat)(caps:Array Value)(X:Nat->Prop)(n0:Nat)(a:Option Addr)(n c:Nat)(rs:List (List Fl))(Inv:Nat->World->Prop)(Q:World->Prop)(w:World)
  (H:lS true C caps X n0 agg a c 5 rs Inv Q) (hn:rs.length=n) (h0:Inv 0 w):
  Calls Tryz.prog 173 #[.slice a n c,.func (.func C) #[] caps] w fun e w'=>∃r:Int,e=.returned (.int .i64 r)/\(0<=r->Q w')/\(r<0->Inv n w'/\Kc X n0 w w'):=by
 refine M966 ?_;intro Hd HA hC hl0 hcn H0;clear H h0
 rcases zG0 n with h0|hpos
 .
  subst h0;clear hl0 hn;go_enter Tryz.func173,Tryz.ntmps173;exact U70
 .
  obtain⟨b,off,rfl⟩:=hl0.addr (by rw[hn];exact hpos)
  clear hl0 hn;go_enter Tryz.func173,Tryz.ntmps173;go_wp2_with fail
  go_loopw [5,8] (fun _ i wr=>∃j:Nat,j<=n/\i=.int .i64 j/\Hid (Kc X n0 w wr)/\Hid (Inv j wr)) (fun _ i _=>n-(intOf i).toNat)
  case atStart=>exact⟨0,zD1 _,rfl,Kc.refl _ _ _,H0⟩
  case round=>
   obtain⟨j,hj,rfl,Az,hinv⟩:=hrel
   by_cases Aj:j<n
   .
    obtain⟨r,hr⟩:∃r,rs[j]?=some r:=⟨rs[j]'(by rw[Hd.out];exact Aj),zA0 _⟩
    obtain⟨vs,Ai,Ab⟩:=((lS.rows HA.out j wr hinv.out).el hr).vals;have HC:=lS.go HA.out j r wr vs hr hinv.out Ai ⟨b,off,rfl,Ab⟩;have Ak:vs.length=5:=(Ai.len).trans (lS.each HA.out r (zA3 hr))
    obtain⟨v0,v1,v2,v3,v4,rfl⟩:∃v0 v1 v2 v3 v4,vs=[v0,v1,v2,v3,v4]:=by
     match vs,Ak with
     | [v0,v1,v2,v3,v4],_=>exact⟨v0,v1,v2,v3,v4,rfl⟩
    clear Ak Ai hr
    have q0:wr.cell? ⟨b,off+j*5,none⟩=some v0:=Ab 0 _ rfl
    have q1:wr.cell? ⟨b,off+j*5+1,none⟩=some v1:=Ab 1 _ rfl
    have q2:wr.cell? ⟨b,off+j*5+2,none⟩=some v2:=Ab 2 _ rfl
    have q3:wr.cell? ⟨b,off+j*5+3,none⟩=some v3:=Ab 3 _ rfl
    have q4:wr.cell? ⟨b,off+j*5+4,none⟩=some v4:=Ab 4 _ rfl
    clear Ab;simp only[agg,List.getElem?_cons_zero,zI1]at HC;go_wp2_with fail;rw[hC,Oper.upon_enter];refine HC.mono ?_;rintro e w2 ⟨be,rfl,hn2,hy2⟩
    have HN:Hid (be=false->Inv (j+1) w2/\Kc X n0 w w2):=fun e=>⟨(hn2 e).1,Az.out.trans (hn2 e).2⟩
    have HY:=hid hy2;clear q0 q1 q2 q3 q4 HC hn2 hy2;exact U43
   .
    exact U90
theorem tF (C:Nat)(caps:Array Value)(X:Nat->Prop)(n0:Nat)(a:Option Addr)(n c:Nat)(rs:List (List Fl))(Inv:Nat->World->Prop)(Q:World->Prop)(w:World)
  (H:lS true C caps X n0 agg a c 5 rs Inv Q) (hn:rs.length=n) (h0:Inv 0 w):
  Calls Tryz.prog 160 #[.slice a n c,.func (.func C) #[] caps] w fun e w'=>∃r:Bool,e=.returned (.bool r)/\(r=true->Q w')/\(r=false->Inv n w'/\Kc X n0 w w'):=by
 have H:=aCx C caps X n0 a n c rs Inv Q w H hn h0;clear h0 hn;go_enter Tryz.func160,Tryz.ntmps160;exact U46
theorem yI (G:Nat)(caps:Array Value)(v0 v1 v2 v3 v4:Value)(g:Nat)(R:Bool->World->Prop)(w:World)
  (hg:w.cell? ⟨g,0,none⟩=some (.func (.func G) #[] caps)) (hG:Ent G)
  (H:∀w1,w.grownBy w1 none->Calls Tryz.prog G (#[.agg #[v0,v1,v2,v3,v4]]++caps) w1 fun e w'=>∃b:Bool,e=.returned (.bool b)/\R b w'):
  Calls Tryz.prog 161 #[.agg #[v0,v1,v2,v3,v4],.pointer (some ⟨g,0,none⟩)] w fun e w'=>∃b:Bool,e=.returned (.bool (!b))/\R b w':=by
 have H1:=H _ (aB w (.cells #[v0,v1,v2,v3,v4] 119 (0,0)) none)
 have y0:Below w.heap.size w (w.alloc (.cells #[v0,v1,v2,v3,v4] 119 (0,0))):=(zD2 _ _).alloc (zB0 _) _
 have g1:=aC hg y0;have q0:=aN w 119 #[v0,v1,v2,v3,v4] 0 _ rfl;have q1:=aN w 119 #[v0,v1,v2,v3,v4] 1 _ rfl;have q2:=aN w 119 #[v0,v1,v2,v3,v4] 2 _ rfl;have q3:=aN w 119 #[v0,v1,v2,v3,v4] 3 _ rfl;have q4:=aN w 119 #[v0,v1,v2,v3,v4] 4 _ rfl;clear H hg y0;go_enter Tryz.func161,Tryz.ntmps161;go_upto_region 1 with fail;generalize w.alloc (.cells #[v0,v1,v2,v3,v4] 119 (0,0))=w1 at *;go_wp2_with fail;rw[hG,Oper.upon_enter];refine H1.mono ?_;rintro e w2 ⟨be,rfl,hR⟩;clear g1 q0 q1 q2 q3 q4;go_wp2;go_ret;exact⟨be,rfl,hR⟩
theorem aJl (G:Nat)(caps:Array Value)(X:Nat->Prop)(n0:Nat)(a:Option Addr)(n c:Nat)(rs:List (List Fl))(Inv:Nat->World->Prop)(Q:World->Prop)(w:World)
  (H:lS false G caps X n0 agg a c 5 rs Inv Q) (hn:rs.length=n) (h0:Inv 0 w) (hgrow:∀j w w',Inv j w->w.grownBy w' none->Inv j w') (hX:¬X w.heap.size):
  Calls Tryz.prog 149 #[.slice a n c,.func (.func G) #[] caps] w fun e w'=>∃r:Bool,e=.returned (.bool r)/\(r=true->Inv n w'/\Kc X n0 w w')/\(r=false->Q w'):=by
 have x0:=aN w 181 #[.func (.func G) #[] caps] 0 _ rfl
 have HA:lS true 161 #[.pointer (some ⟨w.heap.size,0,none⟩)] X n0 agg a c 5 rs (fun j wr=>Inv j wr/\wr.cell? ⟨w.heap.size,0,none⟩=some (.func (.func G) #[] caps)) Q:=by
  refine⟨cQ Tryz.func161 rfl rfl,fun j wr h=>H.rows j wr h.1,H.each, ?_⟩
  intro j r wr vs hr hi Ai hca;have Ak:vs.length=5:=(Ai.len).trans (H.each r (zA3 hr))
  obtain⟨v0,v1,v2,v3,v4,rfl⟩:∃v0 v1 v2 v3 v4,vs=[v0,v1,v2,v3,v4]:=by
   match vs,Ak with
   | [v0,v1,v2,v3,v4],_=>exact⟨v0,v1,v2,v3,v4,rfl⟩
  have h1:=yI G caps v0 v1 v2 v3 v4 w.heap.size (fun b w'=>(b=true->(Inv (j+1) w'/\w'.cell? ⟨w.heap.size,0,none⟩=some (.func (.func G) #[] caps))/\Kc X n0 wr w')/\(b=false->Q w')) wr hi.2 H.ent ?_
  .
   exact U91
  .
   intro w1 hw1;refine(H.go j r w1 [v0,v1,v2,v3,v4] hr (hgrow _ _ _ hi.1 hw1) (Ai.below (aA hw1)) (hca.below (aA hw1))).mono ?_;exact U50
 have y0:=aB w (.cells #[.func (.func G) #[] caps] 181 (0,0)) none;have HC:=tF 161 #[.pointer (some ⟨w.heap.size,0,none⟩)] X n0 a n c rs _ Q (w.alloc (.cells #[.func (.func G) #[] caps] 181 (0,0))) HA hn ⟨hgrow _ _ _ h0 y0,x0⟩;clear HA H hgrow hn h0;go_enter Tryz.func149,Tryz.ntmps149;exact U34
theorem aCw (C:Nat)(caps:Array Value)(X:Nat->Prop)(n0:Nat)(a:Option Addr)(n c:Nat)(rs:List (List Fl))(Inv:Nat->World->Prop)(Q:World->Prop)(w:World)
  (H:lS true C caps X n0 agg a c 6 rs Inv Q) (hn:rs.length=n) (h0:Inv 0 w):
  Calls Tryz.prog 159 #[.slice a n c,.func (.func C) #[] caps] w fun e w'=>∃r:Int,e=.returned (.int .i64 r)/\(0<=r->Q w')/\(r<0->Inv n w'/\Kc X n0 w w'):=by
 refine M966 ?_;intro Hd HA hC hl0 hcn H0;clear H h0
 rcases zG0 n with h0|hpos
 .
  subst h0;clear hl0 hn;go_enter Tryz.func159,Tryz.ntmps159;exact U70
 .
  obtain⟨b,off,rfl⟩:=hl0.addr (by rw[hn];exact hpos)
  clear hl0 hn;go_enter Tryz.func159,Tryz.ntmps159;go_wp2_with fail
  go_loopw [5,8] (fun _ i wr=>∃j:Nat,j<=n/\i=.int .i64 j/\Hid (Kc X n0 w wr)/\Hid (Inv j wr)) (fun _ i _=>n-(intOf i).toNat)
  case atStart=>exact⟨0,zD1 _,rfl,Kc.refl _ _ _,H0⟩
  case round=>
   obtain⟨j,hj,rfl,Az,hinv⟩:=hrel
   by_cases Aj:j<n
   .
    obtain⟨r,hr⟩:∃r,rs[j]?=some r:=⟨rs[j]'(by rw[Hd.out];exact Aj),zA0 _⟩
    obtain⟨vs,Ai,Ab⟩:=((lS.rows HA.out j wr hinv.out).el hr).vals;have HC:=lS.go HA.out j r wr vs hr hinv.out Ai ⟨b,off,rfl,Ab⟩;have Ak:vs.length=6:=(Ai.len).trans (lS.each HA.out r (zA3 hr))
    obtain⟨v0,v1,v2,v3,v4,v5,rfl⟩:∃v0 v1 v2 v3 v4 v5,vs=[v0,v1,v2,v3,v4,v5]:=by
     match vs,Ak with
     | [v0,v1,v2,v3,v4,v5],_=>exact⟨v0,v1,v2,v3,v4,v5,rfl⟩
    clear Ak Ai hr
    have q0:wr.cell? ⟨b,off+j*6,none⟩=some v0:=Ab 0 _ rfl
    have q1:wr.cell? ⟨b,off+j*6+1,none⟩=some v1:=Ab 1 _ rfl
    have q2:wr.cell? ⟨b,off+j*6+2,none⟩=some v2:=Ab 2 _ rfl
    have q3:wr.cell? ⟨b,off+j*6+3,none⟩=some v3:=Ab 3 _ rfl
    have q4:wr.cell? ⟨b,off+j*6+4,none⟩=some v4:=Ab 4 _ rfl
    have q5:wr.cell? ⟨b,off+j*6+5,none⟩=some v5:=Ab 5 _ rfl
    clear Ab;simp only[agg,List.getElem?_cons_zero,zI1]at HC;go_wp2_with fail;rw[hC,Oper.upon_enter];refine HC.mono ?_;rintro e w2 ⟨be,rfl,hn2,hy2⟩
    have HN:Hid (be=false->Inv (j+1) w2/\Kc X n0 w w2):=fun e=>⟨(hn2 e).1,Az.out.trans (hn2 e).2⟩
    have HY:=hid hy2;clear q0 q1 q2 q3 q4 q5 HC hn2 hy2;exact U43
   .
    exact U90
theorem tE (C:Nat)(caps:Array Value)(X:Nat->Prop)(n0:Nat)(a:Option Addr)(n c:Nat)(rs:List (List Fl))(Inv:Nat->World->Prop)(Q:World->Prop)(w:World)
  (H:lS true C caps X n0 agg a c 6 rs Inv Q) (hn:rs.length=n) (h0:Inv 0 w):
  Calls Tryz.prog 147 #[.slice a n c,.func (.func C) #[] caps] w fun e w'=>∃r:Bool,e=.returned (.bool r)/\(r=true->Q w')/\(r=false->Inv n w'/\Kc X n0 w w'):=by
 have H:=aCw C caps X n0 a n c rs Inv Q w H hn h0;clear h0 hn;go_enter Tryz.func147,Tryz.ntmps147;exact U46
theorem yH (G:Nat)(caps:Array Value)(v0 v1 v2 v3 v4 v5:Value)(g:Nat)(R:Bool->World->Prop)(w:World)
  (hg:w.cell? ⟨g,0,none⟩=some (.func (.func G) #[] caps)) (hG:Ent G)
  (H:∀w1,w.grownBy w1 none->Calls Tryz.prog G (#[.agg #[v0,v1,v2,v3,v4,v5]]++caps) w1 fun e w'=>∃b:Bool,e=.returned (.bool b)/\R b w'):
  Calls Tryz.prog 148 #[.agg #[v0,v1,v2,v3,v4,v5],.pointer (some ⟨g,0,none⟩)] w fun e w'=>∃b:Bool,e=.returned (.bool (!b))/\R b w':=by
 have H1:=H _ (aB w (.cells #[v0,v1,v2,v3,v4,v5] 116 (0,0)) none)
 have y0:Below w.heap.size w (w.alloc (.cells #[v0,v1,v2,v3,v4,v5] 116 (0,0))):=(zD2 _ _).alloc (zB0 _) _
 have g1:=aC hg y0;have q0:=aN w 116 #[v0,v1,v2,v3,v4,v5] 0 _ rfl;have q1:=aN w 116 #[v0,v1,v2,v3,v4,v5] 1 _ rfl;have q2:=aN w 116 #[v0,v1,v2,v3,v4,v5] 2 _ rfl;have q3:=aN w 116 #[v0,v1,v2,v3,v4,v5] 3 _ rfl;have q4:=aN w 116 #[v0,v1,v2,v3,v4,v5] 4 _ rfl;have q5:=aN w 116 #[v0,v1,v2,v3,v4,v5] 5 _ rfl;clear H hg y0;go_enter Tryz.func148,Tryz.ntmps148;go_upto_region 1 with fail;generalize w.alloc (.cells #[v0,v1,v2,v3,v4,v5] 116 (0,0))=w1 at *;go_wp2_with fail;rw[hG,Oper.upon_enter];refine H1.mono ?_;rintro e w2 ⟨be,rfl,hR⟩;clear g1 q0 q1 q2 q3 q4 q5;go_wp2;go_ret;exact⟨be,rfl,hR⟩
theorem aJk (G:Nat)(caps:Array Value)(X:Nat->Prop)(n0:Nat)(a:Option Addr)(n c:Nat)(rs:List (List Fl))(Inv:Nat->World->Prop)(Q:World->Prop)(w:World)
  (H:lS false G caps X n0 agg a c 6 rs Inv Q) (hn:rs.length=n) (h0:Inv 0 w) (hgrow:∀j w w',Inv j w->w.grownBy w' none->Inv j w') (hX:¬X w.heap.size):
  Calls Tryz.prog 135 #[.slice a n c,.func (.func G) #[] caps] w fun e w'=>∃r:Bool,e=.returned (.bool r)/\(r=true->Inv n w'/\Kc X n0 w w')/\(r=false->Q w'):=by
 have x0:=aN w 172 #[.func (.func G) #[] caps] 0 _ rfl
 have HA:lS true 148 #[.pointer (some ⟨w.heap.size,0,none⟩)] X n0 agg a c 6 rs (fun j wr=>Inv j wr/\wr.cell? ⟨w.heap.size,0,none⟩=some (.func (.func G) #[] caps)) Q:=by
  refine⟨cQ Tryz.func148 rfl rfl,fun j wr h=>H.rows j wr h.1,H.each, ?_⟩
  intro j r wr vs hr hi Ai hca;have Ak:vs.length=6:=(Ai.len).trans (H.each r (zA3 hr))
  obtain⟨v0,v1,v2,v3,v4,v5,rfl⟩:∃v0 v1 v2 v3 v4 v5,vs=[v0,v1,v2,v3,v4,v5]:=by
   match vs,Ak with
   | [v0,v1,v2,v3,v4,v5],_=>exact⟨v0,v1,v2,v3,v4,v5,rfl⟩
  have h1:=yH G caps v0 v1 v2 v3 v4 v5 w.heap.size (fun b w'=>(b=true->(Inv (j+1) w'/\w'.cell? ⟨w.heap.size,0,none⟩=some (.func (.func G) #[] caps))/\Kc X n0 wr w')/\(b=false->Q w')) wr hi.2 H.ent ?_
  .
   exact U91
  .
   intro w1 hw1;refine(H.go j r w1 [v0,v1,v2,v3,v4,v5] hr (hgrow _ _ _ hi.1 hw1) (Ai.below (aA hw1)) (hca.below (aA hw1))).mono ?_;exact U50
 have y0:=aB w (.cells #[.func (.func G) #[] caps] 172 (0,0)) none;have HC:=tE 148 #[.pointer (some ⟨w.heap.size,0,none⟩)] X n0 a n c rs _ Q (w.alloc (.cells #[.func (.func G) #[] caps] 172 (0,0))) HA hn ⟨hgrow _ _ _ h0 y0,x0⟩;clear HA H hgrow hn h0;go_enter Tryz.func135,Tryz.ntmps135;exact U34
end Go.Proofs.YtffphdacgblaoaaGreatDoor

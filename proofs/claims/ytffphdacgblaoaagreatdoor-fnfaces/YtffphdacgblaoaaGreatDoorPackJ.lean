import Derived.Test.YtffphdacgblaoaaGreatDoorPackI
namespace Go.Proofs.YtffphdacgblaoaaGreatDoor
open Go.RowKit
set_option maxHeartbeats 4000000
set_option linter.unusedVariables false
set_option linter.unusedSimpArgs false
set_option maxRecDepth 100000
theorem Q3{p:Prop}(h:p:=by kernel_rfl):p:=h
theorem U109{p:Prop}(h:p:=by
 clear HS Ba HS2 HS3 Aa hM H5 hd c1 c2 c3 hx3 x0 x2 N2
 go_wp2
 go_ret
 exact⟨rfl,HD.out⟩):p:=h
theorem M917{p q:Prop}(k:q)(h:Kx q->p:=by
 intro kQ
 refine ta 0 ?_
 refine ta 1 ?_
 refine ta 2 ?_
 try simp only[nrm]
 exact kQ.o):p:=h ⟨k⟩
theorem M993{p q:Prop}(k:q)(h:Kx q->p:=by
 intro kQ
 (with_reducible refine H5.mono ?_)
 rintro e w3 ⟨rfl,hd⟩
 have c3:=N2.cell c2 hd.grown
 have hx3:w3.cell? ⟨w.heap.size,0,none⟩=some (.slice ax x.name.length cx)/\w3.cell? ⟨w.heap.size,1,none⟩=some (v1):=⟨N2.cell (x2.k 0) hd.grown,N2.cell (x2.k 1) hd.grown⟩
 have HS3:w3.cell? ⟨nb,0,none⟩=some (.map (some b))/\w3.cell? ⟨w.heap.size,0,none⟩=some (.slice ax x.name.length cx)/\w3.cell? ⟨w.heap.size,1,none⟩=some (v1):=⟨c3,hx3⟩
 revert HS3;revert hx3;revert c3;revert hd;revert w3
 exact kQ.o):p:=h ⟨k⟩
theorem M971{p q:Prop}(k:q)(h:Kx q->p:=by
 intro kQ
 have b12:Below w1.heap.size w1 w2:=(zD2 w1.heap.size w1).drew.trans b2
 have c2:=aC c1 b12
 have x2:=x0.below b12 Aj
 have HS2:=HS c2 x2
 have N2:=HN1.out.below b12
 revert N2;revert HS2;revert x2;revert c2;revert b12
 exact kQ.o):p:=h ⟨k⟩
theorem NT.cell {w w':World}{b k nb i:Nat}{g:List Int->Mn}{v:Value}(h:NT w b k g)(hc:w.cell? ⟨nb,i,none⟩=some v)(hg:w.grownBy w' (some b)):w'.cell? ⟨nb,i,none⟩=some v:=by
 obtain⟨f,hm,_⟩:=h.ex;obtain⟨D,⟨es,cl,hb,_⟩,_⟩:=hm.ex
 have Aw:nb ≠ b:=fun e=>by rw[e,aAw hb]at hc;cases hc
 have:=hg.block nb (zI3 w _ hc) (by simpa using Aw)
 unfold World.cell? at hc ⊢
 simp only at hc ⊢
 rw[this];exact hc
theorem cX {w0 w w':World}{b:Nat}(hb:Below w0.heap.size w0 w)(hg:w.grownBy w' (some b))(h0:w0.heap.size<=b):Below w0.heap.size w0 w':=hb.grown hg hb.size (fun k hk=>by cases hk;exact h0)
theorem jO {w w1 w':World}{b:Nat}(hg:w.grownBy w1 none)(h:w1.grownBy w' (some b)):w.grownBy w' (some b):=aD (bU hg _) h
theorem aA6.from {w w1 w':World}{b k:Nat}{g:List Int->Mn}{x:List Int}{mn:Mn}(hg:w.grownBy w1 none)(h:aA6 w1 w' b k g x mn):aA6 w w' b k g x mn:=⟨h.yes,h.no,jO hg h.grown⟩
theorem pC (G nb b k:Nat)(g:List Int->Mn)(mkv:List Value->Value)(w0:World)(a:Option Addr)(c K:Nat)(rs:List (List Fl))(l:List (List Int × Mn))(Ak:rs.length=l.length)(ent:Ent G)(each:∀r ∈ rs,r.length=K)(hL:bQ w0 a c K rs)(hb0:w0.heap.size<=b)(hk:k+l.length<=1000000)
  (HG:∀(j:Nat) (r:List Fl) (p:List Int × Mn) (wr:World) (vs:List Value) (g':List Int->Mn) (k':Nat),rs[j]?=some r->l[j]?=some p->Below w0.heap.size w0 wr->cC wr r vs->NT wr b k' g'->k'<1000000->wr.cell? ⟨nb,0,none⟩=some (.map (some b)) →
   Calls Tryz.prog G (#[mkv vs] ++ #[.pointer (some ⟨nb,0,none⟩)]) wr fun e w'=>e=.returned (.bool (decide ((g' p.1).1=0)))/\aA6 wr w' b k' g' p.1 p.2):
  aKr false G #[.pointer (some ⟨nb,0,none⟩)] (some b) mkv a c K rs (aFo g l) (fun j wr=>NT wr b (k+j) (stG g (l.take j))/\wr.cell? ⟨nb,0,none⟩=some (.map (some b))/\Below w0.heap.size w0 wr) (fun _ _=>True):=by
 refine⟨ent,fun j wr hi=>hL.below hi.2.2,each, ?_⟩
 rintro j r wr vs hr ⟨hN,hc,hb⟩ Ai _
 obtain⟨p,hp⟩:∃p,l[j]?=some p:=⟨_,zA0 (by rw[<-Ak];exact(zC1.1 hr).1)⟩
 have hj:j<l.length:=(zC1.1 hp).1;refine(HG j r p wr vs _ _ hr hp hb Ai hN Q0 hc).mono ?_;rintro e w' ⟨rfl,hd⟩
 have ef:aFo g l j=decide ((stG g (l.take j) p.1).1=0):=by unfold aFo;rw[hp];rfl
 refine⟨by rw[ef],hd.grown,fun Av=>?_,fun _=>trivial⟩
 rw[ef]at Av
 have hz:(stG g (l.take j) p.1).1=0:=by simpa using Av
 refine⟨?_,hN.cell hc hd.grown,cX hb hd.grown hb0⟩
 have:=hd.yes hz
 rw[yS hp];exact this
theorem mF {n nb b k:Nat}{g:List Int->Mn}{w0 w':World}{l:List (List Int × Mn)}{r:Bool}(hn:l.length=n)
  (h:aM0 false n (aFo g l) (fun j wr=>NT wr b (k+j) (stG g (l.take j))/\wr.cell? ⟨nb,0,none⟩=some (.map (some b))/\Below w0.heap.size w0 wr) (fun _ _=>True) (!r) w'):r=okG g l/\(r=true->NT w' b (k+n) (stG g l)):=by
 refine⟨?_,fun e=>?_⟩
 .
  unfold okG;rw[hn];exact gU h
 .
  have h2:=(h.no (by rw[e];rfl)).2.1
  rw[zD3 Q0]at h2;exact h2
theorem nC {b k nb:Nat}{g:List Int->Mn}{w0:World}{l:List (List Int × Mn)}:∀j w w',(NT w b (k+j) (stG g (l.take j))/\w.cell? ⟨nb,0,none⟩=some (.map (some b))/\Below w0.heap.size w0 w)->w.grownBy w' none->(NT w' b (k+j) (stG g (l.take j))/\w'.cell? ⟨nb,0,none⟩=some (.map (some b))/\Below w0.heap.size w0 w'):=
 fun j w w' h hg=>⟨h.1.grown hg,aC h.2.1 (aA hg),h.2.2.trans ((aA hg).mono h.2.2.size)⟩
theorem aRr (x:Va)(vs:List Value)(w:World)(b k nb:Nat)(g:List Int->Mn)(h:cC w x.fl vs)(hN:NT w b k g)(hk:k<1000000)(hc:w.cell? ⟨nb,0,none⟩=some (.map (some b)))(hnl:x.name.length<=1048576):
  Calls Tryz.prog 39 #[agg vs,.pointer (some ⟨nb,0,none⟩)] w fun e w'=>e=.returned (.bool (decide ((g x.name).1=0)))/\aA6 w w' b k g x.name (oN x):=by
 have hh:=h;obtain⟨v0,_,rfl,⟨ax,cx,rfl,hbx,_⟩,v1,_,rfl,_,rfl⟩:=hh;have x0:=Blk.new w 82 [.slice ax x.name.length cx,v1];have y0:=aB w (.cells #[.slice ax x.name.length cx,v1] 82 (0,0)) none;have N1:=hN.grown y0;have c1:=aC hc (aA y0)
 have HX:Hid (eG (w.alloc (.cells #[.slice ax x.name.length cx,v1] 82 (0,0))) ax x.name.length x.name):=hbx.below (aA y0)
 have Aj:w.heap.size<(w.alloc (.cells #[.slice ax x.name.length cx,v1] 82 (0,0))).heap.size:=x0.lt
 simp only[List.toArray]at x0;simp only[agg]at h ⊢;go_enter Tryz.func39,Tryz.ntmps39;go_upto_region 1 with fail
 have hM:Calls Tryz.prog 41 #[.agg #[.slice ax x.name.length cx,v1]] (w.alloc (.cells #[.slice ax x.name.length cx,v1] 82 (0,0))).drew _:=aA9 x [.slice ax x.name.length cx,v1] (w.alloc (.cells #[.slice ax x.name.length cx,v1] 82 (0,0))).drew (cC.below h ((aA y0).drew))
 generalize w.alloc (.cells #[.slice ax x.name.length cx,v1] 82 (0,0))=w1 at *
 have Y0:Hid (w.grownBy w1 none):=y0
 have HN1:Hid (NT w1 b k g):=N1
 clear hN N1 h hbx hc y0;go_wp2_with fail
 have HS:∀{wl:World},wl.cell? ⟨nb,0,none⟩=some (.map (some b))->Blk wl w.heap.size 82 [.slice ax x.name.length cx,v1]->wl.cell? ⟨nb,0,none⟩=some (.map (some b))/\wl.cell? ⟨w.heap.size,0,none⟩=some (.slice ax x.name.length cx)/\wl.cell? ⟨w.heap.size,1,none⟩=some (v1):=fun h1 h2=>⟨h1,h2.k 0,h2.k 1⟩
 have Ba:=HS (wl:=w1.drew) c1 x0
 refine zK1 (S:=fun wl=>wl.cell? ⟨nb,0,none⟩=some (.map (some b))/\wl.cell? ⟨w.heap.size,0,none⟩=some (.slice ax x.name.length cx)/\wl.cell? ⟨w.heap.size,1,none⟩=some (v1)) Q3 Ba (fun Aa=>?_)
 refine M917 ?_;refine ta 3 ?_;try simp only[nrm]
 refine ra 4 fun K hK=>?_
 go_simp
 (with_reducible refine hM.mono ?_)
 rintro e w2 ⟨rfl,b2⟩;refine M971 ?_;intro b12 c2 x2 HS2 N2;have H5:=pA w2 b k g N2 hk ax x.name.length cx x.name (eG.below HX.out b12) hnl (oN x).1 (.slice none 0 0) [] (zP w2);go_wp2_with fail
 refine hK.out _ _ (HS2) (fun Aa=>?_)
 clear hK K;try simp only[nrm]
 refine ra 5 fun K hK=>?_
 go_simp;refine M993 ?_;intro w3 hd c3 hx3 HS3;go_wp2_with fail
 refine hK.out _ _ (HS3) (fun Aa=>?_)
 clear hK K;try simp only[nrm]
 refine ta 6 ?_;try simp only[nrm]
 refine zK2 Q3 ?_ _
 have HD:Hid (aA6 w w3 b k g x.name (oN x)):=aA6.from (aD Y0.out (aW b12 none)) hd
 exact U109
theorem aPc (x:Pr)(vs:List Value)(w:World)(b k nb:Nat)(g:List Int->Mn)(h:cC w x.fl vs)(hN:NT w b k g)(hk:k<1000000)(hc:w.cell? ⟨nb,0,none⟩=some (.map (some b)))(hnl:x.name.length<=1048576)(hpl:x.params.length<=1048576):
  Calls Tryz.prog 43 #[agg vs,.pointer (some ⟨nb,0,none⟩)] w fun e w'=>e=.returned (.bool (decide ((g x.name).1=0)))/\aA6 w w' b k g x.name (zE x):=by
 have hh:=h;obtain⟨v0,_,rfl,⟨ax,cx,rfl,hbx,_⟩,v1,_,rfl,_,v2,_,rfl,_,v3,_,rfl,_,v4,_,rfl,_,rfl⟩:=hh;have x0:=Blk.new w 55 [.slice ax x.name.length cx,v1,v2,v3,v4];have y0:=aB w (.cells #[.slice ax x.name.length cx,v1,v2,v3,v4] 55 (0,0)) none;have N1:=hN.grown y0;have c1:=aC hc (aA y0)
 have HX:Hid (eG (w.alloc (.cells #[.slice ax x.name.length cx,v1,v2,v3,v4] 55 (0,0))) ax x.name.length x.name):=hbx.below (aA y0)
 have Aj:w.heap.size<(w.alloc (.cells #[.slice ax x.name.length cx,v1,v2,v3,v4] 55 (0,0))).heap.size:=x0.lt
 simp only[List.toArray]at x0;simp only[agg]at h ⊢;go_enter Tryz.func43,Tryz.ntmps43;go_upto_region 1 with fail
 have hM:Calls Tryz.prog 44 #[.agg #[.slice ax x.name.length cx,v1,v2,v3,v4]] (w.alloc (.cells #[.slice ax x.name.length cx,v1,v2,v3,v4] 55 (0,0))).drew _:=wV x [.slice ax x.name.length cx,v1,v2,v3,v4] (w.alloc (.cells #[.slice ax x.name.length cx,v1,v2,v3,v4] 55 (0,0))).drew (cC.below h ((aA y0).drew)) hpl
 generalize w.alloc (.cells #[.slice ax x.name.length cx,v1,v2,v3,v4] 55 (0,0))=w1 at *
 have Y0:Hid (w.grownBy w1 none):=y0
 have HN1:Hid (NT w1 b k g):=N1
 clear hN N1 h hbx hc y0;go_wp2_with fail
 have HS:∀{wl:World},wl.cell? ⟨nb,0,none⟩=some (.map (some b))->Blk wl w.heap.size 55 [.slice ax x.name.length cx,v1,v2,v3,v4]->wl.cell? ⟨nb,0,none⟩=some (.map (some b))/\wl.cell? ⟨w.heap.size,0,none⟩=some (.slice ax x.name.length cx)/\wl.cell? ⟨w.heap.size,1,none⟩=some (v1)/\wl.cell? ⟨w.heap.size,2,none⟩=some (v2)/\wl.cell? ⟨w.heap.size,3,none⟩=some (v3)/\wl.cell? ⟨w.heap.size,4,none⟩=some (v4):=fun h1 h2=>⟨h1,h2.k 0,h2.k 1,h2.k 2,h2.k 3,h2.k 4⟩
 have Ba:=HS (wl:=w1.drew) c1 x0
 refine zK1 (S:=fun wl=>wl.cell? ⟨nb,0,none⟩=some (.map (some b))/\wl.cell? ⟨w.heap.size,0,none⟩=some (.slice ax x.name.length cx)/\wl.cell? ⟨w.heap.size,1,none⟩=some (v1)/\wl.cell? ⟨w.heap.size,2,none⟩=some (v2)/\wl.cell? ⟨w.heap.size,3,none⟩=some (v3)/\wl.cell? ⟨w.heap.size,4,none⟩=some (v4)) Q3 Ba (fun Aa=>?_)
 refine M917 ?_;refine ta 3 ?_;try simp only[nrm]
 refine ra 4 fun K hK=>?_
 go_simp
 (with_reducible refine hM.mono ?_)
 rintro e w2 ⟨kv,rfl,hkv,b2⟩;refine M971 ?_;intro b12 c2 x2 HS2 N2;have H5:=pA w2 b k g N2 hk ax x.name.length cx x.name (eG.below HX.out b12) hnl 3 kv (dR x.params) hkv;go_wp2_with fail
 refine hK.out _ _ (HS2) (fun Aa=>?_)
 clear hK K;try simp only[nrm]
 refine ra 5 fun K hK=>?_
 go_simp
 (with_reducible refine H5.mono ?_)
 rintro e w3 ⟨rfl,hd⟩;have c3:=N2.cell c2 hd.grown
 have hx3:w3.cell? ⟨w.heap.size,0,none⟩=some (.slice ax x.name.length cx)/\w3.cell? ⟨w.heap.size,1,none⟩=some (v1)/\w3.cell? ⟨w.heap.size,2,none⟩=some (v2)/\w3.cell? ⟨w.heap.size,3,none⟩=some (v3)/\w3.cell? ⟨w.heap.size,4,none⟩=some (v4):=⟨N2.cell (x2.k 0) hd.grown,N2.cell (x2.k 1) hd.grown,N2.cell (x2.k 2) hd.grown,N2.cell (x2.k 3) hd.grown,N2.cell (x2.k 4) hd.grown⟩
 have HS3:w3.cell? ⟨nb,0,none⟩=some (.map (some b))/\w3.cell? ⟨w.heap.size,0,none⟩=some (.slice ax x.name.length cx)/\w3.cell? ⟨w.heap.size,1,none⟩=some (v1)/\w3.cell? ⟨w.heap.size,2,none⟩=some (v2)/\w3.cell? ⟨w.heap.size,3,none⟩=some (v3)/\w3.cell? ⟨w.heap.size,4,none⟩=some (v4):=⟨c3,hx3⟩
 go_wp2_with fail
 refine hK.out _ _ (HS3) (fun Aa=>?_)
 clear hK K;try simp only[nrm]
 refine ta 6 ?_;try simp only[nrm]
 refine zK2 Q3 ?_ _
 have HD:Hid (aA6 w w3 b k g x.name (zE x)):=aA6.from (aD Y0.out (aW b12 none)) hd
 exact U109
theorem aRn (x:Pa)(vs:List Value)(w:World)(b k nb:Nat)(g:List Int->Mn)(h:cC w x.fl vs)(hN:NT w b k g)(hk:k<1000000)(hc:w.cell? ⟨nb,0,none⟩=some (.map (some b)))(hnl:x.name.length<=1048576):
  Calls Tryz.prog 82 #[agg vs,.pointer (some ⟨nb,0,none⟩)] w fun e w'=>e=.returned (.bool (decide ((g x.name).1=0)))/\aA6 w w' b k g x.name (mP x):=by
 have hh:=h;obtain⟨v0,_,rfl,⟨ax,cx,rfl,hbx,_⟩,v1,_,rfl,_,rfl⟩:=hh;have x0:=Blk.new w 98 [.slice ax x.name.length cx,v1];have y0:=aB w (.cells #[.slice ax x.name.length cx,v1] 98 (0,0)) none;have N1:=hN.grown y0;have c1:=aC hc (aA y0)
 have HX:Hid (eG (w.alloc (.cells #[.slice ax x.name.length cx,v1] 98 (0,0))) ax x.name.length x.name):=hbx.below (aA y0)
 have Aj:w.heap.size<(w.alloc (.cells #[.slice ax x.name.length cx,v1] 98 (0,0))).heap.size:=x0.lt
 simp only[List.toArray]at x0;simp only[agg]at h ⊢;go_enter Tryz.func82,Tryz.ntmps82;go_upto_region 1 with fail
 have hM:Calls Tryz.prog 83 #[.agg #[.slice ax x.name.length cx,v1]] (w.alloc (.cells #[.slice ax x.name.length cx,v1] 98 (0,0))).drew _:=aCf x [.slice ax x.name.length cx,v1] (w.alloc (.cells #[.slice ax x.name.length cx,v1] 98 (0,0))).drew (cC.below h ((aA y0).drew))
 generalize w.alloc (.cells #[.slice ax x.name.length cx,v1] 98 (0,0))=w1 at *
 have Y0:Hid (w.grownBy w1 none):=y0
 have HN1:Hid (NT w1 b k g):=N1
 clear hN N1 h hbx hc y0;go_wp2_with fail
 have HS:∀{wl:World},wl.cell? ⟨nb,0,none⟩=some (.map (some b))->Blk wl w.heap.size 98 [.slice ax x.name.length cx,v1]->wl.cell? ⟨nb,0,none⟩=some (.map (some b))/\wl.cell? ⟨w.heap.size,0,none⟩=some (.slice ax x.name.length cx)/\wl.cell? ⟨w.heap.size,1,none⟩=some (v1):=fun h1 h2=>⟨h1,h2.k 0,h2.k 1⟩
 have Ba:=HS (wl:=w1.drew) c1 x0
 refine zK1 (S:=fun wl=>wl.cell? ⟨nb,0,none⟩=some (.map (some b))/\wl.cell? ⟨w.heap.size,0,none⟩=some (.slice ax x.name.length cx)/\wl.cell? ⟨w.heap.size,1,none⟩=some (v1)) Q3 Ba (fun Aa=>?_)
 refine M917 ?_;refine ta 3 ?_;try simp only[nrm]
 refine ra 4 fun K hK=>?_
 go_simp
 (with_reducible refine hM.mono ?_)
 rintro e w2 ⟨rfl,b2⟩;refine M971 ?_;intro b12 c2 x2 HS2 N2;have H5:=pA w2 b k g N2 hk ax x.name.length cx x.name (eG.below HX.out b12) hnl (mP x).1 (.slice none 0 0) [] (zP w2);go_wp2_with fail
 refine hK.out _ _ (HS2) (fun Aa=>?_)
 clear hK K;try simp only[nrm]
 refine ra 5 fun K hK=>?_
 go_simp;refine M993 ?_;intro w3 hd c3 hx3 HS3;go_wp2_with fail
 refine hK.out _ _ (HS3) (fun Aa=>?_)
 clear hK K;try simp only[nrm]
 refine ta 6 ?_;try simp only[nrm]
 refine zK2 Q3 ?_ _
 have HD:Hid (aA6 w w3 b k g x.name (mP x)):=aA6.from (aD Y0.out (aW b12 none)) hd
 exact U109
theorem aRo (x:List Int)(v:Value)(w:World)(b k nb:Nat)(g:List Int->Mn)(h:(Fl.b x).Rd w v)(hN:NT w b k g)(hk:k<1000000)(hc:w.cell? ⟨nb,0,none⟩=some (.map (some b)))(hnl:x.length<=1048576):
  Calls Tryz.prog 85 #[v,.pointer (some ⟨nb,0,none⟩)] w fun e w'=>e=.returned (.bool (decide ((g x).1=0)))/\aA6 w w' b k g x (1,[]):=by
 obtain⟨ax,cx,rfl,hbx,_⟩:=h;have H5:=pA w b k g hN hk ax x.length cx x hbx hnl 1 (.slice none 0 0) [] (zP w);clear hN hbx;go_enter Tryz.func85,Tryz.ntmps85;go_wp2_with fail;refine H5.mono ?_;rintro e w2 ⟨rfl,hd⟩;have HD:=hid hd;clear H5 hd hc;go_wp2;go_ret;exact⟨rfl,HD.out⟩
theorem Q46{p:Prop}(h:p:=by intro r hr;obtain⟨y,_,rfl⟩:=zE1.1 hr;rfl):p:=h
theorem U63{p:Prop}(h:p:=by
 go_wp2
 go_ret
 exact⟨aE HF.out.symm,by rw[HF.out];exact HD.out⟩):p:=h
theorem U66{p:Prop}(h:p:=by
 clear er1 hN2 HO1 x2 q2 x0 x1 q0 N1
 go_wp2
 go_ret
 exact⟨aE HF.out.symm,⟨fun e=>absurd (HF.out.symm.trans e) Q9,G2.out⟩⟩):p:=h
structure Dn (w w':World) (b k:Nat) (g:List Int->Mn) (ok:Bool):Prop where
 yes:ok=true->NT w' b k g
 grown:w.grownBy w' (some b)
theorem qZ (x:Mo)(vs:List Value)(w0 w:World)(b k:Nat)(g:List Int->Mn)(h:cC w0 x.fl vs)(hw:Below w0.heap.size w0 w)(hb0:w0.heap.size<=b)(hN:NT w b k g)(hk:k+(x.vars.map fun v=>(v.name,oN v)).length+(x.procs.map fun q=>(q.name,zE q)).length<=1000000)(HB1:Hid (∀v ∈ x.vars,v.name.length<=1048576))(HB2:Hid (∀q ∈ x.procs,q.name.length<=1048576/\q.params.length<=1048576)):
  Calls Tryz.prog 14 #[.map (some b),agg vs] w fun e w'=>e=.returned (.bool (okG g (x.vars.map fun v=>(v.name,oN v)) && okG (stG g (x.vars.map fun v=>(v.name,oN v))) (x.procs.map fun q=>(q.name,zE q))))/\Dn w w' b (k+(x.vars.map fun v=>(v.name,oN v)).length+(x.procs.map fun q=>(q.name,zE q)).length) (stG (stG g (x.vars.map fun v=>(v.name,oN v))) (x.procs.map fun q=>(q.name,zE q))) (okG g (x.vars.map fun v=>(v.name,oN v)) && okG (stG g (x.vars.map fun v=>(v.name,oN v))) (x.procs.map fun q=>(q.name,zE q))):=by
 have hmf:∀(fn:Fn) (first cap:Array Value) (w:World),(Instr.makeFunc fn first cap).run Tryz.prog w=.ok (.func fn first cap) w:=fun _ _ _ _=>rfl
 obtain⟨v0,_,rfl,h0,v1,_,rfl,h1,v2,_,rfl,h2,v3,_,rfl,h3,rfl⟩:=h;obtain⟨a1,c1,rfl,hL1⟩:=h2.list;obtain⟨a2,c2,rfl,hL2⟩:=h3.list
 have el1:(x.vars.map Va.fl).length=(x.vars.map fun v=>(v.name,oN v)).length:=by simp[dC]
 have el2:(x.procs.map Pr.fl).length=(x.procs.map fun q=>(q.name,zE q)).length:=by simp[dC]
 rw[el1,el2]
 obtain⟨n1,hn1⟩:∃z,z=(x.vars.map fun v=>(v.name,oN v)).length:=⟨_,rfl⟩
 obtain⟨n2,hn2⟩:∃z,z=(x.procs.map fun q=>(q.name,zE q)).length:=⟨_,rfl⟩
 have HN1:=hid hn1.symm;have HN2:=hid hn2.symm;have HL1:=hid hL1;have HL2:=hid hL2;rw[<-hn1,<-hn2];rw[<-hn1,<-hn2]at hk;clear hL1 hL2 h2 h3 hn1 hn2;have x0:=(Blk.new w 45 [.map (some b)]).old (o:=.cells #[v0,v1,.slice a1 n1 c1,.slice a2 n2 c2] 27 (0,0));have x1:=Blk.new (w.alloc (.cells #[.map (some b)] 45 (0,0))) 27 [v0,v1,.slice a1 n1 c1,.slice a2 n2 c2]
 have hg1:(w.alloc (.cells #[.map (some b)] 45 (0,0))).heap.size=w.heap.size+1:=by simp
 have y0:w.grownBy ((w.alloc (.cells #[.map (some b)] 45 (0,0))).alloc (.cells #[v0,v1,.slice a1 n1 c1,.slice a2 n2 c2] 27 (0,0))) none:=aD (aB w _ none) (aB _ _ none)
 have N1:=hN.grown y0;have hw1:=hw.trans ((aA y0).mono hw.size);simp only[List.toArray]at x0 x1;rw[hg1]at x1
 have HW:Hid (w.heap.size<=w.heap.size):=zB0 _
 clear hg1 hN hw;simp only[agg];go_enter Tryz.func14,Tryz.ntmps14;go_upto_region 1 with fail;generalize (w.alloc (.cells #[.map (some b)] 45 (0,0))).alloc (.cells #[v0,v1,.slice a1 n1 c1,.slice a2 n2 c2] 27 (0,0))=w1 at *;have q0:=x0.k 0;have k1:=x1.k 2
 have A1:=pC 39 w.heap.size b k g agg w0 a1 c1 2 (x.vars.map Va.fl) (x.vars.map fun v=>(v.name,oN v)) el1 (cQ Tryz.func39 rfl rfl) Q46 HL1.out hb0 (by rw[HN1.out];omega) (by
  intro j r p wr vs g' k' hr hp hbw Ai hNT hk' hc;rw[zA2]at hr hp;obtain⟨z,hz,rfl⟩:=zF0.1 hr;rw[hz]at hp;simp only[Option.map_some,zG2]at hp;subst hp
  exact aRr z vs wr b k' w.heap.size g' Ai hNT hk' hc (HB1.out z (zA3 hz)))
 have H1:=aKo 39 #[.pointer (some ⟨w.heap.size,0,none⟩)] (some b) a1 n1 c1 (x.vars.map Va.fl) _ _ _ w1 A1 (by rw[el1,HN1.out]) ⟨by simpa [stG] using N1,q0,hw1⟩ nC (fun j hj=>by cases hj;exact N1.lt) (cQ Tryz.func78 rfl rfl)
 have HO1:Hid (okG g (x.vars.map fun v=>(v.name,oN v))=okG g (x.vars.map fun v=>(v.name,oN v))):=rfl
 go_wp2_with fail;refine H1.mono ?_;rintro e w2 ⟨r1,rfl,hg2,ht2⟩;obtain⟨er1,hN2⟩:=mF HN1.out ht2;have q2:=N1.cell q0 hg2;have x2:=N1.cell (x1.k 3) hg2;have hw2:=cX hw1 hg2 hb0;have G2:=hid (jO y0 hg2);clear H1 A1 ht2 k1 hg2;cases r1
 .
  have HF:Hid ((okG g (x.vars.map fun v=>(v.name,oN v)) && okG (stG g (x.vars.map fun v=>(v.name,oN v))) (x.procs.map fun q=>(q.name,zE q)))=false):=by show _=_;rw[<-er1];rfl
  exact U66
 .
  have N2:=hN2 rfl;have ER1:=hid er1.symm;clear er1 hN2 HO1
  have A2:=pC 43 w.heap.size b (k+n1) (stG g (x.vars.map fun v=>(v.name,oN v))) agg w0 a2 c2 5 (x.procs.map Pr.fl) (x.procs.map fun q=>(q.name,zE q)) el2 (cQ Tryz.func43 rfl rfl) Q46 HL2.out hb0 (by rw[HN2.out];omega) (by
   intro j r p wr vs g' k' hr hp hbw Ai hNT hk' hc;rw[zA2]at hr hp;obtain⟨z,hz,rfl⟩:=zF0.1 hr;rw[hz]at hp;simp only[Option.map_some,zG2]at hp;subst hp
   exact aPc z vs wr b k' w.heap.size g' Ai hNT hk' hc (HB2.out z (zA3 hz)).1 (HB2.out z (zA3 hz)).2)
  have H2:=tN 43 #[.pointer (some ⟨w.heap.size,0,none⟩)] (some b) a2 n2 c2 (x.procs.map Pr.fl) _ _ _ w2 A2 (by rw[el2,HN2.out]) ⟨by simpa [stG] using N2,q2,hw2⟩ nC (fun j hj=>by cases hj;exact N2.lt) (cQ Tryz.func80 rfl rfl)
  clear x0 x1 q0 N1 A2;go_wp2_with fail;refine H2.mono ?_;rintro e w3 ⟨r2,rfl,hg3,ht3⟩;obtain⟨er2,hN3⟩:=mF HN2.out ht3
  have HF:Hid ((okG g (x.vars.map fun v=>(v.name,oN v)) && okG (stG g (x.vars.map fun v=>(v.name,oN v))) (x.procs.map fun q=>(q.name,zE q)))=r2):=by show _=_;rw[ER1.out,<-er2];rfl
  have HD:Hid (Dn w w3 b (k+n1+n2) (stG (stG g (x.vars.map fun v=>(v.name,oN v))) (x.procs.map fun q=>(q.name,zE q))) r2):=⟨hN3,aD G2.out hg3⟩
  clear H2 er2 hN3 ht3 hg3 x2 q2 N2;exact U63
theorem aKj (x:Pr)(vs:List Value)(w0 w:World)(b k:Nat)(g:List Int->Mn)(h:cC w0 x.fl vs)(hw:Below w0.heap.size w0 w)(hb0:w0.heap.size<=b)(hN:NT w b k g)(hk:k+(x.params.map fun a=>(a.name,mP a)).length+(x.locals.map fun y=>(y,((1,[]):Mn))).length<=1000000)(HB1:Hid (∀a ∈ x.params,a.name.length<=1048576))(HB2:Hid (∀y ∈ x.locals,y.length<=1048576)):
  Calls Tryz.prog 46 #[.map (some b),agg vs] w fun e w'=>e=.returned (.bool (okG g (x.params.map fun a=>(a.name,mP a)) && okG (stG g (x.params.map fun a=>(a.name,mP a))) (x.locals.map fun y=>(y,((1,[]):Mn)))))/\Dn w w' b (k+(x.params.map fun a=>(a.name,mP a)).length+(x.locals.map fun y=>(y,((1,[]):Mn))).length) (stG (stG g (x.params.map fun a=>(a.name,mP a))) (x.locals.map fun y=>(y,((1,[]):Mn)))) (okG g (x.params.map fun a=>(a.name,mP a)) && okG (stG g (x.params.map fun a=>(a.name,mP a))) (x.locals.map fun y=>(y,((1,[]):Mn)))):=by
 have hmf:∀(fn:Fn) (first cap:Array Value) (w:World),(Instr.makeFunc fn first cap).run Tryz.prog w=.ok (.func fn first cap) w:=fun _ _ _ _=>rfl
 obtain⟨v0,_,rfl,h0,v1,_,rfl,h1,v2,_,rfl,h2,v3,_,rfl,h3,v4,_,rfl,h4,rfl⟩:=h;obtain⟨a1,c1,rfl,hL1⟩:=h2.list;obtain⟨a2,c2,rfl,hL2⟩:=h3.list
 have el1:(x.params.map Pa.fl).length=(x.params.map fun a=>(a.name,mP a)).length:=by simp[dC]
 have el2:(dC x.locals).length=(x.locals.map fun y=>(y,((1,[]):Mn))).length:=by simp[dC]
 rw[el1,el2]
 obtain⟨n1,hn1⟩:∃z,z=(x.params.map fun a=>(a.name,mP a)).length:=⟨_,rfl⟩
 obtain⟨n2,hn2⟩:∃z,z=(x.locals.map fun y=>(y,((1,[]):Mn))).length:=⟨_,rfl⟩
 have HN1:=hid hn1.symm;have HN2:=hid hn2.symm;have HL1:=hid hL1;have HL2:=hid hL2;rw[<-hn1,<-hn2];rw[<-hn1,<-hn2]at hk;clear hL1 hL2 h2 h3 hn1 hn2;have x0:=(Blk.new w 45 [.map (some b)]).old (o:=.cells #[v0,v1,.slice a1 n1 c1,.slice a2 n2 c2,v4] 55 (0,0));have x1:=Blk.new (w.alloc (.cells #[.map (some b)] 45 (0,0))) 55 [v0,v1,.slice a1 n1 c1,.slice a2 n2 c2,v4]
 have hg1:(w.alloc (.cells #[.map (some b)] 45 (0,0))).heap.size=w.heap.size+1:=by simp
 have y0:w.grownBy ((w.alloc (.cells #[.map (some b)] 45 (0,0))).alloc (.cells #[v0,v1,.slice a1 n1 c1,.slice a2 n2 c2,v4] 55 (0,0))) none:=aD (aB w _ none) (aB _ _ none)
 have N1:=hN.grown y0;have hw1:=hw.trans ((aA y0).mono hw.size);simp only[List.toArray]at x0 x1;rw[hg1]at x1
 have HW:Hid (w.heap.size<=w.heap.size):=zB0 _
 clear hg1 hN hw;simp only[agg];go_enter Tryz.func46,Tryz.ntmps46;go_upto_region 1 with fail;generalize (w.alloc (.cells #[.map (some b)] 45 (0,0))).alloc (.cells #[v0,v1,.slice a1 n1 c1,.slice a2 n2 c2,v4] 55 (0,0))=w1 at *;have q0:=x0.k 0;have k1:=x1.k 2
 have A1:=pC 82 w.heap.size b k g agg w0 a1 c1 2 (x.params.map Pa.fl) (x.params.map fun a=>(a.name,mP a)) el1 (cQ Tryz.func82 rfl rfl) Q46 HL1.out hb0 (by rw[HN1.out];omega) (by
  intro j r p wr vs g' k' hr hp hbw Ai hNT hk' hc;rw[zA2]at hr hp;obtain⟨z,hz,rfl⟩:=zF0.1 hr;rw[hz]at hp;simp only[Option.map_some,zG2]at hp;subst hp
  exact aRn z vs wr b k' w.heap.size g' Ai hNT hk' hc (HB1.out z (zA3 hz)))
 have H1:=aA4 82 #[.pointer (some ⟨w.heap.size,0,none⟩)] (some b) a1 n1 c1 (x.params.map Pa.fl) _ _ _ w1 A1 (by rw[el1,HN1.out]) ⟨by simpa [stG] using N1,q0,hw1⟩ nC (fun j hj=>by cases hj;exact N1.lt) (cQ Tryz.func111 rfl rfl)
 have HO1:Hid (okG g (x.params.map fun a=>(a.name,mP a))=okG g (x.params.map fun a=>(a.name,mP a))):=rfl
 go_wp2_with fail;refine H1.mono ?_;rintro e w2 ⟨r1,rfl,hg2,ht2⟩;obtain⟨er1,hN2⟩:=mF HN1.out ht2;have q2:=N1.cell q0 hg2;have x2:=N1.cell (x1.k 3) hg2;have hw2:=cX hw1 hg2 hb0;have G2:=hid (jO y0 hg2);clear H1 A1 ht2 k1 hg2;cases r1
 .
  have HF:Hid ((okG g (x.params.map fun a=>(a.name,mP a)) && okG (stG g (x.params.map fun a=>(a.name,mP a))) (x.locals.map fun y=>(y,((1,[]):Mn))))=false):=by show _=_;rw[<-er1];rfl
  exact U66
 .
  have N2:=hN2 rfl;have ER1:=hid er1.symm;clear er1 hN2 HO1
  have A2:=pC 85 w.heap.size b (k+n1) (stG g (x.params.map fun a=>(a.name,mP a))) one w0 a2 c2 1 (dC x.locals) (x.locals.map fun y=>(y,((1,[]):Mn))) el2 (cQ Tryz.func85 rfl rfl) (by intro r hr;unfold dC at hr;obtain⟨y,_,rfl⟩:=zE1.1 hr;rfl) HL2.out hb0 (by rw[HN2.out];omega) (by
   intro j r p wr vs g' k' hr hp hbw Ai hNT hk' hc;unfold dC at hr;rw[zA2]at hr hp;obtain⟨z,hz,rfl⟩:=zF0.1 hr;rw[hz]at hp;simp only[Option.map_some,zG2]at hp;subst hp;obtain⟨v,us,rfl,hv,rfl⟩:=Ai
   exact aRo z v wr b k' w.heap.size g' hv hNT hk' hc (HB2.out z (zA3 hz)))
  have H2:=aKp 85 #[.pointer (some ⟨w.heap.size,0,none⟩)] (some b) a2 n2 c2 (dC x.locals) _ _ _ w2 A2 (by rw[el2,HN2.out]) ⟨by simpa [stG] using N2,q2,hw2⟩ nC (fun j hj=>by cases hj;exact N2.lt) (cQ Tryz.func112 rfl rfl)
  clear x0 x1 q0 N1 A2;go_wp2_with fail;refine H2.mono ?_;rintro e w3 ⟨r2,rfl,hg3,ht3⟩;obtain⟨er2,hN3⟩:=mF HN2.out ht3
  have HF:Hid ((okG g (x.params.map fun a=>(a.name,mP a)) && okG (stG g (x.params.map fun a=>(a.name,mP a))) (x.locals.map fun y=>(y,((1,[]):Mn))))=r2):=by show _=_;rw[ER1.out,<-er2];rfl
  have HD:Hid (Dn w w3 b (k+n1+n2) (stG (stG g (x.params.map fun a=>(a.name,mP a))) (x.locals.map fun y=>(y,((1,[]):Mn)))) r2):=⟨hN3,aD G2.out hg3⟩
  clear H2 er2 hN3 ht3 hg3 x2 q2 N2;exact U63
theorem Q48{p:Prop}(h:p:=by rw[HN1.out];exact Aj):p:=h
theorem U33{p:Prop}(h:p:=by
 go_wp2
 go_roundw
 case rel=>exact⟨j+1,by omega,by go_num,HF⟩
 case measure=>simp[intOf];omega):p:=h
def fY (g:List Int->Mn)(l:List (List Int)):List Int->Mn:=l.foldl (fun g x=>qL g x (0,[])) g
theorem rU {g:List Int->Mn}{l:List (List Int)}{j:Nat}{x:List Int}(h:l[j]?=some x):fY g (l.take (j+1))=qL (fY g (l.take j)) x (0,[]):=by
 obtain⟨hj,rfl⟩:=zC1.1 h;unfold fY;rw[zF1 hj,List.foldl_append]
 rfl
theorem aNc (w:World):MnR w zM (0,[]):=⟨.slice none 0 0,rfl,zP w⟩
set_option maxHeartbeats 4000000 in
theorem aKd (x:Pr)(vs:List Value)(w0 w:World)(b k:Nat)(g:List Int->Mn)(h:cC w0 x.fl vs)(hw:Below w0.heap.size w0 w)(hb0:w0.heap.size<=b)(hN:NT w b k g)(HB1:Hid (∀a ∈ x.params,a.name.length<=1048576))(HB2:Hid (∀y ∈ x.locals,y.length<=1048576)):
  Calls Tryz.prog 47 #[.map (some b),agg vs] w fun e w'=>e=.returned (.tuple #[])/\NT w' b k (fY (fY g (x.params.map Pa.name)) x.locals)/\w.grownBy w' (some b):=by
 obtain⟨v0,_,rfl,h0,v1,_,rfl,h1,v2,_,rfl,h2,v3,_,rfl,h3,v4,_,rfl,h4,rfl⟩:=h;obtain⟨a1,c1,rfl,hL1⟩:=h2.list;obtain⟨a2,c2,rfl,hL2⟩:=h3.list
 have e2:(dC x.locals).length=x.locals.length:=by simp[dC]
 have h91:=hL1.len9;have h92:=hL2.len9;rw[e2]at h92;simp only[zB2,e2]at h91 ⊢
 obtain⟨n1,hn1⟩:∃z,z=x.params.length:=⟨_,rfl⟩
 obtain⟨n2,hn2⟩:∃z,z=x.locals.length:=⟨_,rfl⟩
 have HN1:=hid hn1.symm;have HN2:=hid hn2.symm;have HL1:=hid hL1;have HL2:=hid hL2;rw[<-hn1,<-hn2];rw[<-hn1]at h91;rw[<-hn2]at h92;clear hL1 hL2 h0 h1 h2 h3 h4 hn1 hn2;have x1:=Blk.new w 55 [v0,v1,.slice a1 n1 c1,.slice a2 n2 c2,v4];have y0:=aB w (.cells #[v0,v1,.slice a1 n1 c1,.slice a2 n2 c2,v4] 55 (0,0)) none;have N1:=hN.grown y0;have hw1:=hw.trans ((aA y0).mono hw.size);simp only[List.toArray]at x1;simp only[agg];go_enter Tryz.func47,Tryz.ntmps47;go_upto_region 1 with fail;generalize w.alloc (.cells #[v0,v1,.slice a1 n1 c1,.slice a2 n2 c2,v4] 55 (0,0))=w1 at *;have k2:=x1.k 2;have K3:=hid (x1.k 3)
 have S0:Hid (NT w1 b k (fY g ((x.params.map Pa.name).take 0))/\Below w0.heap.size w0 w1/\w.grownBy w1 (some b)/\w1.cell? ⟨w.heap.size,3,none⟩=some (.slice a2 n2 c2)):=⟨by simpa [fY] using N1,hw1,bU y0 _,K3.out⟩
 clear hN hw x1 N1 hw1 y0 K3;go_wp2_with fail;clear k2
 go_loopw [11] (fun i wr=>∃j:Nat,j<=n1/\i=.int .i64 j/\Hid (NT wr b k (fY g ((x.params.map Pa.name).take j))/\Below w0.heap.size w0 wr/\w.grownBy wr (some b)/\wr.cell? ⟨w.heap.size,3,none⟩=some (.slice a2 n2 c2))) (fun i _=>n1-(intOf i).toNat)
 case atStart=>exact⟨0,zD1 _,rfl,S0⟩
 case round=>
  obtain⟨j,hj,rfl,hst⟩:=hrel;obtain⟨hN,hb,hg,hc3⟩:=hst.out;clear S0 hst
  by_cases Aj:j<n1
  .
   obtain⟨y,hy⟩:∃y,x.params[j]?=some y:=⟨_,zA0 Q48⟩
   have hyn:(x.params.map Pa.name)[j]?=some y.name:=by rw[zA2,hy];rfl
   have hyl:=HB1.out y (zA3 hy)
   obtain⟨bx,off,ys,rfl,hys,Ab⟩:=bQ.cellsAt HL1.out (show(x.params.map Pa.fl)[j]?=some y.fl by rw[zA2,hy];rfl)
   obtain⟨s0,_,rfl,⟨ax,cx,rfl,hbx,_⟩,s1,_,rfl,rfl,rfl⟩:=hys;have r0:=aC (Ab 0 _ rfl) hb;have r1:=aC (Ab 1 _ rfl) hb;rw[zG1]at r0;have z5:=Blk.new wr 98 [.slice ax y.name.length cx,.bool y.arr];have g5:=aB wr (.cells #[.slice ax y.name.length cx,.bool y.arr] 98 (0,0)) none;simp only[List.toArray]at z5;have N5:=hN.grown g5;have b5:=hb.trans ((aA g5).mono hb.size)
   have G5:Hid (w.grownBy (wr.alloc (.cells #[.slice ax y.name.length cx,.bool y.arr] 98 (0,0))) (some b)):=aD hg (bU g5 _)
   have c5:=aC hc3 (aA g5);have HB5:=hid b5
   have HDN:Hid (fY g ((x.params.map Pa.name).take (j+1))=qL (fY g ((x.params.map Pa.name).take j)) y.name (0,[])):=rU hyn
   have hbt:Bt y.name:=hbx.2.1
   have HX5:=hid (hbx.below b5);clear Ab hy hyn hbx hN hb hg hc3 b5 g5;go_upto_region 4 with fail;generalize wr.alloc (.cells #[.slice ax y.name.length cx,.bool y.arr] 98 (0,0))=w5 at *;have q0:=z5.k 0;have kc:=bP cx HX5.out;obtain⟨f,hf1,hf2⟩:=N5.ex;clear r0 r1 z5
   go_wp2_with (at_delete;refine pH rfl _ _ rfl hf1 y.name rfl rfl hbt Q17 ?_)
   intro w6 hN6 hg6
   have HF:Hid (NT w6 b k (fY g ((x.params.map Pa.name).take (j+1)))/\Below w0.heap.size w0 w6/\w.grownBy w6 (some b)/\w6.cell? ⟨w.heap.size,3,none⟩=some (.slice a2 n2 c2)):=⟨by rw[HDN.out];exact NT.put hf1 hf2 hN6 hg6 (aNc w5),cX HB5.out hg6 hb0,aD G5.out hg6,N5.cell c5 hg6⟩
   clear hN6 hg6 hf1 hf2 N5 c5 kc q0 HX5;exact U33
  .
   have:n1=j:=by omega
   subst this
   rw[zD3 (by rw[zB2,HN1.out];exact zB0 _)]at hN
   have S1:Hid (NT wr b k (fY (fY g (x.params.map Pa.name)) (x.locals.take 0))/\Below w0.heap.size w0 wr/\w.grownBy wr (some b)):=⟨by simpa [fY] using hN,hb,hg⟩
   clear hN hb hg;go_wp2_with fail;clear hc3;generalize wr=w7 at *
   go_loopw [23] (fun i wr=>∃j:Nat,j<=n2/\i=.int .i64 j/\Hid (NT wr b k (fY (fY g (x.params.map Pa.name)) (x.locals.take j))/\Below w0.heap.size w0 wr/\w.grownBy wr (some b))) (fun i _=>n2-(intOf i).toNat)
   case atStart=>exact⟨0,zD1 _,rfl,S1⟩
   case round=>
    obtain⟨j,hj,rfl,hst⟩:=hrel;obtain⟨hN,hb,hg⟩:=hst.out;clear S1 hst
    by_cases Aj:j<n2
    .
     obtain⟨y,hy⟩:∃y,x.locals[j]?=some y:=⟨_,zA0 (by rw[HN2.out];exact Aj)⟩
     have hyl:=HB2.out y (zA3 hy)
     obtain⟨bx,off,ys,rfl,hys,Ab⟩:=bQ.cellsAt HL2.out (show(dC x.locals)[j]?=some [Fl.b y] by unfold dC;rw[zA2,hy];rfl)
     obtain⟨s0,_,rfl,⟨ax,cx,rfl,hbx,_⟩,rfl⟩:=hys;have r0:=aC (Ab 0 _ rfl) hb;simp only[zG1,Nat.mul_one]at r0
     have HDN:Hid (fY (fY g (x.params.map Pa.name)) (x.locals.take (j+1))=qL (fY (fY g (x.params.map Pa.name)) (x.locals.take j)) y (0,[])):=rU hy
     have hbt:=hbx.2.1;have kc:=bP cx (hbx.below hb);obtain⟨f,hf1,hf2⟩:=hN.ex;clear Ab hy hbx
     go_wp2_with (at_delete;refine pH rfl _ _ rfl hf1 y rfl rfl hbt Q17 ?_)
     intro w6 hN6 hg6
     have HF:Hid (NT w6 b k (fY (fY g (x.params.map Pa.name)) (x.locals.take (j+1)))/\Below w0.heap.size w0 w6/\w.grownBy w6 (some b)):=⟨by rw[HDN.out];exact NT.put hf1 hf2 hN6 hg6 (aNc wr),cX hb hg6 hb0,aD hg hg6⟩
     clear hN6 hg6 hf1 hf2 kc hN hb hg r0;exact U33
    .
     have:n2=j:=by omega
     subst this
     rw[zD3 (by rw[HN2.out];exact zB0 _)]at hN
     have HF:=hid hN;clear hN hb;go_wp2_with fail;exact bodyPost_end (results_none rfl _ _ _) rfl ⟨rfl,HF.out,hg⟩
theorem Q56{p:Prop}(h:p:=by obtain⟨a,ha,rfl⟩:=zE1.1 hp;exact zE1.2 ⟨a,ha,e⟩):p:=h
theorem Q68{p:Prop}(h:p:=by cases e):p:=h
theorem U94{p:Prop}(h:p:=by
 obtain⟨a,ha,rfl⟩:=zE1.1 h1
 exact(hc _ (f1 (a.name,mP a) (zE1.2 ⟨a,ha,rfl⟩))).symm):p:=h
def paL (q:Pr):List (List Int × Mn):=q.params.map fun a=>(a.name,mP a)
def loL (q:Pr):List (List Int × Mn):=q.locals.map fun y=>(y,((1,[]):Mn))
def enG (g:List Int->Mn)(q:Pr):List Int->Mn:=stG (stG g (paL q)) (loL q)
def oW (g:List Int->Mn)(q:Pr):Bool:=okG g (paL q) && okG (stG g (paL q)) (loL q)
def tT (g:List Int->Mn):Prop:=∀x,(g x).1=0->g x=(0,[])
theorem yT (g:List Int->Mn)(p:List Int × Mn)(l:List (List Int × Mn)):stG g (p :: l)=stG (qL g p.1 p.2) l:=rfl
theorem zO (g:List Int->Mn)(p:List Int × Mn)(l:List (List Int × Mn)):okG g (p :: l)=(decide ((g p.1).1=0) && okG (qL g p.1 p.2) l):=by
 unfold okG;rw[zB1,List.range_succ_eq_map,List.all_cons,List.all_map]
 rfl
theorem zN:∀{l:List (List Int × Mn)} {g:List Int->Mn},okG g l=true->∀p ∈ l,(g p.1).1=0:=by
 intro l
 induction l with
 | nil=>intro g _ p hp;simp at hp
 | cons q l ih=>
  intro g h p hp;rw[zO,zC0]at h
  have h1:(g q.1).1=0:=by simpa using h.1
  rcases zG3.1 hp with rfl|hp
  .
   exact h1
  .
   have:=ih h.2 p hp
   unfold qL at this
   by_cases e:p.1=q.1
   .
    rw[e];exact h1
   .
    rw[if_neg e]at this;exact this
theorem kK:∀{l:List (List Int × Mn)} {g:List Int->Mn} {t:List Int},(∀p ∈ l,p.1 ≠ t)->stG g l t=g t:=by
 intro l
 induction l with
 | nil=>intro g t _;rfl
 | cons q l ih=>
  intro g t h
  rw[yT,ih (fun p hp=>h p (List.mem_cons_of_mem _ hp))]
  unfold qL
  rw[if_neg (fun e=>h q Q9 e.symm)]
theorem mA:∀{l:List (List Int)} {g:List Int->Mn} {t:List Int},t ∉ l->fY g l t=g t:=by
 intro l
 induction l with
 | nil=>intro g t _;rfl
 | cons q l ih=>
  intro g t h
  have e:fY g (q :: l)=fY (qL g q (0,[])) l:=rfl
  rw[e,ih (fun hp=>h (List.mem_cons_of_mem _ hp))]
  unfold qL
  rw[if_neg (fun e=>h (by rw[e];simp))]
theorem aAs:∀{l:List (List Int)} {g:List Int->Mn} {t:List Int},t ∈ l->fY g l t=(0,[]):=by
 intro l
 induction l with
 | nil=>intro g t h;simp at h
 | cons q l ih=>
  intro g t h
  have e:fY g (q :: l)=fY (qL g q (0,[])) l:=rfl
  rw[e]
  by_cases hl:t ∈ l
  .
   exact ih hl
  .
   have:t=q:=by rcases zG3.1 h with h|h;exact h;exact absurd h hl
   rw[mA hl];unfold qL;rw[if_pos this]
theorem vH {g:List Int->Mn}{q:Pr}(hc:tT g)(h:oW g q=true):fY (fY (enG g q) (q.params.map Pa.name)) q.locals=g:=by
 unfold oW at h;rw[zC0]at h;have f1:=zN h.1;have f2:=zN h.2
 funext t
 by_cases h2:t ∈ q.locals
 .
  rw[aAs h2];have e2:=f2 (t,(1,[])) (zE1.2 ⟨t,h2,rfl⟩)
  simp only at e2
  by_cases h1:t ∈ q.params.map Pa.name
  .
   exact U94
  .
   rw[kK (fun p hp e=>h1 Q56)]at e2
   exact(hc t e2).symm
 .
  rw[mA h2]
  by_cases h1:t ∈ q.params.map Pa.name
  .
   rw[aAs h1];exact U94
  .
   rw[mA h1];unfold enG
   rw[kK (fun p hp e=>h2 (by obtain⟨y,hy,rfl⟩:=zE1.1 hp;rw[<-e];exact hy)),kK (fun p hp e=>h1 Q56)]
theorem NT.mono {w:World}{b k k':Nat}{g:List Int->Mn}(h:NT w b k g)(hk:k<=k'):NT w b k' g:=by
 obtain⟨f,hm,h2⟩:=h.ex;obtain⟨D,h3,r⟩:=hm.ex;exact⟨⟨f,⟨⟨D,h3.mono hk,r⟩⟩,h2⟩⟩
structure aG0 (q:Pr):Prop where
 np:q.params.length<=4
 nl:q.locals.length<=8
 pn:∀a ∈ q.params,a.name.length<=1048576
 ln:∀y ∈ q.locals,y.length<=1048576
theorem aLk (q:Pr)(vs:List Value)(w0 w:World)(b k nb:Nat)(g:List Int->Mn)(h:cC w0 q.fl vs)(hw:Below w0.heap.size w0 w)(hb0:w0.heap.size<=b)(hN:NT w b k g)(hk:k+12<=1000000)(hc:w.cell? ⟨nb,0,none⟩=some (.map (some b)))(Ab:tT g)(hpl:aG0 q):
  Calls Tryz.prog 45 #[agg vs,.pointer (some ⟨nb,0,none⟩)] w fun e w'=>e=.returned (.bool (oW g q))/\Dn w w' b (k+12) g (oW g q):=by
 obtain⟨v0,v1,v2,v3,v4,rfl⟩:∃v0 v1 v2 v3 v4,vs=[v0,v1,v2,v3,v4]:=by
  have hl:=h.len
  match vs,hl with
  | [v0,v1,v2,v3,v4],_=>exact⟨v0,v1,v2,v3,v4,rfl⟩
 have x0:=Blk.new w 55 [v0,v1,v2,v3,v4];have y0:=aB w (.cells #[v0,v1,v2,v3,v4] 55 (0,0)) none;have N1:=hN.grown y0;have c1:=aC hc (aA y0);have hw1:=hw.trans ((aA y0).mono hw.size)
 have e1:(paL q).length=q.params.length:=by simp[paL]
 have e2:(loL q).length=q.locals.length:=by simp[loL]
 have p4:=hpl.np;have p8:=hpl.nl;simp only[List.toArray]at x0;simp only[agg];go_enter Tryz.func45,Tryz.ntmps45;go_upto_region 1 with fail;generalize w.alloc (.cells #[v0,v1,v2,v3,v4] 55 (0,0))=w1 at *
 have H1:=aKj q _ w0 w1 b k g h hw1 hb0 N1 (by show k+(paL q).length+(loL q).length<=_;omega) hpl.pn hpl.ln
 have HE:=hid N1
 change Calls _ _ _ _ (fun e w'=>e=.returned (.bool (oW g q))/\Dn w1 w' b (k+(paL q).length+(loL q).length) (enG g q) (oW g q)) at H1
 simp only[agg,List.toArray]at H1;obtain⟨q0,q1,q2,q3,q4⟩:=x0.c5;have Y0:=hid y0;have HH:=hid h;have HP:=hid hpl;clear hN hc hw y0 h hpl
 cases hok:oW g q
 .
  rw[hok]at H1;have HF:=hid hok;clear hok;go_wp2_with fail;refine H1.mono ?_;rintro e w2 ⟨rfl,hd⟩
  have HD:Hid (Dn w w2 b (k+12) g false):=⟨fun e=> Q68,jO Y0.out hd.grown⟩
  clear H1 hd q0 q1 q2 q3 q4 x0 N1 c1;exact U63
 .
  rw[hok]at H1;have HT:=hid hok;have HL:=hid (vH Ab hok);clear hok;go_wp2_with fail;refine H1.mono ?_;rintro e w2 ⟨rfl,hd⟩;have N2:=hd.yes rfl;have hg2:=hd.grown;have c2:=HE.out.cell c1 hg2;have r0:=HE.out.cell q0 hg2;have r1:=HE.out.cell q1 hg2;have r2:=HE.out.cell q2 hg2;have r3:=HE.out.cell q3 hg2;have r4:=HE.out.cell q4 hg2;have hw2:=cX hw1 hg2 hb0;have H2:=aKd q _ w0 w2 b _ _ HH.out hw2 hb0 N2 HP.out.pn HP.out.ln;rw[HL.out]at H2;simp only[agg,List.toArray]at H2;have G2:=hid (jO Y0.out hg2);clear H1 hd q0 q1 q2 q3 q4 x0 N1 c1 hg2 HE N2;go_wp2_with fail;refine H2.mono ?_;rintro e w3 ⟨rfl,hN3,hg3⟩
  have HD:Hid (Dn w w3 b (k+12) g true):=⟨fun _=>hN3.mono Q0,aD G2.out hg3⟩
  clear H2 hN3 hg3 c2 r0 r1 r2 r3 r4 hw2;go_wp2;go_ret
  exact⟨aE HT.out.symm,by rw[HT.out];exact HD.out⟩
theorem aJ7 (l:List Pr)(a:Option Addr)(n c:Nat)(w0 w:World)(b k:Nat)(g:List Int->Mn)(hL:bQ w0 a c 5 (l.map Pr.fl))(hn:l.length=n)(hw:Below w0.heap.size w0 w)(hb0:w0.heap.size<=b)(hN:NT w b k g)(hk:k+12*n<=999000)(Ab:tT g)(hpl:∀q ∈ l,aG0 q):
  Calls Tryz.prog 15 #[.map (some b),.slice a n c] w fun e w'=>e=.returned (.bool (l.all (oW g)))/\Dn w w' b (k+12*n) g (l.all (oW g)):=by
 have hmf:∀(fn:Fn) (first cap:Array Value) (w:World),(Instr.makeFunc fn first cap).run Tryz.prog w=.ok (.func fn first cap) w:=fun _ _ _ _=>rfl
 have x0:=Blk.new w 45 [.map (some b)];have y0:=aB w (.cells #[.map (some b)] 45 (0,0)) none;have N1:=hN.grown y0;have hw1:=hw.trans ((aA y0).mono hw.size);simp only[List.toArray]at x0;go_enter Tryz.func15,Tryz.ntmps15;go_upto_region 1 with fail;generalize w.alloc (.cells #[.map (some b)] 45 (0,0))=w1 at *;have q0:=x0.k 0
 have A:aKr false 45 #[.pointer (some ⟨w.heap.size,0,none⟩)] (some b) agg a c 5 (l.map Pr.fl) (fun j=>oW g (l[j]?.getD ⟨[],false,[],[],[]⟩)) (fun j wr=>(NT wr b (k+12*j) g/\wr.cell? ⟨w.heap.size,0,none⟩=some (.map (some b))/\Below w0.heap.size w0 wr)/\j<=n) (fun _ _=>True):=by
  refine⟨cQ Tryz.func45 rfl rfl,fun j wr hi=>hL.below hi.1.2.2,by intro r hr;obtain⟨y,_,rfl⟩:=zE1.1 hr;rfl, ?_⟩
  rintro j r wr vs hr ⟨⟨hN,hc,hb⟩,hj⟩ Ai hcs;have Aj:=(zC1.1 hr).1;rw[zB2,hn]at Aj;have hvl:=Ai.len;have hv0:=jM hL hb hr hvl hcs;rw[zA2]at hr;obtain⟨q,hq,rfl⟩:=zF0.1 hr;rw[hq];refine(aLk q vs w0 wr b (k+12*j) w.heap.size g hv0 hb hb0 hN Q0 hc Ab (hpl q (zA3 hq))).mono ?_;rintro e w' ⟨rfl,hd⟩
  exact⟨rfl,hd.grown,fun hy=>⟨⟨(hd.yes hy).mono Q0,hN.cell hc hd.grown,cX hb hd.grown hb0⟩,by omega⟩,fun _=>trivial⟩
 have H1:=tN 45 #[.pointer (some ⟨w.heap.size,0,none⟩)] (some b) a n c (l.map Pr.fl) _ _ _ w1 A (by rw[zB2,hn]) ⟨⟨by simpa using N1,q0,hw1⟩,zD1 _⟩ (fun j w w' h hg=>⟨⟨h.1.1.grown hg,aC h.1.2.1 (aA hg),h.1.2.2.trans ((aA hg).mono h.1.2.2.size)⟩,h.2⟩) (fun j hj=>by cases hj;exact N1.lt) (cQ Tryz.func80 rfl rfl)
 go_wp2_with fail;refine H1.mono ?_;rintro e w2 ⟨r,rfl,hg2,ht⟩
 have er:r=l.all (oW g):=by
  rw[gU ht,<-hn];exact hZ l ⟨[],false,[],[],[]⟩ (oW g)
 have HD:Hid (Dn w w2 b (k+12*n) g r):=⟨fun e=>((ht.no (by rw[e];rfl)).2).1.1,jO y0 hg2⟩
 have ER:=hid er;clear H1 A ht er hg2 q0 x0 N1 hN;go_wp2;go_ret
 exact⟨aE ER.out,by rw[<-ER.out];exact HD.out⟩
theorem Q78{p:Prop}(h:p:=by rw[HU.out];rfl):p:=h
theorem aJg (a0:Option Addr)(n0 c0:Nat)(l0:List Int)(g2:Nat)(a2:Option Addr)(n2 c2:Nat)(l2:List Int)(w:World)
  (h0:eG w a0 n0 l0) (h2:eG w a2 n2 l2) (x2:w.cell? ⟨g2,0,none⟩=some (.slice a2 n2 c2)):
  Calls Tryz.prog 87 #[.slice a0 n0 c0,.pointer (some ⟨g2,0,none⟩)] w fun e w'=>e=.returned (.bool (decide (l0=l2)))/\w'=w:=by
 have HE:=kB a0 n0 c0 l0 a2 n2 c2 l2 w h0 h2;clear h0 h2;go_enter Tryz.func87,Tryz.ntmps87;go_wp2_with fail;refine HE.mono ?_;rintro e w3 ⟨rfl,rfl⟩;exact U45
theorem aKn (a:Option Addr)(n c:Nat)(l:List (List Int))(a2:Option Addr)(n2 c2:Nat)(l2:List Int)(w:World)(hn:l.length=n)
  (h:bQ w a c 1 (dC l)) (h2:eG w a2 n2 l2):
  Calls Tryz.prog 49 #[.slice a n c,.slice a2 n2 c2] w fun e w'=>e=.returned (.bool (l.any fun y=>decide (y=l2)))/\w.grownBy w' none:=by
 have hmf:∀(fn:Fn) (first cap:Array Value) (w:World),(Instr.makeFunc fn first cap).run Tryz.prog w=.ok (.func fn first cap) w:=fun _ _ _ _=>rfl
 have y0:=aB w (.cells #[.slice a2 n2 c2] 22 (0,0)) none;have x2:=aN w 22 #[.slice a2 n2 c2] 0 _ rfl;have hb:=aA y0;replace h:=h.below hb;replace h2:=h2.below hb
 have HC:Calls Tryz.prog 86 #[.slice a n c,.func (.func 87) #[] #[.pointer (some ⟨w.heap.size,0,none⟩)]] (w.alloc (.cells #[.slice a2 n2 c2] 22 (0,0))) fun e w'=>∃r:Bool,e=.returned (.bool r)/\r=(l.any fun y=>decide (y=l2))/\(w.alloc (.cells #[.slice a2 n2 c2] 22 (0,0))).grownBy w' none:=by
  generalize (w.alloc (.cells #[.slice a2 n2 c2] 22 (0,0)))=W at *
  refine(qG 87 _ none a n c (dC l) (fun j=>decide ((l[j]?.getD [])=l2)) (fun _ wr=>Below W.heap.size W wr) (fun _ _=>True) W ⟨cQ Tryz.func87 rfl rfl,fun j wr hi=>h.below hi, ?_, ?_⟩ (by simpa [dC] using hn) (zD2 _ _)).mono ?_
  .
   intro r hr;unfold dC at hr;obtain⟨x,_,rfl⟩:=zE1.1 hr
   rfl
  .
   intro j r wr vs hr hi Ai _;unfold dC at hr;rw[zA2]at hr;obtain⟨x,hx,rfl⟩:=zF0.1 hr;rw[hx];obtain⟨y0,us,rfl,⟨a0,c0,rfl,hb0,_⟩,rfl⟩:=Ai;refine(aJg a0 x.length c0 x w.heap.size a2 n2 c2 l2 wr hb0 (h2.below hi) (aC x2 hi)).mono ?_;rintro e w' ⟨rfl,rfl⟩
   exact⟨rfl,aR _ _,fun _=>hi,fun _=>trivial⟩
  .
   rintro e w' ⟨r,rfl,hg,ht⟩;refine⟨r,rfl, ?_,hg⟩;rw[oR ht,<-hn]
   exact mL l [] fun y=>decide (y=l2)
 clear h h2 hb;go_enter Tryz.func49,Tryz.ntmps49;go_upto_region 1 with fail;generalize (w.alloc (.cells #[.slice a2 n2 c2] 22 (0,0)))=W at *;go_wp2_with fail;refine HC.mono ?_;rintro e w3 ⟨r,rfl,hr,hg⟩;have HR:=hid hr;clear hr;go_wp2;go_ret;exact⟨aE HR.out,aD y0 hg⟩
def qR (m:Mo)(fs:List Fa)(j:Nat):Bool:=!(decide (m.uses[j]?.getD []=m.name) || ((m.uses.take j).any fun y=>decide (y=m.uses[j]?.getD [])) || !(fs.any fun f=>decide (f.name=m.uses[j]?.getD [])))
def mE (m:Mo)(fs:List Fa):Bool:=(List.range m.uses.length).all (qR m fs)
theorem pI {m:Mo}{fs:List Fa}{j:Nat}(hj:j<m.uses.length)(h:qR m fs j=false):mE m fs=false:=by
 unfold mE;rw[List.all_eq_false]
 exact⟨j,by simpa using hj,by simp[h]⟩
theorem aDq {m:Mo}{fs:List Fa}(h:∀i,i<m.uses.length->qR m fs i=true):mE m fs=true:=by
 unfold mE;rw[zF3]
 exact fun x hx=>h x (by simpa using hx)
theorem aP8 (m:Mo)(fs:List Fa)(vs:List Value)(w0 w:World)(a2:Option Addr)(n2 c2:Nat)(h:cC w0 m.fl vs)(h2:bQ w0 a2 c2 2 (fs.map Fa.fl))(hn2:fs.length=n2)(hw:Below w0.heap.size w0 w):
  Calls Tryz.prog 16 #[agg vs,.slice a2 n2 c2] w fun e w'=>e=.returned (.bool (mE m fs))/\w.grownBy w' none:=by
 obtain⟨v0,_,rfl,h0,v1,_,rfl,h1,v2,_,rfl,_,v3,_,rfl,_,rfl⟩:=h;obtain⟨a0,c0,rfl,hb0,_⟩:=h0;obtain⟨a1,c1,rfl,hL1⟩:=h1.list
 have e1:(dC m.uses).length=m.uses.length:=by simp[dC]
 have h91:=hL1.len9;rw[e1]at h91 ⊢
 obtain⟨n1,hn1⟩:∃z,z=m.uses.length:=⟨_,rfl⟩
 have HN1:=hid hn1.symm;rw[<-hn1]at h91 ⊢
 have hcap:n1<=c1:=by have:=hL1.cap;rw[e1]at this;omega
 have x0:=Blk.new w 27 [.slice a0 m.name.length c0,.slice a1 n1 c1,v2,v3];have y0:=aB w (.cells #[.slice a0 m.name.length c0,.slice a1 n1 c1,v2,v3] 27 (0,0)) none;have hw1:=hw.trans ((aA y0).mono hw.size);simp only[List.toArray]at x0;have HL:=hid hL1;have HF:=hid h2;have HB:=hid hb0;clear h1 hL1 h2 hb0 e1 hn1;simp only[agg];go_enter Tryz.func16,Tryz.ntmps16;go_upto_region 1 with fail;generalize w.alloc (.cells #[.slice a0 m.name.length c0,.slice a1 n1 c1,v2,v3] 27 (0,0))=w1 at *;have q1:=x0.k 1;go_wp2_with fail
 go_loopw [5,6,10] (fun _ _ i wr=>∃j:Nat,j<=n1/\i=.int .i64 j/\Hid (∀i,i<j->qR m fs i=true)/\Hid (w1.grownBy wr none)) (fun _ _ i _=>n1-(intOf i).toNat)
 case atStart=>exact⟨0,zD1 _,rfl,by show ∀_,_;omega,aR _ _⟩
 case round=>
  obtain⟨j,hj,rfl,hno,Az⟩:=hrel
  by_cases Aj:j<n1
  .
   obtain⟨u,hu⟩:∃u,m.uses[j]?=some u:=⟨_,zA0 Q48⟩
   have Bc:(dC m.uses)[j]?=some [.b u]:=by unfold dC;rw[zA2,hu];rfl
   obtain⟨bk,off,us,rfl,Ai,Ab⟩:=bQ.cellsAt HL.out Bc;obtain⟨y0,us2,rfl,⟨au,cu,rfl,hbu,_⟩,rfl⟩:=Ai;have hbr:=aA Az.out;have hw0:=hw1.trans (hbr.mono hw1.size);have r0:=aC (Ab 0 _ rfl) hw0;simp only[Nat.mul_one,zG1]at r0
   have HU:Hid (qR m fs j = !((decide (u=m.name) || ((m.uses.take j).any fun y=>decide (y=u))) || !(fs.any fun f=>decide (f.name=u)))):=by
    show _=_
    unfold qR;rw[hu]
    rfl
   have hlz:(m.uses.take j).length=j:=by rw[List.length_take,HN1.out];omega
   have ht:bQ w0 (some ⟨bk,off,none⟩) c1 1 (dC (m.uses.take j)):=by unfold dC;rw[List.map_take];exact bQ.take HL.out j
   have HE:∀wl,Below w0.heap.size w0 wl->Calls Tryz.prog 48 #[.slice au u.length cu,.slice a0 m.name.length c0] wl fun e w'=>e=.returned (.bool (decide (u=m.name)))/\w'=wl:=fun wl hb=>kB au _ cu u a0 _ c0 m.name wl (hbu.below hb) (HB.out.below hb)
   have HA:∀wl,Below w0.heap.size w0 wl->Calls Tryz.prog 49 #[.slice (some ⟨bk,off,none⟩) j c1,.slice au u.length cu] wl fun e w'=>e=.returned (.bool ((m.uses.take j).any fun y=>decide (y=u)))/\wl.grownBy w' none:=fun wl hb=>aKn _ j c1 (m.uses.take j) au _ cu u wl hlz (ht.below hb) (hbu.below hb)
   have HH:∀wl,Below w0.heap.size w0 wl->Calls Tryz.prog 50 #[.slice a2 n2 c2,.func (.func 37) #[] #[],.slice au u.length cu] wl fun e w'=>e=.returned (.bool (fs.any fun f=>decide (f.name=u)))/\wl.grownBy w' none:=fun wl hb=>aFm (cQ Tryz.func114 rfl rfl) a2 c2 fs n2 au _ cu u wl hn2 (HF.out.below hb) (hbu.below hb)
   clear Ab Bc hu hlz ht hbu
   generalize (fs.any fun f=>decide (f.name=u))=r3 at HH HU
   generalize ((m.uses.take j).any fun y=>decide (y=u))=r2 at HA HU
   generalize decide (u=m.name)=r1 at HE HU
   have z0:(0:Int)<=(j:Int):=by omega
   have z1:(j:Int)<=(c1:Int):=by omega
   have z2:(j:Int)<=(n1:Int):=by omega
   have s0:=aC (x0.k 0) hbr;have s1:=aC (x0.k 1) hbr;have H3:=HE wr hw0;have H10:=HA wr hw0;have HW:=hid hw0;clear hbr hw0 HE HA x0 q1;cases r1
   .
    go_wp2_with fail;refine H3.mono ?_;rintro r w3 ⟨rfl,rfl⟩;clear H3;go_wp2_with fail;refine H10.mono ?_;rintro r w4 ⟨rfl,Bd⟩;have H15:=HH w4 (HW.out.trans ((aA Bd).mono HW.out.size));clear H10 HH s0 s1 r0;cases r2
    .
     go_wp2_with fail;refine H15.mono ?_;rintro r w5 ⟨rfl,hg5⟩;have HG:=hid (aD Az.out (aD Bd hg5));clear H15 Bd hg5;cases r3
     .
      go_wp2;go_ret;exact⟨aE (Eq.symm (pI Q48 Q78)),aD y0 HG.out⟩
     .
      go_wp2;go_roundw
      case rel=>exact⟨j+1,by omega,by go_num,(show ∀i,i<j+1->qR m fs i=true from fun i hi=>(zJ3 i j).elim (fun h=>hno.out i h) (fun h=>(show j=i by omega) ▸ Q78)),HG⟩
      case measure=>simp[intOf];omega
    .
     have HG:=hid (aD Az.out Bd);clear H15 Bd;go_wp2;go_ret;exact⟨aE (Eq.symm (pI Q48 Q78)),aD y0 HG.out⟩
   .
    clear H10 HH;go_wp2_with fail;refine H3.mono ?_;rintro r w3 ⟨rfl,rfl⟩;clear H3 s0 s1 r0;go_wp2;go_ret;exact⟨aE (Eq.symm (pI Q48 Q78)),aD y0 Az.out⟩
  .
   have:j=n1:=by omega
   subst this;go_wp2;go_ret
   exact⟨aE (Eq.symm (aDq fun i hi=>hno.out i (by rw[<-HN1.out];exact hi))),aD y0 Az.out⟩
def jL (m x:List Int):List Int:=if m=[] then x else m++[46]++x
theorem wD (a1:Option Addr)(n1 c1:Nat)(l1:List Int)(a2:Option Addr)(n2 c2:Nat)(l2:List Int)(w:World)
  (h1:eG w a1 n1 l1) (h2:eG w a2 n2 l2) (hn1:n1<=1048576) (hn2:n2<=1048576):
  Calls Tryz.prog 51 #[.slice a1 n1 c1,.slice a2 n2 c2] w fun e w'=>e=.returned (.string (strOfNums (jL l1 l2)))/\w'=w:=by
 go_enter Tryz.func51,Tryz.ntmps51;have k1:=bP c1 h1;have k2:=bP c2 h2;have e1:=h1.1;have e2:=h2.1;clear h1 h2
 rcases zG0 n1 with rfl|hp
 .
  have e0:=zE0 e1;subst e0;clear e1 e2;exact U45
 .
  have Aw:(n1:Int) ≠ 0:=Q0
  have z1:¬9223372036854775807<(strOfNums l1).size+1:=by rw[strOfNums_size];omega
  have z2:¬9223372036854775807<(strOfNums l1).size+1+(strOfNums l2).size:=by rw[strOfNums_size,strOfNums_size];omega
  have e1':=hid e1;clear e1 e2;go_wp2;go_ret;replace e1':=e1'.out;refine⟨?_,rfl⟩
  have hc:jL l1 l2=l1++[46]++l2:=by unfold jL;rw[if_neg (by intro e;rw[e]at e1';simp at e1';omega)]
  rw[hc]
  have:strOfNums (l1++[46]++l2)=strOfNums l1++⟨#[46]⟩++strOfNums l2:=by
   apply ByteArray.ext
   apply Array.toList_inj.1
   simp[strOfNums]
  rw[this]
  rfl
theorem aKx {w:World}{o:Oper}{a:Act}{K:Act->World->Prop}{Q:Exit->Act->World->Prop}{b k:Nat}{f:List Int->Value}(m x v:Operand)(ho:o.op=.mapUpdate 45 m x v)
  (h:NM w b k f) (hk:k<maxLen) (s:List Int) (val:Value) (hm:a.eval m=.map (some b)) (hx:a.eval x=.string (strOfNums s)) (hv:a.eval v=val) (hs:Bt s) (hl:s.length<=maxLen)
  (hK:∀w',NM w' b (k+1) (upd f s val)->w.grownBy w' (some b)->K (a.put o.dst undef) w'):Oper.wp Tryz.prog o a w K Q:=by
 obtain⟨D,h1,h2,h3⟩:=h.ex;obtain⟨w',hrun,r1,r2⟩:=h1.update (t:=45) (e:=85) (Maps.string_keyed Tryz.underlying9) Tryz.underlying45 hk (lI hl) (val:=val) (d:=.held val) (ps:=[]) rfl;unfold Oper.wp
 simp[execOp,ho,hm,hx,hv,hrun,Result.andThen]
 exact hK w' (NM.put h2 h3 hs r1) r2
def fpL (f:Fa):List (List Int × Mn):=f.procs.map fun q=>(jL f.name q.name,(3,q.kinds))
def aJt (us:List (List Int))(g:List Int->Mn)(f:Fa):List Int->Mn:=if us.any (fun y=>decide (y=f.name)) then stG g (fpL f) else g
def eN (us:List (List Int))(g:List Int->Mn)(fs:List Fa):List Int->Mn:=fs.foldl (aJt us) g
theorem aBa {us:List (List Int)}{g:List Int->Mn}{l:List Fa}{j:Nat}{f:Fa}(h:l[j]?=some f):eN us g (l.take (j+1))=aJt us (eN us g (l.take j)) f:=by
 obtain⟨hj,rfl⟩:=zC1.1 h;unfold eN;rw[zF1 hj,List.foldl_append]
 rfl
theorem tK {m x:List Int}(hm:Bt m)(hx:Bt x):Bt (jL m x):=by
 unfold jL Bt
 split
 .
  exact hx
 .
  intro z hz;simp only[List.mem_append,List.mem_singleton]at hz
  rcases hz with (h|h)|h
  .
   exact hm z h
  .
   subst h;decide
  .
   exact hx z h
theorem qI {m x:List Int}:(jL m x).length<=m.length+1+x.length:=by
 unfold jL
 split
 .
  omega
 .
  simp only[zA1,List.length_singleton];omega
structure aPt (f:Fa):Prop where
 np:f.procs.length<=8
 nm:f.name.length<=1048576
 pn:∀q ∈ f.procs,q.name.length<=1048576
set_option maxHeartbeats 4000000 in
theorem vV (us:List (List Int))(a1:Option Addr)(n1 c1:Nat)(fs:List Fa)(a2:Option Addr)(n2 c2:Nat)(w0 w:World)(b k:Nat)(g:List Int->Mn)(h1:bQ w0 a1 c1 1 (dC us))(hn1:us.length=n1)(h2:bQ w0 a2 c2 2 (fs.map Fa.fl))(hn2:fs.length=n2)(hw:Below w0.heap.size w0 w)(hb0:w0.heap.size<=b)(hN:NT w b k g)(hk:k+8*n2<=999000)(hP:Hid (∀f ∈ fs,aPt f)):
  Calls Tryz.prog 17 #[.map (some b),.slice a1 n1 c1,.slice a2 n2 c2] w fun e w'=>e=.returned (.tuple #[])/\NT w' b (k+8*n2) (eN us g fs)/\w.grownBy w' (some b):=by
 have HN1:=hid hn1;have HN2:=hid hn2;have HL1:=hid h1;have HL2:=hid h2;have h92:=h2.len9;rw[zB2,hn2]at h92
 have S0:Hid (NT w b (k+8*0) (eN us g (fs.take 0))/\Below w0.heap.size w0 w/\w.grownBy w (some b)):=⟨by simpa [eN] using hN,hw,aR _ _⟩
 clear h1 h2 hn1 hn2 hN hw;go_enter Tryz.func17,Tryz.ntmps17;go_wp2_with fail
 go_loopw [12] (fun i wr=>∃j:Nat,j<=n2/\i=.int .i64 j/\Hid (NT wr b (k+8*j) (eN us g (fs.take j))/\Below w0.heap.size w0 wr/\w.grownBy wr (some b))) (fun i _=>n2-(intOf i).toNat)
 case atStart=>exact⟨0,zD1 _,rfl,S0⟩
 case round=>
  obtain⟨j,hj,rfl,hst⟩:=hrel;obtain⟨hN,hb,hg⟩:=hst.out;clear S0 hst
  by_cases Aj:j<n2
  .
   obtain⟨f,hf⟩:∃f,fs[j]?=some f:=⟨_,zA0 (by rw[HN2.out];exact Aj)⟩
   have HFL:=hid (hP.out f (zA3 hf));have hnm:=HFL.out.nm;have hnp:=HFL.out.np
   have HUN:Hid (eN us g (fs.take (j+1))=aJt us (eN us g (fs.take j)) f):=aBa hf
   obtain⟨bx,off,ys,rfl,hys,Ab⟩:=bQ.cellsAt HL2.out (show(fs.map Fa.fl)[j]?=some f.fl by rw[zA2,hf];rfl)
   obtain⟨s0,_,rfl,⟨ax,cx,rfl,hbx,_⟩,s1,_,rfl,h2,rfl⟩:=hys;obtain⟨ap,cp,rfl,hLp⟩:=h2.list
   have e2:(f.procs.map Fp.fl).length=f.procs.length:=by simp
   have h93:=hLp.len9;rw[e2]at h93 Ab
   obtain⟨np,hnp'⟩:∃z,z=f.procs.length:=⟨_,rfl⟩
   rw[<-hnp']at h93 Ab hnp;have HNP:=hid hnp'.symm;have r0:=aC (Ab 0 _ rfl) hb;have r1:=aC (Ab 1 _ rfl) hb;rw[zG1]at r0;have HLP:=hid hLp;have HBX:=hid hbx;have z5:=Blk.new wr 35 [.slice ax f.name.length cx,.slice ap np cp];have g5:=aB wr (.cells #[.slice ax f.name.length cx,.slice ap np cp] 35 (0,0)) none;simp only[List.toArray]at z5;have N5:=hN.grown g5;have b5:=hb.trans ((aA g5).mono hb.size)
   have G5:Hid (w.grownBy (wr.alloc (.cells #[.slice ax f.name.length cx,.slice ap np cp] 35 (0,0))) (some b)):=aD hg (bU g5 _)
   clear Ab hf hbx hLp h2 hN hb hg g5 e2 hnp';go_upto_region 3 with fail;generalize wr.alloc (.cells #[.slice ax f.name.length cx,.slice ap np cp] 35 (0,0))=w5 at *;generalize wr.heap.size=gF at *;have q0:=z5.k 0;have HA:=aKn a1 n1 c1 us ax _ cx f.name w5 HN1.out (HL1.out.below b5) (HBX.out.below b5);clear r0 r1;go_wp2_with fail;refine HA.mono ?_;rintro e w6 ⟨rfl,hg6⟩;have N6:=N5.grown hg6;have b6:=b5.trans ((aA hg6).mono b5.size)
   have G6:Hid (w.grownBy w6 (some b)):=aD G5.out (bU hg6 _)
   have p0:=aC (z5.k 0) (aA hg6);have p1:=aC (z5.k 1) (aA hg6);clear HA q0 z5 N5 b5 G5 hg6
   cases hA:us.any (fun y=>decide (y=f.name))
   .
    have HF:Hid (NT w6 b (k+8*(j+1)) (eN us g (fs.take (j+1)))/\Below w0.heap.size w0 w6/\w.grownBy w6 (some b)):=⟨by rw[HUN.out];unfold aJt;rw[hA];exact N6.mono Q0,b6,G6.out⟩
    clear hA N6 b6 p0 p1;exact U33
   .
    have HUG:Hid (eN us g (fs.take (j+1))=stG (eN us g (fs.take j)) (fpL f)):=by show _=_;rw[HUN.out];unfold aJt;rw[hA];rfl
    have S1:Hid (NT w6 b (k+8*j+0) (stG (eN us g (fs.take j)) ((fpL f).take 0))/\Below w0.heap.size w0 w6/\w.grownBy w6 (some b)/\w6.cell? ⟨gF,0,none⟩=some (.slice ax f.name.length cx)):=⟨by simpa [stG] using N6,b6,G6.out,p0⟩
    clear hA N6 b6 p0;go_wp2_with fail;clear p1
    go_loopw [24] (fun i wr=>∃i':Nat,i'<=np/\i=.int .i64 i'/\Hid (NT wr b (k+8*j+i') (stG (eN us g (fs.take j)) ((fpL f).take i'))/\Below w0.heap.size w0 wr/\w.grownBy wr (some b)/\wr.cell? ⟨gF,0,none⟩=some (.slice ax f.name.length cx))) (fun i _=>np-(intOf i).toNat)
    case atStart=>exact⟨0,zD1 _,rfl,S1⟩
    case round=>
     obtain⟨i,hi,rfl,hst⟩:=hrel;obtain⟨hN,hb,hg,hc0⟩:=hst.out;clear S1 hst
     by_cases hlt2:i<np
     .
      obtain⟨q,hq⟩:∃q,f.procs[i]?=some q:=⟨_,zA0 (by rw[HNP.out];exact hlt2)⟩
      have hqn:=HFL.out.pn q (zA3 hq)
      have HSN:Hid (stG (eN us g (fs.take j)) ((fpL f).take (i+1))=qL (stG (eN us g (fs.take j)) ((fpL f).take i)) (jL f.name q.name) (3,q.kinds)):=yS (p:=(jL f.name q.name,(3,q.kinds))) (by unfold fpL;rw[zA2,hq];rfl)
      obtain⟨by_,offy,ys,rfl,hys,Ab⟩:=bQ.cellsAt HLP.out (show(f.procs.map Fp.fl)[i]?=some q.fl by rw[zA2,hq];rfl)
      obtain⟨s0,_,rfl,⟨aq,cq,rfl,hbq,_⟩,s1,_,rfl,⟨ak,ck,rfl,hkr⟩,rfl⟩:=hys;have r0:=aC (Ab 0 _ rfl) hb;have r1:=aC (Ab 1 _ rfl) hb;rw[zG1]at r0
      have HKV:Hid ((Fl.i q.kinds).Rd w0 (.slice ak q.kinds.length ck)):=⟨ak,ck,rfl,hkr⟩
      have HBQ:=hid hbq;have z7:=Blk.new wr 59 [.slice aq q.name.length cq,.slice ak q.kinds.length ck];have g7:=aB wr (.cells #[.slice aq q.name.length cq,.slice ak q.kinds.length ck] 59 (0,0)) none;simp only[List.toArray]at z7;have N7:=hN.grown g7;have b7:=hb.trans ((aA g7).mono hb.size)
      have G7:Hid (w.grownBy (wr.alloc (.cells #[.slice aq q.name.length cq,.slice ak q.kinds.length ck] 59 (0,0))) (some b)):=aD hg (bU g7 _)
      have c7:=aC hc0 (aA g7);clear Ab hq hbq hkr hN hb hg hc0 g7;go_upto_region 7 with fail;generalize wr.alloc (.cells #[.slice aq q.name.length cq,.slice ak q.kinds.length ck] 59 (0,0))=w7 at *;generalize wr.heap.size=gQ at *
      have HS:∀{wl:World},Below w7.heap.size w7 wl->wl.cell? ⟨gF,0,none⟩=some (.slice ax f.name.length cx)/\wl.cell? ⟨gQ,0,none⟩=some (.slice aq q.name.length cq)/\wl.cell? ⟨gQ,1,none⟩=some (.slice ak q.kinds.length ck):=fun hb=>⟨aC c7 hb,aC (z7.k 0) hb,aC (z7.k 1) hb⟩
      have Ba:=HS (wl:=w7.drew) (zD2 _ _).drew;have HC:=wD ax f.name.length cx f.name aq q.name.length cq q.name w7.drew (HBX.out.below b7.drew) (HBQ.out.below b7.drew) hnm hqn;clear r0 r1
      refine rl 9 (S:=fun wl=>wl.cell? ⟨gF,0,none⟩=some (.slice ax f.name.length cx)/\wl.cell? ⟨gQ,0,none⟩=some (.slice aq q.name.length cq)/\wl.cell? ⟨gQ,1,none⟩=some (.slice ak q.kinds.length ck)) Q3 Ba (fun Aa=>?_)
      refine la 0 ?_;refine la 1 ?_;refine la 2 ?_;try simp only[nrm]
      refine la 3 ?_;refine la 4 ?_;refine la 6 ?_;try simp only[nrm]
      refine la 7 ?_;refine la 8 ?_;try simp only[nrm]
      refine da 5 fun K hK=>?_
      go_simp
      (with_reducible refine HC.mono ?_)
      rintro e wa ⟨rfl,rfl⟩;go_wp2_with fail
      refine hK.out _ _ (Ba) (fun Aa=>?_)
      clear hK K;try simp only[nrm]
      have N8:=N7.grown (aW (zD2 w7.heap.size w7).drew none);have b8:=b7.drew
      have G8:Hid (w.grownBy w7.drew (some b)):=aD G7.out (aW (zD2 w7.heap.size w7).drew _)
      generalize w7.drew=w8 at *;obtain⟨ff,hf1,hf2⟩:=N8.ex
      refine ea fun K hK=>?_
      rw[if_pos Q3];refine aKx _ _ _ rfl hf1 Q17 (jL f.name q.name) (.agg #[.int .i64 3,.slice ak q.kinds.length ck]) rfl rfl rfl (tK HBX.out.2.1 HBQ.out.2.1) (zF2 qI Q17) ?_;intro w9 hN9 hg9
      have HF:Hid (NT w9 b (k+8*j+(i+1)) (stG (eN us g (fs.take j)) ((fpL f).take (i+1)))/\Below w0.heap.size w0 w9/\w.grownBy w9 (some b)/\w9.cell? ⟨gF,0,none⟩=some (.slice ax f.name.length cx)):=⟨by rw[HSN.out];exact NT.put hf1 hf2 hN9 hg9 ⟨_,rfl,HKV.out.below b8⟩,cX b8 hg9 hb0,aD G8.out hg9,N8.cell Aa.1 hg9⟩
      refine hK.out _ _ ?_;clear hK K Aa HS Ba HC hN9 hg9 hf1 hf2 N7 N8 b7 b8 c7 z7;go_wp2;go_roundw
      case rel=>exact⟨i+1,by omega,by go_num,HF⟩
      case measure=>simp[intOf];omega
     .
      have:np=i:=Q0
      subst this
      rw[zD3 (show(fpL f).length<=np by unfold fpL;rw[zB2,HNP.out];exact zB0 _)]at hN
      have HF:Hid (NT wr b (k+8*(j+1)) (eN us g (fs.take (j+1)))/\Below w0.heap.size w0 wr/\w.grownBy wr (some b)):=⟨by rw[HUG.out];exact hN.mono Q0,hb,hg⟩
      clear hN hb hg hc0;exact U33
  .
   have:n2=j:=Q0
   subst this
   rw[zD3 (by rw[HN2.out];exact zB0 _)]at hN
   have HF:Hid (NT wr b (k+8*n2) (eN us g fs)/\w.grownBy wr (some b)):=⟨hN,hg⟩
   clear hN hb hg;go_wp2_with fail;exact bodyPost_end (results_none rfl _ _ _) rfl ⟨rfl,HF.out⟩
end Go.Proofs.YtffphdacgblaoaaGreatDoor

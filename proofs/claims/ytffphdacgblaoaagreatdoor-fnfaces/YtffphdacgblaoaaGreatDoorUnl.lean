import Derived.Test.YtffphdacgblaoaaGreatDoorAll
import Derived.Deep.RegionHeld3
namespace Go.Proofs.YtffphdacgblaoaaGreatDoor
set_option maxHeartbeats 4000000
open Go.RowKit
set_option linter.unusedVariables false
set_option linter.unusedSimpArgs false
set_option maxRecDepth 100000
theorem Q74{p:Prop}(h:p:=by rw[hun.out];rfl):p:=h
theorem Q77{p:Prop}(h:p:=by simpa using hi):p:=h
theorem U22{p:Prop}(h:p:=by
 intro r hr
 obtain⟨x,_,rfl⟩:=zE1.1 hr
 rfl):p:=h
theorem U36{p:Prop}(h:p:=by
 have hb:=aA hg
 have hgl:w.grownBy wl none:=aD Bf ⟨hg.os,hg.tape,hg.output,hg.size,hg.block⟩
 refine⟨⟨aC Ba.1 hb,aC Ba.2 hb⟩, ?_⟩
 refine(HH wl (aA hgl)).mono ?_
 rintro e w' ⟨rfl,h⟩
 exact⟨rfl,aD hgl h,aC (aC Ba.1 hb) (aA h),aC (aC Ba.2 hb) (aA h)⟩):p:=h
theorem U49{p:Prop}(h:p:=by
 have hb:=aA hg
 refine⟨⟨aC Ba.1 hb,aC Ba.2.1 hb,aC Ba.2.2.1 hb,aC Ba.2.2.2 hb⟩, ?_⟩
 exact kB a0 n0 c0 l0 a2 n2 c2 l2 wl (eG.below (w:=w1.drew) h0 hb) (eG.below (w:=w1.drew) h2 hb)):p:=h
theorem U61{p:Prop}(h:p:=by
 go_wp2_with fail
 refine HC.mono ?_
 rintro e w3 ⟨r,rfl,hr,hg⟩
 have HR:=hid hr
 clear hr
 go_wp2
 go_ret
 exact⟨r,rfl,HR.out,aD yy hg⟩):p:=h
theorem U65{p:Prop}(h:p:=by
 go_wp2_with fail
 refine HC.mono ?_
 rintro e w3 ⟨r,rfl,hr,hg⟩
 have HR:=hid hr
 clear hr
 go_wp2
 go_ret
 exact⟨aE HR.out,hg⟩):p:=h
theorem U68{p:Prop}(h:p:=by
 have:j=n:=by omega
 subst this
 go_wp2
 go_ret
 exact⟨aE (nX fun i hi=>hno.out i (by simpa [Hd.out] using hi)).symm,Az.out⟩):p:=h
theorem U69{p:Prop}(h:p:=by
 rintro e w' ⟨r,rfl,hg,ht⟩
 refine⟨r,rfl, ?_,hg⟩
 rw[oR ht,<-hn]
 exact mL l ⟨[],[]⟩ fun y=>decide (y.name=l2)):p:=h
theorem U85{p:Prop}(h:p:=by
 rintro e w' ⟨rfl,hg⟩
 exact⟨rfl,hg,fun _=>hi.trans ((aA hg).mono hi.size),fun _=>trivial⟩):p:=h
theorem U98{p:Prop}(h:p:=by
 go_wp2
 go_ret
 exact⟨rfl,aD y0 ⟨hgl.os,hgl.tape,hgl.output,hgl.size,hgl.block⟩⟩):p:=h
theorem U102{p:Prop}(h:p:=by
 go_wp2_with fail
 refine zH1 1 ?_
 rw[zE2]
 go_wp2
 go_ret
 exact⟨aE (by rfl),aR _ _⟩):p:=h
theorem U105{p:Prop}(h:p:=by
 go_wp2
 go_ret
 exact⟨aE (rZ (by simpa [Hd.out] using Aj) Q74).symm,hg3'.out⟩):p:=h
theorem M969{p q:Prop}(k:q)(h:Kx q->p:=by
 intro kQ
 replace Ab:∀i v,_->_:=fun i v hv=>aC (Ab i v hv) hbr
 have q0:wr.cell? ⟨b,off+j*2,none⟩=some (.slice a0 x.name.length c0):=Ab 0 _ rfl
 obtain⟨n1,q1⟩:∃n1,wr.cell? ⟨b,off+j*2+1,none⟩=some (.slice a1 n1 c1):=⟨_,Ab 1 _ rfl⟩
 clear Ab
 have hlz:(l.take j).length=j:=by simp;omega
 have hb0w:eG w a0 x.name.length x.name:=hx0
 revert hb0w;revert hlz;revert q1;revert n1;revert q0
 exact kQ.o):p:=h ⟨k⟩
theorem M989{p q:Prop}(k:q)(h:Kx q->p:=by
 intro kQ
 have Hd:=hid hn
 have hcn:n<=9223372036854775807:=by have h1:=h.cap;have h2:=h.most;unfold maxLen at h2;simp only[zB2]at h1;omega
 have hnc:n<=c:=by have h1:=h.cap;simp only[zB2]at h1;omega
 revert hnc;revert hcn;revert Hd
 exact kQ.o):p:=h ⟨k⟩
def unl (l:List (List Int))(i:Nat):Bool:=!((l.take i).any fun y=>decide (y=l[i]?.getD []))
def fU (l:List (List Int)):Bool:=(List.range l.length).all (unl l)
theorem rZ {l:List (List Int)}{i:Nat}(hi:i<l.length)(h:unl l i=false):fU l=false:=by
 unfold fU;rw[List.all_eq_false]
 exact⟨i,by simpa using hi,by simp[h]⟩
theorem nX {l:List (List Int)}(h:∀i,i<l.length->unl l i=true):fU l=true:=by
 unfold fU;rw[zF3]
 exact fun i hi=>h i Q77
theorem eT.take {w:World}{b k:Nat}:∀{rs:List (List Fl)} {off i:Nat},eT w b k off rs->eT w b k off (rs.take i):=by
 intro rs
 induction rs with
 | nil=>intro off i h;simpa using h
 | cons r rs ih=>
  intro off i h
  cases i with
  | zero=>exact trivial
  | succ i=>exact⟨h.1,ih h.2⟩
theorem bQ.take {w:World}{a:Option Addr}{c k:Nat}{rs:List (List Fl)}(h:bQ w a c k rs)(i:Nat):bQ w a c k (rs.take i):=by
 refine⟨zF2 (by simp;omega) h.cap,h.most,h.nil,fun hp=>?_⟩
 obtain⟨b,off,e,hr⟩:=h.row (by simp at hp;omega)
 exact⟨b,off,e,hr.take⟩
theorem mU (v0 v1:Value)(w:World):
  Calls Tryz.prog 27 #[.agg #[v0,v1]] w fun e w'=>e=.returned v0/\w.grownBy w' none:=by
 have y0:=aB w (.cells #[v0,v1] 59 (0,0)) none;have q0:=aN w 59 #[v0,v1] 0 _ rfl;go_enter Tryz.func27,Tryz.ntmps27;go_upto_region 1 with fail;generalize w.alloc (.cells #[v0,v1] 59 (0,0))=w1 at *;go_wp2;go_ret;exact⟨rfl,y0⟩
theorem qV (a0:Option Addr)(n0 c0:Nat)(l0:List Int)(v1:Value)(g1 g2:Nat)(a2:Option Addr)(n2 c2:Nat)(l2:List Int)(w:World)
  (h0:eG w a0 n0 l0) (h2:eG w a2 n2 l2) (x1:w.cell? ⟨g1,0,none⟩=some (.func (.func 27) #[] #[])) (x2:w.cell? ⟨g2,0,none⟩=some (.slice a2 n2 c2)):
  Calls Tryz.prog 120 #[.agg #[.slice a0 n0 c0,v1],.pointer (some ⟨g1,0,none⟩),.pointer (some ⟨g2,0,none⟩)] w fun e w'=>e=.returned (.bool (decide (l0=l2)))/\w.grownBy w' none:=by
 have y0:=aB w (.cells #[.slice a0 n0 c0,v1] 59 (0,0)) none;have q0:=aN w 59 #[.slice a0 n0 c0,v1] 0 _ rfl;have q1:=aN w 59 #[.slice a0 n0 c0,v1] 1 _ rfl;replace x1:=aC x1 (aA y0);replace x2:=aC x2 (aA y0);replace h0:=h0.below (aA y0);replace h2:=h2.below (aA y0);go_enter Tryz.func120,Tryz.ntmps120;go_upto_region 1 with fail;generalize w.alloc (.cells #[.slice a0 n0 c0,v1] 59 (0,0))=w1 at *;have HN:=mU (.slice a0 n0 c0) v1 w1.drew
 have Ba:(w1.drew.cell? ⟨g1,0,none⟩=some (.func (.func 27) #[] #[])/\w1.drew.cell? ⟨w.heap.size,0,none⟩=some (.slice a0 n0 c0)/\w1.drew.cell? ⟨w.heap.size,1,none⟩=some v1/\w1.drew.cell? ⟨g2,0,none⟩=some (.slice a2 n2 c2)):=⟨x1,q0,q1,x2⟩
 have hbs:∀{wl:World},w1.drew.grownBy wl none->(wl.cell? ⟨g1,0,none⟩=some (.func (.func 27) #[] #[])/\wl.cell? ⟨w.heap.size,0,none⟩=some (.slice a0 n0 c0)/\wl.cell? ⟨w.heap.size,1,none⟩=some v1/\wl.cell? ⟨g2,0,none⟩=some (.slice a2 n2 c2))/\Calls Tryz.prog 48 #[.slice a0 n0 c0,.slice a2 n2 c2] wl (fun e w'=>e=.returned (.bool (decide (l0=l2)))/\w'=wl):=by
  intro wl hg;exact U49
 clear h0 h2
 go_region_held3 (fun wx=>(wx.cell? ⟨g1,0,none⟩=some (.func (.func 27) #[] #[])/\wx.cell? ⟨w.heap.size,0,none⟩=some (.slice a0 n0 c0)/\wx.cell? ⟨w.heap.size,1,none⟩=some v1/\wx.cell? ⟨g2,0,none⟩=some (.slice a2 n2 c2))) (first|exact Ba|exact HSl) (first
  | (go_at_call 27;(with_reducible refine HN.mono ?_);rintro e wl ⟨rfl,hgl⟩;obtain⟨HSl,HEl⟩:=hbs hgl)
  | (go_at_call 48;(with_reducible refine HEl.mono ?_);rintro e w3 ⟨rfl,rfl⟩))
 exact U98
theorem sN (hE1:Ent 120)(a:Option Addr)(c:Nat)(l:List Fp)(n:Nat)(a2:Option Addr)(n2 c2:Nat)(l2:List Int)(w:World)(hn:l.length=n)
  (h:bQ w a c 2 (l.map Fp.fl)) (h2:eG w a2 n2 l2):
  Calls Tryz.prog 95 #[.slice a n c,.func (.func 27) #[] #[],.slice a2 n2 c2] w fun e w'=>∃r:Int,e=.returned (.int .i64 r)/\decide (0<=r)=(l.any fun y=>decide (y.name=l2))/\w.grownBy w' none:=by
 have y0:=aB w (.cells #[.func (.func 27) #[] #[]] 65 (0,0)) none;have x1:=aN w 65 #[.func (.func 27) #[] #[]] 0 _ rfl;have y1:=aB (w.alloc (.cells #[.func (.func 27) #[] #[]] 65 (0,0))) (.cells #[.slice a2 n2 c2] 22 (0,0)) none;have x2:=aN (w.alloc (.cells #[.func (.func 27) #[] #[]] 65 (0,0))) 22 #[.slice a2 n2 c2] 0 _ rfl
 rw[show(w.alloc (.cells #[.func (.func 27) #[] #[]] 65 (0,0))).heap.size=w.heap.size+1 by simp]at x2
 replace x1:=aC x1 (aA y1);have hb:=aA (aD y0 y1);replace h:=h.below hb;replace h2:=h2.below hb;have yy:=aD y0 y1;clear y0 y1
 have HC:Calls Tryz.prog 92 #[.slice a n c,.func (.func 120) #[] #[.pointer (some ⟨w.heap.size,0,none⟩),.pointer (some ⟨w.heap.size+1,0,none⟩)]] ((w.alloc (.cells #[.func (.func 27) #[] #[]] 65 (0,0))).alloc (.cells #[.slice a2 n2 c2] 22 (0,0))) fun e w'=>∃r:Int,e=.returned (.int .i64 r)/\decide (0<=r)=(l.any fun y=>decide (y.name=l2))/\((w.alloc (.cells #[.func (.func 27) #[] #[]] 65 (0,0))).alloc (.cells #[.slice a2 n2 c2] 22 (0,0))).grownBy w' none:=by
  generalize ((w.alloc (.cells #[.func (.func 27) #[] #[]] 65 (0,0))).alloc (.cells #[.slice a2 n2 c2] 22 (0,0)))=W at *
  refine(sZ 120 _ none a n c (l.map Fp.fl) (fun j=>decide ((l[j]?.getD ⟨[],[]⟩).name=l2)) (fun _ wr=>Below W.heap.size W wr) (fun _ _=>True) W ⟨hE1,fun j wr hi=>h.below hi, ?_, ?_⟩ (by simpa using hn) (zD2 _ _)).mono ?_
  .
   exact U22
  .
   intro j r wr vs hr hi Ai _;rw[zA2]at hr;obtain⟨x,hx,rfl⟩:=zF0.1 hr;rw[hx];obtain⟨y0,us,rfl,⟨a0,c0,rfl,hb0,_⟩,y1,us2,rfl,_,rfl⟩:=Ai;refine(qV a0 x.name.length c0 x.name y1 w.heap.size (w.heap.size+1) a2 n2 c2 l2 wr hb0 (h2.below hi) (aC x1 hi) (aC x2 hi)).mono ?_;exact U85
  .
   exact U69
 clear h h2 hb;go_enter Tryz.func95,Tryz.ntmps95;go_upto_region 1 with fail;generalize ((w.alloc (.cells #[.func (.func 27) #[] #[]] 65 (0,0))).alloc (.cells #[.slice a2 n2 c2] 22 (0,0)))=W at *;exact U61
theorem xR (hE1:Ent 120)(a:Option Addr)(c:Nat)(l:List Fp)(n:Nat)(a2:Option Addr)(n2 c2:Nat)(l2:List Int)(w:World)(hn:l.length=n)
  (h:bQ w a c 2 (l.map Fp.fl)) (h2:eG w a2 n2 l2):
  Calls Tryz.prog 66 #[.slice a n c,.func (.func 27) #[] #[],.slice a2 n2 c2] w fun e w'=>e=.returned (.bool (l.any fun y=>decide (y.name=l2)))/\w.grownBy w' none:=by
 have HC:=sN hE1 a c l n a2 n2 c2 l2 w hn h h2;clear h h2 hn;go_enter Tryz.func66,Tryz.ntmps66;exact U65
theorem qS (hE1:Ent 120)(a:Option Addr)(c:Nat)(l:List Fp)(n:Nat)(w:World)(hn:l.length=n)(h:bQ w a c 2 (l.map Fp.fl)):
  Calls Tryz.prog 26 #[.slice a n c,.func (.func 27) #[] #[]] w fun e w'=>e=.returned (.bool (fU (l.map Fp.name)))/\w.grownBy w' none:=by
 refine M989 ?_;intro Hd hcn hnc
 rcases zG0 n with h0|hpos
 .
  subst h0;have e0:=zE0 Hd.out;subst e0;clear h hn;go_enter Tryz.func26,Tryz.ntmps26;exact U102
 .
  obtain⟨b,off,rfl⟩:=h.addr (by simpa using by omega)
  have HL:=hid h;clear h hn;go_enter Tryz.func26,Tryz.ntmps26;go_wp2_with fail
  go_loopw [5,6,9] (fun _ _ i wr=>∃j:Nat,j<=n/\i=.int .i64 j/\Hid (∀i,i<j->unl (l.map Fp.name) i=true)/\Hid (w.grownBy wr none)) (fun _ _ i _=>n-(intOf i).toNat)
  case atStart=>exact⟨0,zD1 _,rfl,by show ∀_,_;omega,aR _ _⟩
  case round=>
   obtain⟨j,hj,rfl,hno,Az⟩:=hrel
   by_cases Aj:j<n
   .
    have hlt2:j<l.length:=by rw[Hd.out];exact Aj
    have Bc:(l.map Fp.fl)[j]?=some (Fp.fl l[j]):=by simp[hlt2]
    have hnm:Hid ((l.map Fp.name)[j]?.getD []=l[j].name):=by show _=_;simp[hlt2]
    generalize l[j]=x at Bc hnm;have hbr:=aA Az.out;obtain⟨vs,Ai,Ab⟩:=(bQ.el HL.out Bc).vals;obtain⟨y0,us,rfl,⟨a0,c0,rfl,hx0,_⟩,y1,us2,rfl,⟨a1,c1,rfl,_⟩,rfl⟩:=Ai;refine M969 ?_;clear Ab Bc;intro q0 n1 q1 hlz hb0w
    have ht:bQ w (some ⟨b,off,none⟩) c 2 ((l.take j).map Fp.fl):=by rw[List.map_take];exact bQ.take HL.out j
    have HH:∀wl,Below w.heap.size w wl->Calls Tryz.prog 66 #[.slice (some ⟨b,off,none⟩) j c,.func (.func 27) #[] #[],.slice a0 x.name.length c0] wl fun e w'=>e=.returned (.bool ((l.take j).any fun y=>decide (y.name=x.name)))/\wl.grownBy w' none:=by
     intro wl hb;exact xR hE1 (some ⟨b,off,none⟩) c (l.take j) j a0 x.name.length c0 x.name wl hlz (ht.below hb) (hb0w.below hb)
    clear ht hlz;have Bf:=aD Az.out (aB wr (.cells #[.slice a0 x.name.length c0,.slice a1 n1 c1] 59 (0,0)) none);have o0:=aN wr 59 #[.slice a0 x.name.length c0,.slice a1 n1 c1] 0 _ rfl;have o1:=aN wr 59 #[.slice a0 x.name.length c0,.slice a1 n1 c1] 1 _ rfl;go_upto_region 4 with fail;generalize wr.alloc (.cells #[.slice a0 x.name.length c0,.slice a1 n1 c1] 59 (0,0))=w1 at Bf o0 o1 ⊢;clear q0 q1 hb0w;have HN:=mU (.slice a0 x.name.length c0) (.slice a1 n1 c1) w1.drew
    have Ba:(w1.drew.cell? ⟨wr.heap.size,0,none⟩=some (.slice a0 x.name.length c0)/\w1.drew.cell? ⟨wr.heap.size,1,none⟩=some (.slice a1 n1 c1)):=⟨o0,o1⟩
    have hbs:∀{wl:World},w1.drew.grownBy wl none->(wl.cell? ⟨wr.heap.size,0,none⟩=some (.slice a0 x.name.length c0)/\wl.cell? ⟨wr.heap.size,1,none⟩=some (.slice a1 n1 c1))/\Calls Tryz.prog 66 #[.slice (some ⟨b,off,none⟩) j c,.func (.func 27) #[] #[],.slice a0 x.name.length c0] wl (fun e w'=>e=.returned (.bool ((l.take j).any fun y=>decide (y.name=x.name)))/\w.grownBy w' none/\(w'.cell? ⟨wr.heap.size,0,none⟩=some (.slice a0 x.name.length c0)/\w'.cell? ⟨wr.heap.size,1,none⟩=some (.slice a1 n1 c1))):=by
     intro wl hg;exact U36
    clear HH Bf o0 o1
    have hun:Hid (unl (l.map Fp.name) j = !((l.take j).any fun y=>decide (y.name=x.name))):=by
     show _=_
     unfold unl;rw[hnm.out,<-List.map_take,List.any_map]
     rfl
    generalize ((l.take j).any fun y=>decide (y.name=x.name))=r at hbs hun
    have z0:(0:Int)<=(j:Int):=by omega
    have z1:(j:Int)<=(c:Int):=by omega
    have z2:(j:Int)<=(n:Int):=by omega
    go_region_held3 (fun wx=>(wx.cell? ⟨wr.heap.size,0,none⟩=some (.slice a0 x.name.length c0)/\wx.cell? ⟨wr.heap.size,1,none⟩=some (.slice a1 n1 c1))) (first|exact Ba|exact HS3|exact HSl) (first
     | (go_at_call 27;(with_reducible refine HN.mono ?_);rintro e wl ⟨rfl,hgl⟩;obtain⟨HSl,HEl⟩:=hbs hgl)
     | (go_at_call 66;(with_reducible refine HEl.mono ?_);rintro e w3 ⟨rfl,hg3,HS3⟩))
    have hg3':=hid hg3;clear hg3 HN Ba hbs
    cases r with
    | true=>
     exact U105
    | false=>
     go_wp2;go_roundw
     case rel=>exact⟨j+1,by omega,by go_num,(show ∀i,i<j+1->unl (l.map Fp.name) i=true from fun i hi=>(zJ3 i j).elim (fun h=>hno.out i h) (fun h=>(show j=i by omega) ▸ Q74)),hg3'⟩
     case measure=>simp[intOf];omega
   .
    exact U68
theorem vC (v0 v1:Value)(w:World):
  Calls Tryz.prog 37 #[.agg #[v0,v1]] w fun e w'=>e=.returned v0/\w.grownBy w' none:=by
 have y0:=aB w (.cells #[v0,v1] 35 (0,0)) none;have q0:=aN w 35 #[v0,v1] 0 _ rfl;go_enter Tryz.func37,Tryz.ntmps37;go_upto_region 1 with fail;generalize w.alloc (.cells #[v0,v1] 35 (0,0))=w1 at *;go_wp2;go_ret;exact⟨rfl,y0⟩
theorem aC1 (a0:Option Addr)(n0 c0:Nat)(l0:List Int)(v1:Value)(g1 g2:Nat)(a2:Option Addr)(n2 c2:Nat)(l2:List Int)(w:World)
  (h0:eG w a0 n0 l0) (h2:eG w a2 n2 l2) (x1:w.cell? ⟨g1,0,none⟩=some (.func (.func 37) #[] #[])) (x2:w.cell? ⟨g2,0,none⟩=some (.slice a2 n2 c2)):
  Calls Tryz.prog 114 #[.agg #[.slice a0 n0 c0,v1],.pointer (some ⟨g1,0,none⟩),.pointer (some ⟨g2,0,none⟩)] w fun e w'=>e=.returned (.bool (decide (l0=l2)))/\w.grownBy w' none:=by
 have y0:=aB w (.cells #[.slice a0 n0 c0,v1] 35 (0,0)) none;have q0:=aN w 35 #[.slice a0 n0 c0,v1] 0 _ rfl;have q1:=aN w 35 #[.slice a0 n0 c0,v1] 1 _ rfl;replace x1:=aC x1 (aA y0);replace x2:=aC x2 (aA y0);replace h0:=h0.below (aA y0);replace h2:=h2.below (aA y0);go_enter Tryz.func114,Tryz.ntmps114;go_upto_region 1 with fail;generalize w.alloc (.cells #[.slice a0 n0 c0,v1] 35 (0,0))=w1 at *;have HN:=vC (.slice a0 n0 c0) v1 w1.drew
 have Ba:(w1.drew.cell? ⟨g1,0,none⟩=some (.func (.func 37) #[] #[])/\w1.drew.cell? ⟨w.heap.size,0,none⟩=some (.slice a0 n0 c0)/\w1.drew.cell? ⟨w.heap.size,1,none⟩=some v1/\w1.drew.cell? ⟨g2,0,none⟩=some (.slice a2 n2 c2)):=⟨x1,q0,q1,x2⟩
 have hbs:∀{wl:World},w1.drew.grownBy wl none->(wl.cell? ⟨g1,0,none⟩=some (.func (.func 37) #[] #[])/\wl.cell? ⟨w.heap.size,0,none⟩=some (.slice a0 n0 c0)/\wl.cell? ⟨w.heap.size,1,none⟩=some v1/\wl.cell? ⟨g2,0,none⟩=some (.slice a2 n2 c2))/\Calls Tryz.prog 48 #[.slice a0 n0 c0,.slice a2 n2 c2] wl (fun e w'=>e=.returned (.bool (decide (l0=l2)))/\w'=wl):=by
  intro wl hg;exact U49
 clear h0 h2
 go_region_held3 (fun wx=>(wx.cell? ⟨g1,0,none⟩=some (.func (.func 37) #[] #[])/\wx.cell? ⟨w.heap.size,0,none⟩=some (.slice a0 n0 c0)/\wx.cell? ⟨w.heap.size,1,none⟩=some v1/\wx.cell? ⟨g2,0,none⟩=some (.slice a2 n2 c2))) (first|exact Ba|exact HSl) (first
  | (go_at_call 37;(with_reducible refine HN.mono ?_);rintro e wl ⟨rfl,hgl⟩;obtain⟨HSl,HEl⟩:=hbs hgl)
  | (go_at_call 48;(with_reducible refine HEl.mono ?_);rintro e w3 ⟨rfl,rfl⟩))
 exact U98
theorem aEn (hE1:Ent 114)(a:Option Addr)(c:Nat)(l:List Fa)(n:Nat)(a2:Option Addr)(n2 c2:Nat)(l2:List Int)(w:World)(hn:l.length=n)
  (h:bQ w a c 2 (l.map Fa.fl)) (h2:eG w a2 n2 l2):
  Calls Tryz.prog 88 #[.slice a n c,.func (.func 37) #[] #[],.slice a2 n2 c2] w fun e w'=>∃r:Int,e=.returned (.int .i64 r)/\decide (0<=r)=(l.any fun y=>decide (y.name=l2))/\w.grownBy w' none:=by
 have y0:=aB w (.cells #[.func (.func 37) #[] #[]] 79 (0,0)) none;have x1:=aN w 79 #[.func (.func 37) #[] #[]] 0 _ rfl;have y1:=aB (w.alloc (.cells #[.func (.func 37) #[] #[]] 79 (0,0))) (.cells #[.slice a2 n2 c2] 22 (0,0)) none;have x2:=aN (w.alloc (.cells #[.func (.func 37) #[] #[]] 79 (0,0))) 22 #[.slice a2 n2 c2] 0 _ rfl
 rw[show(w.alloc (.cells #[.func (.func 37) #[] #[]] 79 (0,0))).heap.size=w.heap.size+1 by simp]at x2
 replace x1:=aC x1 (aA y1);have hb:=aA (aD y0 y1);replace h:=h.below hb;replace h2:=h2.below hb;have yy:=aD y0 y1;clear y0 y1
 have HC:Calls Tryz.prog 107 #[.slice a n c,.func (.func 114) #[] #[.pointer (some ⟨w.heap.size,0,none⟩),.pointer (some ⟨w.heap.size+1,0,none⟩)]] ((w.alloc (.cells #[.func (.func 37) #[] #[]] 79 (0,0))).alloc (.cells #[.slice a2 n2 c2] 22 (0,0))) fun e w'=>∃r:Int,e=.returned (.int .i64 r)/\decide (0<=r)=(l.any fun y=>decide (y.name=l2))/\((w.alloc (.cells #[.func (.func 37) #[] #[]] 79 (0,0))).alloc (.cells #[.slice a2 n2 c2] 22 (0,0))).grownBy w' none:=by
  generalize ((w.alloc (.cells #[.func (.func 37) #[] #[]] 79 (0,0))).alloc (.cells #[.slice a2 n2 c2] 22 (0,0)))=W at *
  refine(aFf 114 _ none a n c (l.map Fa.fl) (fun j=>decide ((l[j]?.getD ⟨[],[]⟩).name=l2)) (fun _ wr=>Below W.heap.size W wr) (fun _ _=>True) W ⟨hE1,fun j wr hi=>h.below hi, ?_, ?_⟩ (by simpa using hn) (zD2 _ _)).mono ?_
  .
   exact U22
  .
   intro j r wr vs hr hi Ai _;rw[zA2]at hr;obtain⟨x,hx,rfl⟩:=zF0.1 hr;rw[hx];obtain⟨y0,us,rfl,⟨a0,c0,rfl,hb0,_⟩,y1,us2,rfl,_,rfl⟩:=Ai;refine(aC1 a0 x.name.length c0 x.name y1 w.heap.size (w.heap.size+1) a2 n2 c2 l2 wr hb0 (h2.below hi) (aC x1 hi) (aC x2 hi)).mono ?_;exact U85
  .
   exact U69
 clear h h2 hb;go_enter Tryz.func88,Tryz.ntmps88;go_upto_region 1 with fail;generalize ((w.alloc (.cells #[.func (.func 37) #[] #[]] 79 (0,0))).alloc (.cells #[.slice a2 n2 c2] 22 (0,0)))=W at *;exact U61
theorem aFm (hE1:Ent 114)(a:Option Addr)(c:Nat)(l:List Fa)(n:Nat)(a2:Option Addr)(n2 c2:Nat)(l2:List Int)(w:World)(hn:l.length=n)
  (h:bQ w a c 2 (l.map Fa.fl)) (h2:eG w a2 n2 l2):
  Calls Tryz.prog 50 #[.slice a n c,.func (.func 37) #[] #[],.slice a2 n2 c2] w fun e w'=>e=.returned (.bool (l.any fun y=>decide (y.name=l2)))/\w.grownBy w' none:=by
 have HC:=aEn hE1 a c l n a2 n2 c2 l2 w hn h h2;clear h h2 hn;go_enter Tryz.func50,Tryz.ntmps50;exact U65
theorem aBb (hE1:Ent 114)(a:Option Addr)(c:Nat)(l:List Fa)(n:Nat)(w:World)(hn:l.length=n)(h:bQ w a c 2 (l.map Fa.fl)):
  Calls Tryz.prog 36 #[.slice a n c,.func (.func 37) #[] #[]] w fun e w'=>e=.returned (.bool (fU (l.map Fa.name)))/\w.grownBy w' none:=by
 refine M989 ?_;intro Hd hcn hnc
 rcases zG0 n with h0|hpos
 .
  subst h0;have e0:=zE0 Hd.out;subst e0;clear h hn;go_enter Tryz.func36,Tryz.ntmps36;exact U102
 .
  obtain⟨b,off,rfl⟩:=h.addr (by simpa using by omega)
  have HL:=hid h;clear h hn;go_enter Tryz.func36,Tryz.ntmps36;go_wp2_with fail
  go_loopw [5,6,9] (fun _ _ i wr=>∃j:Nat,j<=n/\i=.int .i64 j/\Hid (∀i,i<j->unl (l.map Fa.name) i=true)/\Hid (w.grownBy wr none)) (fun _ _ i _=>n-(intOf i).toNat)
  case atStart=>exact⟨0,zD1 _,rfl,by show ∀_,_;omega,aR _ _⟩
  case round=>
   obtain⟨j,hj,rfl,hno,Az⟩:=hrel
   by_cases Aj:j<n
   .
    have hlt2:j<l.length:=by rw[Hd.out];exact Aj
    have Bc:(l.map Fa.fl)[j]?=some (Fa.fl l[j]):=by simp[hlt2]
    have hnm:Hid ((l.map Fa.name)[j]?.getD []=l[j].name):=by show _=_;simp[hlt2]
    generalize l[j]=x at Bc hnm;have hbr:=aA Az.out;obtain⟨vs,Ai,Ab⟩:=(bQ.el HL.out Bc).vals;obtain⟨y0,us,rfl,⟨a0,c0,rfl,hx0,_⟩,y1,us2,rfl,⟨a1,c1,rfl,_⟩,rfl⟩:=Ai;refine M969 ?_;clear Ab Bc;intro q0 n1 q1 hlz hb0w
    have ht:bQ w (some ⟨b,off,none⟩) c 2 ((l.take j).map Fa.fl):=by rw[List.map_take];exact bQ.take HL.out j
    have HH:∀wl,Below w.heap.size w wl->Calls Tryz.prog 50 #[.slice (some ⟨b,off,none⟩) j c,.func (.func 37) #[] #[],.slice a0 x.name.length c0] wl fun e w'=>e=.returned (.bool ((l.take j).any fun y=>decide (y.name=x.name)))/\wl.grownBy w' none:=by
     intro wl hb;exact aFm hE1 (some ⟨b,off,none⟩) c (l.take j) j a0 x.name.length c0 x.name wl hlz (ht.below hb) (hb0w.below hb)
    clear ht hlz;have Bf:=aD Az.out (aB wr (.cells #[.slice a0 x.name.length c0,.slice a1 n1 c1] 35 (0,0)) none);have o0:=aN wr 35 #[.slice a0 x.name.length c0,.slice a1 n1 c1] 0 _ rfl;have o1:=aN wr 35 #[.slice a0 x.name.length c0,.slice a1 n1 c1] 1 _ rfl;go_upto_region 4 with fail;generalize wr.alloc (.cells #[.slice a0 x.name.length c0,.slice a1 n1 c1] 35 (0,0))=w1 at Bf o0 o1 ⊢;clear q0 q1 hb0w;have HN:=vC (.slice a0 x.name.length c0) (.slice a1 n1 c1) w1.drew
    have Ba:(w1.drew.cell? ⟨wr.heap.size,0,none⟩=some (.slice a0 x.name.length c0)/\w1.drew.cell? ⟨wr.heap.size,1,none⟩=some (.slice a1 n1 c1)):=⟨o0,o1⟩
    have hbs:∀{wl:World},w1.drew.grownBy wl none->(wl.cell? ⟨wr.heap.size,0,none⟩=some (.slice a0 x.name.length c0)/\wl.cell? ⟨wr.heap.size,1,none⟩=some (.slice a1 n1 c1))/\Calls Tryz.prog 50 #[.slice (some ⟨b,off,none⟩) j c,.func (.func 37) #[] #[],.slice a0 x.name.length c0] wl (fun e w'=>e=.returned (.bool ((l.take j).any fun y=>decide (y.name=x.name)))/\w.grownBy w' none/\(w'.cell? ⟨wr.heap.size,0,none⟩=some (.slice a0 x.name.length c0)/\w'.cell? ⟨wr.heap.size,1,none⟩=some (.slice a1 n1 c1))):=by
     intro wl hg;exact U36
    clear HH Bf o0 o1
    have hun:Hid (unl (l.map Fa.name) j = !((l.take j).any fun y=>decide (y.name=x.name))):=by
     show _=_
     unfold unl;rw[hnm.out,<-List.map_take,List.any_map]
     rfl
    generalize ((l.take j).any fun y=>decide (y.name=x.name))=r at hbs hun
    have z0:(0:Int)<=(j:Int):=by omega
    have z1:(j:Int)<=(c:Int):=by omega
    have z2:(j:Int)<=(n:Int):=by omega
    go_region_held3 (fun wx=>(wx.cell? ⟨wr.heap.size,0,none⟩=some (.slice a0 x.name.length c0)/\wx.cell? ⟨wr.heap.size,1,none⟩=some (.slice a1 n1 c1))) (first|exact Ba|exact HS3|exact HSl) (first
     | (go_at_call 37;(with_reducible refine HN.mono ?_);rintro e wl ⟨rfl,hgl⟩;obtain⟨HSl,HEl⟩:=hbs hgl)
     | (go_at_call 50;(with_reducible refine HEl.mono ?_);rintro e w3 ⟨rfl,hg3,HS3⟩))
    have hg3':=hid hg3;clear hg3 HN Ba hbs
    cases r with
    | true=>
     exact U105
    | false=>
     go_wp2;go_roundw
     case rel=>exact⟨j+1,by omega,by go_num,(show ∀i,i<j+1->unl (l.map Fa.name) i=true from fun i hi=>(zJ3 i j).elim (fun h=>hno.out i h) (fun h=>(show j=i by omega) ▸ Q74)),hg3'⟩
     case measure=>simp[intOf];omega
   .
    exact U68
end Go.Proofs.YtffphdacgblaoaaGreatDoor

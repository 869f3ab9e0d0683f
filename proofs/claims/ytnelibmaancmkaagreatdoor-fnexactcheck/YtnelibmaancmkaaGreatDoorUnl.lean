import Derived.Test.YtnelibmaancmkaaGreatDoorAll
import Derived.Test.YtnelibmaancmkaaGreatDoorBytesEq
import Derived.Test.YtnelibmaancmkaaGreatDoorPackY
import Derived.Deep.RegionHeld3
namespace Go.Proofs.YtnelibmaancmkaaGreatDoor
set_option maxHeartbeats 4000000
open Go.RowKit
set_option linter.unusedVariables false
set_option linter.unusedSimpArgs false
set_option maxRecDepth 100000
theorem V78{p:Prop}(h:p:=by simpa using hi):p:=h
theorem V86{p:Prop}(h:p:=by rw[hun.out];rfl):p:=h
theorem U44{p:Prop}(h:p:=by
 intro r hr
 obtain⟨x,_,rfl⟩:=List.mem_map.1 hr
 rfl):p:=h
theorem U66{p:Prop}(h:p:=by
 have hb:Below w1.drew.heap.size w1.drew wl:=aA hg
 have hgl:w.grownBy wl none:=aD Aq ⟨hg.os,hg.tape,hg.output,hg.size,hg.block⟩
 refine⟨⟨aB Al.1 hb,aB Al.2 hb⟩, ?_⟩
 refine(HH wl (aA hgl)).mono ?_
 rintro e w' ⟨rfl,h⟩
 exact⟨rfl,aD hgl h,aB (aB Al.1 hb) (aA h),aB (aB Al.2 hb) (aA h)⟩):p:=h
theorem U84{p:Prop}(h:p:=by
 have hb:Below w1.drew.heap.size w1.drew wl:=aA hg
 refine⟨⟨aB Al.1 hb,aB Al.2.1 hb,aB Al.2.2.1 hb,aB Al.2.2.2 hb⟩, ?_⟩
 exact iY a0 n0 c0 l0 a2 n2 c2 l2 wl (bW.below (w:=w1.drew) h0 hb) (bW.below (w:=w1.drew) h2 hb)):p:=h
theorem U90{p:Prop}(h:p:=by
 go_wp2_with fail
 refine HC.mono ?_
 rintro e w3 ⟨r,rfl,hr,hg⟩
 have HR:Hid (decide (0<=r)=(l.any fun y=>decide (y.name=l2))):=hr
 clear hr
 go_wp2_with fail
 go_ret
 exact⟨r,rfl,HR.out,aD yy hg⟩):p:=h
theorem U93{p:Prop}(h:p:=by
 go_wp2_with fail
 refine HC.mono ?_
 rintro e w3 ⟨r,rfl,hr,hg⟩
 have HR:Hid (decide (0<=r)=(l.any fun y=>decide (y.name=l2))):=hr
 clear hr
 go_wp2_with fail
 go_ret
 exact⟨aE HR.out,hg⟩):p:=h
theorem U111{p:Prop}(h:p:=by
 have:j=n:=by omega
 subst this
 go_wp2_with fail
 go_ret
 exact⟨aE (mS fun i hi=>hno.out i (by simpa [Hd.out] using hi)).symm,Bk.out⟩):p:=h
theorem U116{p:Prop}(h:p:=by
 rintro e w' ⟨r,rfl,hg,ht⟩
 refine⟨r,rfl, ?_,hg⟩
 rw[nJ ht,<-hn]
 exact lM l ⟨[],[]⟩ fun y=>decide (y.name=l2)):p:=h
theorem U120{p:Prop}(h:p:=by
 go_wp2_with fail
 refine wp_loop_rounds 1 ?_
 rw[rounds_succ]
 go_wp2_with fail
 go_ret
 exact⟨aE (by rfl),aP _ _⟩):p:=h
theorem U145{p:Prop}(h:p:=by
 rintro e w' ⟨rfl,hg⟩
 exact⟨rfl,hg,fun _=>hi.trans ((aA hg).mono hi.size),fun _=>trivial⟩):p:=h
theorem U146{p:Prop}(h:p:=by
 go_wp2_with fail
 go_ret
 exact⟨rfl,aD y0 ⟨hgl.os,hgl.tape,hgl.output,hgl.size,hgl.block⟩⟩):p:=h
theorem U151{p:Prop}(h:p:=by
 go_wp2_with fail
 go_ret
 exact⟨aE (mT (by simpa [Hd.out] using Ai) V86).symm,hg3'.out⟩):p:=h
def unl (l:List (List Int))(i:Nat):Bool:=!((l.take i).any fun y=>decide (y=l[i]?.getD []))
def gC (l:List (List Int)):Bool:=(List.range l.length).all (unl l)
theorem mT {l:List (List Int)}{i:Nat}(hi:i<l.length)(h:unl l i=false):gC l=false:=by
 unfold gC;rw[List.all_eq_false]
 exact⟨i,by simpa using hi,by simp[h]⟩
theorem mS {l:List (List Int)}(h:∀i,i<l.length->unl l i=true):gC l=true:=by
 unfold gC;rw[List.all_eq_true]
 exact fun i hi=>h i V78
theorem fE.take {w:World}{b k:Nat}:∀{rs:List (List Fl)} {off i:Nat},fE w b k off rs->fE w b k off (rs.take i):=by
 intro rs
 induction rs with
 | nil=>intro off i h;simpa using h
 | cons r rs ih=>
  intro off i h
  cases i with
  | zero=>exact trivial
  | succ i=>exact⟨h.1,ih h.2⟩
theorem aS.take {w:World}{a:Option Addr}{c k:Nat}{rs:List (List Fl)}(h:aS w a c k rs)(i:Nat):aS w a c k (rs.take i):=by
 refine⟨Nat.le_trans V52 h.cap,h.most,h.nil,fun hp=>?_⟩
 obtain⟨b,off,e,hr⟩:=h.row (by simp at hp;omega)
 exact⟨b,off,e,hr.take⟩
theorem lT (v0 v1:Value)(w:World):
  Calls Tryz.prog 135 #[.agg #[v0,v1]] w fun e w'=>e=.returned v0/\w.grownBy w' none:=by
 have y0:=aC w (.cells #[v0,v1] 104 (0,0)) none;have q0:=aN w 104 #[v0,v1] 0 _ rfl;go_enter Tryz.func135,Tryz.ntmps135;go_upto_region 1 with fail;generalize w.alloc (.cells #[v0,v1] 104 (0,0))=w1 at *;go_wp2_with fail;go_ret;exact⟨rfl,y0⟩
theorem pF (a0:Option Addr)(n0 c0:Nat)(l0:List Int)(v1:Value)(g1 g2:Nat)(a2:Option Addr)(n2 c2:Nat)(l2:List Int)(w:World)
  (h0:bW w a0 n0 l0) (h2:bW w a2 n2 l2) (x1:w.cell? ⟨g1,0,none⟩=some (.func (.func 135) #[] #[])) (x2:w.cell? ⟨g2,0,none⟩=some (.slice a2 n2 c2)):
  Calls Tryz.prog 204 #[.agg #[.slice a0 n0 c0,v1],.pointer (some ⟨g1,0,none⟩),.pointer (some ⟨g2,0,none⟩)] w fun e w'=>e=.returned (.bool (decide (l0=l2)))/\w.grownBy w' none:=by
 have y0:=aC w (.cells #[.slice a0 n0 c0,v1] 104 (0,0)) none;have q0:=aN w 104 #[.slice a0 n0 c0,v1] 0 _ rfl;have q1:=aN w 104 #[.slice a0 n0 c0,v1] 1 _ rfl;replace x1:=aB x1 (aA y0);replace x2:=aB x2 (aA y0);replace h0:=h0.below (aA y0);replace h2:=h2.below (aA y0);go_enter Tryz.func204,Tryz.ntmps204;go_upto_region 1 with fail;generalize w.alloc (.cells #[.slice a0 n0 c0,v1] 104 (0,0))=w1 at *;have HN:=lT (.slice a0 n0 c0) v1 w1.drew
 have Al:(w1.drew.cell? ⟨g1,0,none⟩=some (.func (.func 135) #[] #[])/\w1.drew.cell? ⟨w.heap.size,0,none⟩=some (.slice a0 n0 c0)/\w1.drew.cell? ⟨w.heap.size,1,none⟩=some v1/\w1.drew.cell? ⟨g2,0,none⟩=some (.slice a2 n2 c2)):=⟨x1,q0,q1,x2⟩
 have hbs:∀{wl:World},w1.drew.grownBy wl none->(wl.cell? ⟨g1,0,none⟩=some (.func (.func 135) #[] #[])/\wl.cell? ⟨w.heap.size,0,none⟩=some (.slice a0 n0 c0)/\wl.cell? ⟨w.heap.size,1,none⟩=some v1/\wl.cell? ⟨g2,0,none⟩=some (.slice a2 n2 c2))/\Calls Tryz.prog 95 #[.slice a0 n0 c0,.slice a2 n2 c2] wl (fun e w'=>e=.returned (.bool (decide (l0=l2)))/\w'=wl):=by
  intro wl hg;exact U84
 clear h0 h2
 go_region_held3 (fun wx=>(wx.cell? ⟨g1,0,none⟩=some (.func (.func 135) #[] #[])/\wx.cell? ⟨w.heap.size,0,none⟩=some (.slice a0 n0 c0)/\wx.cell? ⟨w.heap.size,1,none⟩=some v1/\wx.cell? ⟨g2,0,none⟩=some (.slice a2 n2 c2))) (first|exact Al|exact HSl) (first
  | (go_at_call 135;(with_reducible refine HN.mono ?_);rintro e wl ⟨rfl,hgl⟩;obtain⟨HSl,HEl⟩:=hbs hgl)
  | (go_at_call 95;(with_reducible refine HEl.mono ?_);rintro e w3 ⟨rfl,rfl⟩))
 exact U146
theorem qR (hE1:Ent 204)(a:Option Addr)(c:Nat)(l:List Fp)(n:Nat)(a2:Option Addr)(n2 c2:Nat)(l2:List Int)(w:World)(hn:l.length=n)
  (h:aS w a c 2 (l.map Fp.fl)) (h2:bW w a2 n2 l2):
  Calls Tryz.prog 157 #[.slice a n c,.func (.func 135) #[] #[],.slice a2 n2 c2] w fun e w'=>∃r:Int,e=.returned (.int .i64 r)/\decide (0<=r)=(l.any fun y=>decide (y.name=l2))/\w.grownBy w' none:=by
 have y0:=aC w (.cells #[.func (.func 135) #[] #[]] 194 (0,0)) none;have x1:=aN w 194 #[.func (.func 135) #[] #[]] 0 _ rfl;have y1:=aC (w.alloc (.cells #[.func (.func 135) #[] #[]] 194 (0,0))) (.cells #[.slice a2 n2 c2] 22 (0,0)) none;have x2:=aN (w.alloc (.cells #[.func (.func 135) #[] #[]] 194 (0,0))) 22 #[.slice a2 n2 c2] 0 _ rfl
 rw[show(w.alloc (.cells #[.func (.func 135) #[] #[]] 194 (0,0))).heap.size=w.heap.size+1 by simp]at x2
 replace x1:=aB x1 (aA y1);have hb:=aA (aD y0 y1);replace h:=h.below hb;replace h2:=h2.below hb;have yy:=aD y0 y1;clear y0 y1
 have HC:Calls Tryz.prog 203 #[.slice a n c,.func (.func 204) #[] #[.pointer (some ⟨w.heap.size,0,none⟩),.pointer (some ⟨w.heap.size+1,0,none⟩)]] ((w.alloc (.cells #[.func (.func 135) #[] #[]] 194 (0,0))).alloc (.cells #[.slice a2 n2 c2] 22 (0,0))) fun e w'=>∃r:Int,e=.returned (.int .i64 r)/\decide (0<=r)=(l.any fun y=>decide (y.name=l2))/\((w.alloc (.cells #[.func (.func 135) #[] #[]] 194 (0,0))).alloc (.cells #[.slice a2 n2 c2] 22 (0,0))).grownBy w' none:=by
  generalize ((w.alloc (.cells #[.func (.func 135) #[] #[]] 194 (0,0))).alloc (.cells #[.slice a2 n2 c2] 22 (0,0)))=W at *
  refine(qZ 204 _ none a n c (l.map Fp.fl) (fun j=>decide ((l[j]?.getD ⟨[],[]⟩).name=l2)) (fun _ wr=>Below W.heap.size W wr) (fun _ _=>True) W ⟨hE1,fun j wr hi=>h.below hi, ?_, ?_⟩ (by simpa using hn) (Below.refl _ _)).mono ?_
  .
   exact U44
  .
   intro j r wr vs hr hi Ad _;rw[List.getElem?_map]at hr;obtain⟨x,hx,rfl⟩:=Option.map_eq_some_iff.1 hr;rw[hx];obtain⟨y0,us,rfl,⟨a0,c0,rfl,Ar,_⟩,y1,us2,rfl,_,rfl⟩:=Ad;refine(pF a0 x.name.length c0 x.name y1 w.heap.size (w.heap.size+1) a2 n2 c2 l2 wr Ar (h2.below hi) (aB x1 hi) (aB x2 hi)).mono ?_;exact U145
  .
   exact U116
 clear h h2 hb;go_enter Tryz.func157,Tryz.ntmps157;go_upto_region 1 with fail;generalize ((w.alloc (.cells #[.func (.func 135) #[] #[]] 194 (0,0))).alloc (.cells #[.slice a2 n2 c2] 22 (0,0)))=W at *;exact U90
theorem uU (hE1:Ent 204)(a:Option Addr)(c:Nat)(l:List Fp)(n:Nat)(a2:Option Addr)(n2 c2:Nat)(l2:List Int)(w:World)(hn:l.length=n)
  (h:aS w a c 2 (l.map Fp.fl)) (h2:bW w a2 n2 l2):
  Calls Tryz.prog 189 #[.slice a n c,.func (.func 135) #[] #[],.slice a2 n2 c2] w fun e w'=>e=.returned (.bool (l.any fun y=>decide (y.name=l2)))/\w.grownBy w' none:=by
 have HC:=qR hE1 a c l n a2 n2 c2 l2 w hn h h2;clear h h2 hn;go_enter Tryz.func189,Tryz.ntmps189;exact U93
theorem pD (hE1:Ent 204)(a:Option Addr)(c:Nat)(l:List Fp)(n:Nat)(w:World)(hn:l.length=n)(h:aS w a c 2 (l.map Fp.fl)):
  Calls Tryz.prog 134 #[.slice a n c,.func (.func 135) #[] #[]] w fun e w'=>e=.returned (.bool (gC (l.map Fp.name)))/\w.grownBy w' none:=by
 have Hd:Hid (l.length=n):=hn
 have hcn:n<=9223372036854775807:=by have h1:=h.cap;have h2:=h.most;unfold maxLen at h2;simp only[List.length_map]at h1;omega
 have hnc:n<=c:=by have h1:=h.cap;simp only[List.length_map]at h1;omega
 rcases Nat.eq_zero_or_pos n with h0|Am
 .
  subst h0;have e0:l=[]:=List.eq_nil_of_length_eq_zero Hd.out;subst e0;clear h hn;go_enter Tryz.func134,Tryz.ntmps134;exact U120
 .
  obtain⟨b,off,rfl⟩:=h.addr (by simpa using by omega)
  have HL:Hid (aS w (some ⟨b,off,none⟩) c 2 (l.map Fp.fl)):=h
  clear h hn;go_enter Tryz.func134,Tryz.ntmps134;go_wp2_with fail
  go_loopw [5,6,9] (fun _ _ i wr=>∃j:Nat,j<=n/\i=.int .i64 j/\Hid (∀i,i<j->unl (l.map Fp.name) i=true)/\Hid (w.grownBy wr none)) (fun _ _ i _=>n-(intOf i).toNat)
  case atStart=>exact⟨0,Nat.zero_le _,rfl,by show ∀_,_;omega,aP _ _⟩
  case round=>
   obtain⟨j,hj,rfl,hno,Bk⟩:=hrel
   by_cases Ai:j<n
   .
    have hlt2:j<l.length:=by rw[Hd.out];exact Ai
    have Ak:(l.map Fp.fl)[j]?=some (Fp.fl l[j]):=by simp[hlt2]
    have hnm:Hid ((l.map Fp.name)[j]?.getD []=l[j].name):=by show _=_;simp[hlt2]
    generalize l[j]=x at Ak hnm;have Au:=aA Bk.out;obtain⟨vs,Ad,Ab⟩:=(aS.el HL.out Ak).vals;obtain⟨y0,us,rfl,⟨a0,c0,rfl,hx0,_⟩,y1,us2,rfl,⟨a1,c1,rfl,_⟩,rfl⟩:=Ad
    replace Ab:∀i v,_->_:=fun i v hv=>aB (Ab i v hv) Au
    have q0:wr.cell? ⟨b,off+j*2,none⟩=some (.slice a0 x.name.length c0):=Ab 0 _ rfl
    obtain⟨n1,q1⟩:∃n1,wr.cell? ⟨b,off+j*2+1,none⟩=some (.slice a1 n1 c1):=⟨_,Ab 1 _ rfl⟩
    clear Ab Ak
    have hlz:(l.take j).length=j:=by simp;omega
    have hb0w:bW w a0 x.name.length x.name:=hx0
    have ht:aS w (some ⟨b,off,none⟩) c 2 ((l.take j).map Fp.fl):=by rw[List.map_take];exact aS.take HL.out j
    have HH:∀wl,Below w.heap.size w wl->Calls Tryz.prog 189 #[.slice (some ⟨b,off,none⟩) j c,.func (.func 135) #[] #[],.slice a0 x.name.length c0] wl fun e w'=>e=.returned (.bool ((l.take j).any fun y=>decide (y.name=x.name)))/\wl.grownBy w' none:=by
     intro wl hb;exact uU hE1 (some ⟨b,off,none⟩) c (l.take j) j a0 x.name.length c0 x.name wl hlz (ht.below hb) (hb0w.below hb)
    clear ht hlz;have Aq:=aD Bk.out (aC wr (.cells #[.slice a0 x.name.length c0,.slice a1 n1 c1] 104 (0,0)) none);have o0:=aN wr 104 #[.slice a0 x.name.length c0,.slice a1 n1 c1] 0 _ rfl;have o1:=aN wr 104 #[.slice a0 x.name.length c0,.slice a1 n1 c1] 1 _ rfl;go_upto_region 4 with fail;generalize wr.alloc (.cells #[.slice a0 x.name.length c0,.slice a1 n1 c1] 104 (0,0))=w1 at Aq o0 o1 ⊢;clear q0 q1 hb0w;have HN:=lT (.slice a0 x.name.length c0) (.slice a1 n1 c1) w1.drew
    have Al:(w1.drew.cell? ⟨wr.heap.size,0,none⟩=some (.slice a0 x.name.length c0)/\w1.drew.cell? ⟨wr.heap.size,1,none⟩=some (.slice a1 n1 c1)):=⟨o0,o1⟩
    have hbs:∀{wl:World},w1.drew.grownBy wl none->(wl.cell? ⟨wr.heap.size,0,none⟩=some (.slice a0 x.name.length c0)/\wl.cell? ⟨wr.heap.size,1,none⟩=some (.slice a1 n1 c1))/\Calls Tryz.prog 189 #[.slice (some ⟨b,off,none⟩) j c,.func (.func 135) #[] #[],.slice a0 x.name.length c0] wl (fun e w'=>e=.returned (.bool ((l.take j).any fun y=>decide (y.name=x.name)))/\w.grownBy w' none/\(w'.cell? ⟨wr.heap.size,0,none⟩=some (.slice a0 x.name.length c0)/\w'.cell? ⟨wr.heap.size,1,none⟩=some (.slice a1 n1 c1))):=by
     intro wl hg;exact U66
    clear HH Aq o0 o1
    have hun:Hid (unl (l.map Fp.name) j = !((l.take j).any fun y=>decide (y.name=x.name))):=by
     show _=_
     unfold unl;rw[hnm.out,<-List.map_take,List.any_map]
     rfl
    generalize ((l.take j).any fun y=>decide (y.name=x.name))=r at hbs hun
    have z0:(0:Int)<=(j:Int):=by omega
    have z1:(j:Int)<=(c:Int):=by omega
    have z2:(j:Int)<=(n:Int):=by omega
    go_region_held3 (fun wx=>(wx.cell? ⟨wr.heap.size,0,none⟩=some (.slice a0 x.name.length c0)/\wx.cell? ⟨wr.heap.size,1,none⟩=some (.slice a1 n1 c1))) (first|exact Al|exact HS3|exact HSl) (first
     | (go_at_call 135;(with_reducible refine HN.mono ?_);rintro e wl ⟨rfl,hgl⟩;obtain⟨HSl,HEl⟩:=hbs hgl)
     | (go_at_call 189;(with_reducible refine HEl.mono ?_);rintro e w3 ⟨rfl,hg3,HS3⟩))
    have hg3':Hid (w.grownBy w3 none):=hg3
    clear hg3 HN Al hbs
    cases r with
    | true=>
     exact U151
    | false=>
     go_wp2_with fail;go_roundw
     case rel=>exact⟨j+1,by omega,by go_num,(show ∀i,i<j+1->unl (l.map Fp.name) i=true from fun i hi=>(Nat.lt_or_ge i j).elim (fun h=>hno.out i h) (fun h=>(show j=i by omega) ▸ V86)),hg3'⟩
     case measure=>simp[intOf];omega
   .
    exact U111
theorem sP (v0 v1:Value)(w:World):
  Calls Tryz.prog 84 #[.agg #[v0,v1]] w fun e w'=>e=.returned v0/\w.grownBy w' none:=by
 have y0:=aC w (.cells #[v0,v1] 79 (0,0)) none;have q0:=aN w 79 #[v0,v1] 0 _ rfl;go_enter Tryz.func84,Tryz.ntmps84;go_upto_region 1 with fail;generalize w.alloc (.cells #[v0,v1] 79 (0,0))=w1 at *;go_wp2_with fail;go_ret;exact⟨rfl,y0⟩
theorem zS (a0:Option Addr)(n0 c0:Nat)(l0:List Int)(v1:Value)(g1 g2:Nat)(a2:Option Addr)(n2 c2:Nat)(l2:List Int)(w:World)
  (h0:bW w a0 n0 l0) (h2:bW w a2 n2 l2) (x1:w.cell? ⟨g1,0,none⟩=some (.func (.func 84) #[] #[])) (x2:w.cell? ⟨g2,0,none⟩=some (.slice a2 n2 c2)):
  Calls Tryz.prog 196 #[.agg #[.slice a0 n0 c0,v1],.pointer (some ⟨g1,0,none⟩),.pointer (some ⟨g2,0,none⟩)] w fun e w'=>e=.returned (.bool (decide (l0=l2)))/\w.grownBy w' none:=by
 have y0:=aC w (.cells #[.slice a0 n0 c0,v1] 79 (0,0)) none;have q0:=aN w 79 #[.slice a0 n0 c0,v1] 0 _ rfl;have q1:=aN w 79 #[.slice a0 n0 c0,v1] 1 _ rfl;replace x1:=aB x1 (aA y0);replace x2:=aB x2 (aA y0);replace h0:=h0.below (aA y0);replace h2:=h2.below (aA y0);go_enter Tryz.func196,Tryz.ntmps196;go_upto_region 1 with fail;generalize w.alloc (.cells #[.slice a0 n0 c0,v1] 79 (0,0))=w1 at *;have HN:=sP (.slice a0 n0 c0) v1 w1.drew
 have Al:(w1.drew.cell? ⟨g1,0,none⟩=some (.func (.func 84) #[] #[])/\w1.drew.cell? ⟨w.heap.size,0,none⟩=some (.slice a0 n0 c0)/\w1.drew.cell? ⟨w.heap.size,1,none⟩=some v1/\w1.drew.cell? ⟨g2,0,none⟩=some (.slice a2 n2 c2)):=⟨x1,q0,q1,x2⟩
 have hbs:∀{wl:World},w1.drew.grownBy wl none->(wl.cell? ⟨g1,0,none⟩=some (.func (.func 84) #[] #[])/\wl.cell? ⟨w.heap.size,0,none⟩=some (.slice a0 n0 c0)/\wl.cell? ⟨w.heap.size,1,none⟩=some v1/\wl.cell? ⟨g2,0,none⟩=some (.slice a2 n2 c2))/\Calls Tryz.prog 95 #[.slice a0 n0 c0,.slice a2 n2 c2] wl (fun e w'=>e=.returned (.bool (decide (l0=l2)))/\w'=wl):=by
  intro wl hg;exact U84
 clear h0 h2
 go_region_held3 (fun wx=>(wx.cell? ⟨g1,0,none⟩=some (.func (.func 84) #[] #[])/\wx.cell? ⟨w.heap.size,0,none⟩=some (.slice a0 n0 c0)/\wx.cell? ⟨w.heap.size,1,none⟩=some v1/\wx.cell? ⟨g2,0,none⟩=some (.slice a2 n2 c2))) (first|exact Al|exact HSl) (first
  | (go_at_call 84;(with_reducible refine HN.mono ?_);rintro e wl ⟨rfl,hgl⟩;obtain⟨HSl,HEl⟩:=hbs hgl)
  | (go_at_call 95;(with_reducible refine HEl.mono ?_);rintro e w3 ⟨rfl,rfl⟩))
 exact U146
theorem aBu (hE1:Ent 196)(a:Option Addr)(c:Nat)(l:List Fa)(n:Nat)(a2:Option Addr)(n2 c2:Nat)(l2:List Int)(w:World)(hn:l.length=n)
  (h:aS w a c 2 (l.map Fa.fl)) (h2:bW w a2 n2 l2):
  Calls Tryz.prog 148 #[.slice a n c,.func (.func 84) #[] #[],.slice a2 n2 c2] w fun e w'=>∃r:Int,e=.returned (.int .i64 r)/\decide (0<=r)=(l.any fun y=>decide (y.name=l2))/\w.grownBy w' none:=by
 have y0:=aC w (.cells #[.func (.func 84) #[] #[]] 143 (0,0)) none;have x1:=aN w 143 #[.func (.func 84) #[] #[]] 0 _ rfl;have y1:=aC (w.alloc (.cells #[.func (.func 84) #[] #[]] 143 (0,0))) (.cells #[.slice a2 n2 c2] 22 (0,0)) none;have x2:=aN (w.alloc (.cells #[.func (.func 84) #[] #[]] 143 (0,0))) 22 #[.slice a2 n2 c2] 0 _ rfl
 rw[show(w.alloc (.cells #[.func (.func 84) #[] #[]] 143 (0,0))).heap.size=w.heap.size+1 by simp]at x2
 replace x1:=aB x1 (aA y1);have hb:=aA (aD y0 y1);replace h:=h.below hb;replace h2:=h2.below hb;have yy:=aD y0 y1;clear y0 y1
 have HC:Calls Tryz.prog 181 #[.slice a n c,.func (.func 196) #[] #[.pointer (some ⟨w.heap.size,0,none⟩),.pointer (some ⟨w.heap.size+1,0,none⟩)]] ((w.alloc (.cells #[.func (.func 84) #[] #[]] 143 (0,0))).alloc (.cells #[.slice a2 n2 c2] 22 (0,0))) fun e w'=>∃r:Int,e=.returned (.int .i64 r)/\decide (0<=r)=(l.any fun y=>decide (y.name=l2))/\((w.alloc (.cells #[.func (.func 84) #[] #[]] 143 (0,0))).alloc (.cells #[.slice a2 n2 c2] 22 (0,0))).grownBy w' none:=by
  generalize ((w.alloc (.cells #[.func (.func 84) #[] #[]] 143 (0,0))).alloc (.cells #[.slice a2 n2 c2] 22 (0,0)))=W at *
  refine(aCd 196 _ none a n c (l.map Fa.fl) (fun j=>decide ((l[j]?.getD ⟨[],[]⟩).name=l2)) (fun _ wr=>Below W.heap.size W wr) (fun _ _=>True) W ⟨hE1,fun j wr hi=>h.below hi, ?_, ?_⟩ (by simpa using hn) (Below.refl _ _)).mono ?_
  .
   exact U44
  .
   intro j r wr vs hr hi Ad _;rw[List.getElem?_map]at hr;obtain⟨x,hx,rfl⟩:=Option.map_eq_some_iff.1 hr;rw[hx];obtain⟨y0,us,rfl,⟨a0,c0,rfl,Ar,_⟩,y1,us2,rfl,_,rfl⟩:=Ad;refine(zS a0 x.name.length c0 x.name y1 w.heap.size (w.heap.size+1) a2 n2 c2 l2 wr Ar (h2.below hi) (aB x1 hi) (aB x2 hi)).mono ?_;exact U145
  .
   exact U116
 clear h h2 hb;go_enter Tryz.func148,Tryz.ntmps148;go_upto_region 1 with fail;generalize ((w.alloc (.cells #[.func (.func 84) #[] #[]] 143 (0,0))).alloc (.cells #[.slice a2 n2 c2] 22 (0,0)))=W at *;exact U90
theorem aCi (hE1:Ent 196)(a:Option Addr)(c:Nat)(l:List Fa)(n:Nat)(a2:Option Addr)(n2 c2:Nat)(l2:List Int)(w:World)(hn:l.length=n)
  (h:aS w a c 2 (l.map Fa.fl)) (h2:bW w a2 n2 l2):
  Calls Tryz.prog 97 #[.slice a n c,.func (.func 84) #[] #[],.slice a2 n2 c2] w fun e w'=>e=.returned (.bool (l.any fun y=>decide (y.name=l2)))/\w.grownBy w' none:=by
 have HC:=aBu hE1 a c l n a2 n2 c2 l2 w hn h h2;clear h h2 hn;go_enter Tryz.func97,Tryz.ntmps97;exact U93
theorem xJ (hE1:Ent 196)(a:Option Addr)(c:Nat)(l:List Fa)(n:Nat)(w:World)(hn:l.length=n)(h:aS w a c 2 (l.map Fa.fl)):
  Calls Tryz.prog 83 #[.slice a n c,.func (.func 84) #[] #[]] w fun e w'=>e=.returned (.bool (gC (l.map Fa.name)))/\w.grownBy w' none:=by
 have Hd:Hid (l.length=n):=hn
 have hcn:n<=9223372036854775807:=by have h1:=h.cap;have h2:=h.most;unfold maxLen at h2;simp only[List.length_map]at h1;omega
 have hnc:n<=c:=by have h1:=h.cap;simp only[List.length_map]at h1;omega
 rcases Nat.eq_zero_or_pos n with h0|Am
 .
  subst h0;have e0:l=[]:=List.eq_nil_of_length_eq_zero Hd.out;subst e0;clear h hn;go_enter Tryz.func83,Tryz.ntmps83;exact U120
 .
  obtain⟨b,off,rfl⟩:=h.addr (by simpa using by omega)
  have HL:Hid (aS w (some ⟨b,off,none⟩) c 2 (l.map Fa.fl)):=h
  clear h hn;go_enter Tryz.func83,Tryz.ntmps83;go_wp2_with fail
  go_loopw [5,6,9] (fun _ _ i wr=>∃j:Nat,j<=n/\i=.int .i64 j/\Hid (∀i,i<j->unl (l.map Fa.name) i=true)/\Hid (w.grownBy wr none)) (fun _ _ i _=>n-(intOf i).toNat)
  case atStart=>exact⟨0,Nat.zero_le _,rfl,by show ∀_,_;omega,aP _ _⟩
  case round=>
   obtain⟨j,hj,rfl,hno,Bk⟩:=hrel
   by_cases Ai:j<n
   .
    have hlt2:j<l.length:=by rw[Hd.out];exact Ai
    have Ak:(l.map Fa.fl)[j]?=some (Fa.fl l[j]):=by simp[hlt2]
    have hnm:Hid ((l.map Fa.name)[j]?.getD []=l[j].name):=by show _=_;simp[hlt2]
    generalize l[j]=x at Ak hnm;have Au:=aA Bk.out;obtain⟨vs,Ad,Ab⟩:=(aS.el HL.out Ak).vals;obtain⟨y0,us,rfl,⟨a0,c0,rfl,hx0,_⟩,y1,us2,rfl,⟨a1,c1,rfl,_⟩,rfl⟩:=Ad
    replace Ab:∀i v,_->_:=fun i v hv=>aB (Ab i v hv) Au
    have q0:wr.cell? ⟨b,off+j*2,none⟩=some (.slice a0 x.name.length c0):=Ab 0 _ rfl
    obtain⟨n1,q1⟩:∃n1,wr.cell? ⟨b,off+j*2+1,none⟩=some (.slice a1 n1 c1):=⟨_,Ab 1 _ rfl⟩
    clear Ab Ak
    have hlz:(l.take j).length=j:=by simp;omega
    have hb0w:bW w a0 x.name.length x.name:=hx0
    have ht:aS w (some ⟨b,off,none⟩) c 2 ((l.take j).map Fa.fl):=by rw[List.map_take];exact aS.take HL.out j
    have HH:∀wl,Below w.heap.size w wl->Calls Tryz.prog 97 #[.slice (some ⟨b,off,none⟩) j c,.func (.func 84) #[] #[],.slice a0 x.name.length c0] wl fun e w'=>e=.returned (.bool ((l.take j).any fun y=>decide (y.name=x.name)))/\wl.grownBy w' none:=by
     intro wl hb;exact aCi hE1 (some ⟨b,off,none⟩) c (l.take j) j a0 x.name.length c0 x.name wl hlz (ht.below hb) (hb0w.below hb)
    clear ht hlz;have Aq:=aD Bk.out (aC wr (.cells #[.slice a0 x.name.length c0,.slice a1 n1 c1] 79 (0,0)) none);have o0:=aN wr 79 #[.slice a0 x.name.length c0,.slice a1 n1 c1] 0 _ rfl;have o1:=aN wr 79 #[.slice a0 x.name.length c0,.slice a1 n1 c1] 1 _ rfl;go_upto_region 4 with fail;generalize wr.alloc (.cells #[.slice a0 x.name.length c0,.slice a1 n1 c1] 79 (0,0))=w1 at Aq o0 o1 ⊢;clear q0 q1 hb0w;have HN:=sP (.slice a0 x.name.length c0) (.slice a1 n1 c1) w1.drew
    have Al:(w1.drew.cell? ⟨wr.heap.size,0,none⟩=some (.slice a0 x.name.length c0)/\w1.drew.cell? ⟨wr.heap.size,1,none⟩=some (.slice a1 n1 c1)):=⟨o0,o1⟩
    have hbs:∀{wl:World},w1.drew.grownBy wl none->(wl.cell? ⟨wr.heap.size,0,none⟩=some (.slice a0 x.name.length c0)/\wl.cell? ⟨wr.heap.size,1,none⟩=some (.slice a1 n1 c1))/\Calls Tryz.prog 97 #[.slice (some ⟨b,off,none⟩) j c,.func (.func 84) #[] #[],.slice a0 x.name.length c0] wl (fun e w'=>e=.returned (.bool ((l.take j).any fun y=>decide (y.name=x.name)))/\w.grownBy w' none/\(w'.cell? ⟨wr.heap.size,0,none⟩=some (.slice a0 x.name.length c0)/\w'.cell? ⟨wr.heap.size,1,none⟩=some (.slice a1 n1 c1))):=by
     intro wl hg;exact U66
    clear HH Aq o0 o1
    have hun:Hid (unl (l.map Fa.name) j = !((l.take j).any fun y=>decide (y.name=x.name))):=by
     show _=_
     unfold unl;rw[hnm.out,<-List.map_take,List.any_map]
     rfl
    generalize ((l.take j).any fun y=>decide (y.name=x.name))=r at hbs hun
    have z0:(0:Int)<=(j:Int):=by omega
    have z1:(j:Int)<=(c:Int):=by omega
    have z2:(j:Int)<=(n:Int):=by omega
    go_region_held3 (fun wx=>(wx.cell? ⟨wr.heap.size,0,none⟩=some (.slice a0 x.name.length c0)/\wx.cell? ⟨wr.heap.size,1,none⟩=some (.slice a1 n1 c1))) (first|exact Al|exact HS3|exact HSl) (first
     | (go_at_call 84;(with_reducible refine HN.mono ?_);rintro e wl ⟨rfl,hgl⟩;obtain⟨HSl,HEl⟩:=hbs hgl)
     | (go_at_call 97;(with_reducible refine HEl.mono ?_);rintro e w3 ⟨rfl,hg3,HS3⟩))
    have hg3':Hid (w.grownBy w3 none):=hg3
    clear hg3 HN Al hbs
    cases r with
    | true=>
     exact U151
    | false=>
     go_wp2_with fail;go_roundw
     case rel=>exact⟨j+1,by omega,by go_num,(show ∀i,i<j+1->unl (l.map Fa.name) i=true from fun i hi=>(Nat.lt_or_ge i j).elim (fun h=>hno.out i h) (fun h=>(show j=i by omega) ▸ V86)),hg3'⟩
     case measure=>simp[intOf];omega
   .
    exact U111
end Go.Proofs.YtnelibmaancmkaaGreatDoor

import Derived.Test.YtnelibmaancmkaaGreatDoorPackM
import Derived.Test.YtnelibmaancmkaaGreatDoorSpFaces
namespace Go.Proofs.YtnelibmaancmkaaGreatDoor
open Go.RowKit
set_option maxHeartbeats 4000000
set_option linter.unusedVariables false
set_option linter.unusedSimpArgs false
set_option maxRecDepth 100000
theorem V89{p:Prop}(h:p:=by rw[HU.out];rfl):p:=h
theorem aFp (a0:Option Addr)(n0 c0:Nat)(l0:List Int)(g2:Nat)(a2:Option Addr)(n2 c2:Nat)(l2:List Int)(w:World)
  (h0:bW w a0 n0 l0) (h2:bW w a2 n2 l2) (x2:w.cell? ⟨g2,0,none⟩=some (.slice a2 n2 c2)):
  Calls Tryz.prog 147 #[.slice a0 n0 c0,.pointer (some ⟨g2,0,none⟩)] w fun e w'=>e=.returned (.bool (decide (l0=l2)))/\w'=w:=by
 have HE:=iY a0 n0 c0 l0 a2 n2 c2 l2 w h0 h2;clear h0 h2;go_enter Tryz.func147,Tryz.ntmps147;go_wp2_with fail;refine HE.mono ?_;rintro e w3 ⟨rfl,rfl⟩;exact U86
theorem aGo (a:Option Addr)(n c:Nat)(l:List (List Int))(a2:Option Addr)(n2 c2:Nat)(l2:List Int)(w:World)(hn:l.length=n)
  (h:aS w a c 1 (bH l)) (h2:bW w a2 n2 l2):
  Calls Tryz.prog 96 #[.slice a n c,.slice a2 n2 c2] w fun e w'=>e=.returned (.bool (l.any fun y=>decide (y=l2)))/\w.grownBy w' none:=by
 have hmf:∀(fn:Fn) (first cap:Array Value) (w:World),(Instr.makeFunc fn first cap).run Tryz.prog w=.ok (.func fn first cap) w:=fun _ _ _ _=>rfl
 have y0:=aC w (.cells #[.slice a2 n2 c2] 22 (0,0)) none;have x2:=aN w 22 #[.slice a2 n2 c2] 0 _ rfl;have hb:=aA y0;replace h:=h.below hb;replace h2:=h2.below hb
 have HC:Calls Tryz.prog 146 #[.slice a n c,.func (.func 147) #[] #[.pointer (some ⟨w.heap.size,0,none⟩)]] (w.alloc (.cells #[.slice a2 n2 c2] 22 (0,0))) fun e w'=>∃r:Bool,e=.returned (.bool r)/\r=(l.any fun y=>decide (y=l2))/\(w.alloc (.cells #[.slice a2 n2 c2] 22 (0,0))).grownBy w' none:=by
  generalize (w.alloc (.cells #[.slice a2 n2 c2] 22 (0,0)))=W at *
  refine(oV 147 _ none a n c (bH l) (fun j=>decide ((l[j]?.getD [])=l2)) (fun _ wr=>Below W.heap.size W wr) (fun _ _=>True) W ⟨cK Tryz.func147 rfl rfl,fun j wr hi=>h.below hi, ?_, ?_⟩ (by simpa [bH] using hn) (Below.refl _ _)).mono ?_
  .
   intro r hr;unfold bH at hr;obtain⟨x,_,rfl⟩:=List.mem_map.1 hr
   rfl
  .
   intro j r wr vs hr hi Ad _;unfold bH at hr;rw[List.getElem?_map]at hr;obtain⟨x,hx,rfl⟩:=Option.map_eq_some_iff.1 hr;rw[hx];obtain⟨y0,us,rfl,⟨a0,c0,rfl,Ar,_⟩,rfl⟩:=Ad;refine(aFp a0 x.length c0 x w.heap.size a2 n2 c2 l2 wr Ar (h2.below hi) (aB x2 hi)).mono ?_;rintro e w' ⟨rfl,rfl⟩
   exact⟨rfl,aP _ _,fun _=>hi,fun _=>trivial⟩
  .
   rintro e w' ⟨r,rfl,hg,ht⟩;refine⟨r,rfl, ?_,hg⟩;rw[nJ ht,<-hn]
   exact lM l [] fun y=>decide (y=l2)
 clear h h2 hb;go_enter Tryz.func96,Tryz.ntmps96;go_upto_region 1 with fail;generalize (w.alloc (.cells #[.slice a2 n2 c2] 22 (0,0)))=W at *;go_wp2_with fail;refine HC.mono ?_;rintro e w3 ⟨r,rfl,hr,hg⟩
 have HR:Hid (r=(l.any fun y=>decide (y=l2))):=hr
 clear hr;go_wp2_with fail;go_ret;exact⟨aE HR.out,aD y0 hg⟩
def qI (m:Mo)(fs:List Fa)(j:Nat):Bool:=!(decide (m.uses[j]?.getD []=m.name) || ((m.uses.take j).any fun y=>decide (y=m.uses[j]?.getD [])) || !(fs.any fun f=>decide (f.name=m.uses[j]?.getD [])))
def kU (m:Mo)(fs:List Fa):Bool:=(List.range m.uses.length).all (qI m fs)
theorem oD {m:Mo}{fs:List Fa}{j:Nat}(hj:j<m.uses.length)(h:qI m fs j=false):kU m fs=false:=by
 unfold kU;rw[List.all_eq_false]
 exact⟨j,by simpa using hj,by simp[h]⟩
theorem aAq {m:Mo}{fs:List Fa}(h:∀i,i<m.uses.length->qI m fs i=true):kU m fs=true:=by
 unfold kU;rw[List.all_eq_true]
 exact fun x hx=>h x (by simpa using hx)
theorem aLi (m:Mo)(fs:List Fa)(vs:List Value)(w0 w:World)(a2:Option Addr)(n2 c2:Nat)(h:aO w0 m.fl vs)(h2:aS w0 a2 c2 2 (fs.map Fa.fl))(hn2:fs.length=n2)(hw:Below w0.heap.size w0 w):
  Calls Tryz.prog 39 #[agg vs,.slice a2 n2 c2] w fun e w'=>e=.returned (.bool (kU m fs))/\w.grownBy w' none:=by
 obtain⟨v0,_,rfl,h0,v1,_,rfl,h1,v2,_,rfl,_,v3,_,rfl,_,rfl⟩:=h;obtain⟨a0,c0,rfl,Ar,_⟩:=h0;obtain⟨a1,c1,rfl,hL1⟩:=h1.list
 have e1:(bH m.uses).length=m.uses.length:=by simp[bH]
 have h91:=hL1.len9;rw[e1]at h91 ⊢
 obtain⟨n1,hn1⟩:∃z,z=m.uses.length:=⟨_,rfl⟩
 have HN1:Hid (m.uses.length=n1):=hn1.symm
 rw[<-hn1]at h91 ⊢
 have hcap:n1<=c1:=by have:=hL1.cap;rw[e1]at this;omega
 have x0:=Blk.new w 35 [.slice a0 m.name.length c0,.slice a1 n1 c1,v2,v3];have y0:=aC w (.cells #[.slice a0 m.name.length c0,.slice a1 n1 c1,v2,v3] 35 (0,0)) none;have hw1:=hw.trans ((aA y0).mono hw.size);simp only[List.toArray]at x0
 have HL:Hid (aS w0 a1 c1 1 (bH m.uses)):=hL1
 have HF:Hid (aS w0 a2 c2 2 (fs.map Fa.fl)):=h2
 have HB:Hid (bW w0 a0 m.name.length m.name):=Ar
 clear h1 hL1 h2 Ar e1 hn1;simp only[agg];go_enter Tryz.func39,Tryz.ntmps39;go_upto_region 1 with fail;generalize w.alloc (.cells #[.slice a0 m.name.length c0,.slice a1 n1 c1,v2,v3] 35 (0,0))=w1 at *;have q1:=x0.cell (i:=1) rfl;go_wp2_with fail
 go_loopw [5,6,10] (fun _ _ i wr=>∃j:Nat,j<=n1/\i=.int .i64 j/\Hid (∀i,i<j->qI m fs i=true)/\Hid (w1.grownBy wr none)) (fun _ _ i _=>n1-(intOf i).toNat)
 case atStart=>exact⟨0,Nat.zero_le _,rfl,by show ∀_,_;omega,aP _ _⟩
 case round=>
  obtain⟨j,hj,rfl,hno,Bk⟩:=hrel
  by_cases Ai:j<n1
  .
   obtain⟨u,hu⟩:∃u,m.uses[j]?=some u:=⟨_,List.getElem?_eq_getElem V72⟩
   have Ak:(bH m.uses)[j]?=some [.b u]:=by unfold bH;rw[List.getElem?_map,hu];rfl
   obtain⟨bk,off,us,rfl,Ad,Ab⟩:=aS.cellsAt HL.out Ak;obtain⟨y0,us2,rfl,⟨au,cu,rfl,hbu,_⟩,rfl⟩:=Ad;have Au:=aA Bk.out;have hw0:=hw1.trans (Au.mono hw1.size);have r0:=aB (Ab 0 _ rfl) hw0;simp only[Nat.mul_one,Nat.add_zero]at r0
   have HU:Hid (qI m fs j = !((decide (u=m.name) || ((m.uses.take j).any fun y=>decide (y=u))) || !(fs.any fun f=>decide (f.name=u)))):=by
    show _=_
    unfold qI;rw[hu]
    rfl
   have hlz:(m.uses.take j).length=j:=by rw[List.length_take,HN1.out];omega
   have ht:aS w0 (some ⟨bk,off,none⟩) c1 1 (bH (m.uses.take j)):=by unfold bH;rw[List.map_take];exact aS.take HL.out j
   have HE:∀wl,Below w0.heap.size w0 wl->Calls Tryz.prog 95 #[.slice au u.length cu,.slice a0 m.name.length c0] wl fun e w'=>e=.returned (.bool (decide (u=m.name)))/\w'=wl:=fun wl hb=>iY au _ cu u a0 _ c0 m.name wl (hbu.below hb) (HB.out.below hb)
   have HA:∀wl,Below w0.heap.size w0 wl->Calls Tryz.prog 96 #[.slice (some ⟨bk,off,none⟩) j c1,.slice au u.length cu] wl fun e w'=>e=.returned (.bool ((m.uses.take j).any fun y=>decide (y=u)))/\wl.grownBy w' none:=fun wl hb=>aGo _ j c1 (m.uses.take j) au _ cu u wl hlz (ht.below hb) (hbu.below hb)
   have HH:∀wl,Below w0.heap.size w0 wl->Calls Tryz.prog 97 #[.slice a2 n2 c2,.func (.func 84) #[] #[],.slice au u.length cu] wl fun e w'=>e=.returned (.bool (fs.any fun f=>decide (f.name=u)))/\wl.grownBy w' none:=fun wl hb=>aCi (cK Tryz.func196 rfl rfl) a2 c2 fs n2 au _ cu u wl hn2 (HF.out.below hb) (hbu.below hb)
   clear Ab Ak hu hlz ht hbu
   generalize (fs.any fun f=>decide (f.name=u))=r3 at HH HU
   generalize ((m.uses.take j).any fun y=>decide (y=u))=r2 at HA HU
   generalize decide (u=m.name)=r1 at HE HU
   have z0:(0:Int)<=(j:Int):=by omega
   have z1:(j:Int)<=(c1:Int):=by omega
   have z2:(j:Int)<=(n1:Int):=by omega
   have s0:=aB (x0.cell (i:=0) rfl) Au;have s1:=aB (x0.cell (i:=1) rfl) Au;have H3:=HE wr hw0;have H10:=HA wr hw0
   have HW:Hid (Below w0.heap.size w0 wr):=hw0
   clear Au hw0 HE HA x0 q1;cases r1
   .
    go_wp2_with fail;refine H3.mono ?_;rintro r w3 ⟨rfl,rfl⟩;clear H3;go_wp2_with fail;refine H10.mono ?_;rintro r w4 ⟨rfl,Bg⟩;have H15:=HH w4 (HW.out.trans ((aA Bg).mono HW.out.size));clear H10 HH s0 s1 r0;cases r2
    .
     go_wp2_with fail;refine H15.mono ?_;rintro r w5 ⟨rfl,hg5⟩
     have HG:Hid (w1.grownBy w5 none):=aD Bk.out (aD Bg hg5)
     clear H15 Bg hg5;cases r3
     .
      go_wp2_with fail;go_ret;exact⟨aE (Eq.symm (oD V72 V89)),aD y0 HG.out⟩
     .
      go_wp2_with fail;go_roundw
      case rel=>exact⟨j+1,by omega,by go_num,(show ∀i,i<j+1->qI m fs i=true from fun i hi=>(Nat.lt_or_ge i j).elim (fun h=>hno.out i h) (fun h=>(show j=i by omega) ▸ V89)),HG⟩
      case measure=>simp[intOf];omega
    .
     have HG:Hid (w1.grownBy w4 none):=aD Bk.out Bg
     clear H15 Bg;go_wp2_with fail;go_ret;exact⟨aE (Eq.symm (oD V72 V89)),aD y0 HG.out⟩
   .
    clear H10 HH;go_wp2_with fail;refine H3.mono ?_;rintro r w3 ⟨rfl,rfl⟩;clear H3 s0 s1 r0;go_wp2_with fail;go_ret;exact⟨aE (Eq.symm (oD V72 V89)),aD y0 Bk.out⟩
  .
   have:j=n1:=by omega
   subst this;go_wp2_with fail;go_ret
   exact⟨aE (Eq.symm (aAq fun i hi=>hno.out i (by rw[<-HN1.out];exact hi))),aD y0 Bk.out⟩
def eU (m x:List Int):List Int:=if m=[] then x else m++[46]++x
theorem tJ (a1:Option Addr)(n1 c1:Nat)(l1:List Int)(a2:Option Addr)(n2 c2:Nat)(l2:List Int)(w:World)
  (h1:bW w a1 n1 l1) (h2:bW w a2 n2 l2) (hn1:n1<=1048576) (hn2:n2<=1048576):
  Calls Tryz.prog 98 #[.slice a1 n1 c1,.slice a2 n2 c2] w fun e w'=>e=.returned (.string (strOfNums (eU l1 l2)))/\w'=w:=by
 go_enter Tryz.func98,Tryz.ntmps98;have k1:=aT c1 h1;have k2:=aT c2 h2;have e1:l1.length=n1:=h1.1;have e2:l2.length=n2:=h2.1;clear h1 h2
 rcases Nat.eq_zero_or_pos n1 with rfl|hp
 .
  have e0:l1=[]:=List.eq_nil_of_length_eq_zero e1;subst e0;clear e1 e2;exact U86
 .
  have hne:(n1:Int) ≠ 0:=V6
  have z1:¬9223372036854775807<(strOfNums l1).size+1:=by rw[strOfNums_size];omega
  have z2:¬9223372036854775807<(strOfNums l1).size+1+(strOfNums l2).size:=by rw[strOfNums_size,strOfNums_size];omega
  have e1':Hid (l1.length=n1):=e1
  clear e1 e2;go_wp2_with fail;go_ret;replace e1':=e1'.out;refine⟨?_,rfl⟩
  have hc:eU l1 l2=l1++[46]++l2:=by unfold eU;rw[if_neg (by intro e;rw[e]at e1';simp at e1';omega)]
  rw[hc]
  have:strOfNums (l1++[46]++l2)=strOfNums l1++⟨#[46]⟩++strOfNums l2:=by
   apply ByteArray.ext
   apply Array.toList_inj.1
   simp[strOfNums]
  rw[this]
  rfl
theorem aGw {w:World}{o:Oper}{a:Act}{K:Act->World->Prop}{Q:Exit->Act->World->Prop}{b k:Nat}{f:List Int->Value}(m x v:Operand)(ho:o.op=.mapUpdate 82 m x v)
  (h:NM w b k f) (hk:k<maxLen) (s:List Int) (val:Value) (hm:a.eval m=.map (some b)) (hx:a.eval x=.string (strOfNums s)) (hv:a.eval v=val) (hs:Bt s) (hl:s.length<=maxLen)
  (hK:∀w',NM w' b (k+1) (upd f s val)->w.grownBy w' (some b)->K (a.put o.dst undef) w'):Oper.wp Tryz.prog o a w K Q:=by
 obtain⟨D,h1,h2,h3⟩:=h.ex;obtain⟨w',hrun,r1,r2⟩:=h1.update (t:=82) (e:=148) (Maps.string_keyed Tryz.underlying9) Tryz.underlying82 hk (kG hl) (val:=val) (d:=.held val) (ps:=[]) rfl;unfold Oper.wp
 simp[execOp,ho,hm,hx,hv,hrun,Result.andThen]
 exact hK w' (NM.put h2 h3 hs r1) r2
def fpL (f:Fa):List (List Int × Mn):=f.procs.map fun q=>(eU f.name q.name,(3,q.kinds))
def aGy (us:List (List Int))(g:List Int->Mn)(f:Fa):List Int->Mn:=if us.any (fun y=>decide (y=f.name)) then stG g (fpL f) else g
def eJ (us:List (List Int))(g:List Int->Mn)(fs:List Fa):List Int->Mn:=fs.foldl (aGy us) g
theorem xI {us:List (List Int)}{g:List Int->Mn}{l:List Fa}{j:Nat}{f:Fa}(h:l[j]?=some f):eJ us g (l.take (j+1))=aGy us (eJ us g (l.take j)) f:=by
 obtain⟨hj,rfl⟩:=List.getElem?_eq_some_iff.1 h;unfold eJ;exact U115
theorem rK {m x:List Int}(hm:Bt m)(hx:Bt x):Bt (eU m x):=by
 unfold eU Bt
 split
 .
  exact hx
 .
  intro z hz;simp only[List.mem_append,List.mem_singleton]at hz
  rcases hz with (h|h)|h
  .
   exact hm z h
  .
   subst h;decide
  .
   exact hx z h
theorem oX {m x:List Int}:(eU m x).length<=m.length+1+x.length:=by
 unfold eU
 split
 .
  omega
 .
  simp only[List.length_append,List.length_singleton];omega
structure aJj (f:Fa):Prop where
 np:f.procs.length<=8
 nm:f.name.length<=1048576
 pn:∀q ∈ f.procs,q.name.length<=1048576
set_option maxHeartbeats 4000000 in
theorem tD (us:List (List Int))(a1:Option Addr)(n1 c1:Nat)(fs:List Fa)(a2:Option Addr)(n2 c2:Nat)(w0 w:World)(b k:Nat)(g:List Int->Mn)(h1:aS w0 a1 c1 1 (bH us))(hn1:us.length=n1)(h2:aS w0 a2 c2 2 (fs.map Fa.fl))(hn2:fs.length=n2)(hw:Below w0.heap.size w0 w)(Ar:w0.heap.size<=b)(hN:NT w b k g)(hk:k+8*n2<=999000)(hP:Hid (∀f ∈ fs,aJj f)):
  Calls Tryz.prog 40 #[.map (some b),.slice a1 n1 c1,.slice a2 n2 c2] w fun e w'=>e=.returned (.tuple #[])/\NT w' b (k+8*n2) (eJ us g fs)/\w.grownBy w' (some b):=by
 have HN1:Hid (us.length=n1):=hn1
 have HN2:Hid (fs.length=n2):=hn2
 have HL1:Hid (aS w0 a1 c1 1 (bH us)):=h1
 have HL2:Hid (aS w0 a2 c2 2 (fs.map Fa.fl)):=h2
 have h92:=h2.len9;rw[List.length_map,hn2]at h92
 have S0:Hid (NT w b (k+8*0) (eJ us g (fs.take 0))/\Below w0.heap.size w0 w/\w.grownBy w (some b)):=⟨by simpa [eJ] using hN,hw,aP _ _⟩
 clear h1 h2 hn1 hn2 hN hw;go_enter Tryz.func40,Tryz.ntmps40;go_wp2_with fail
 go_loopw [12] (fun i wr=>∃j:Nat,j<=n2/\i=.int .i64 j/\Hid (NT wr b (k+8*j) (eJ us g (fs.take j))/\Below w0.heap.size w0 wr/\w.grownBy wr (some b))) (fun i _=>n2-(intOf i).toNat)
 case atStart=>exact⟨0,Nat.zero_le _,rfl,S0⟩
 case round=>
  obtain⟨j,hj,rfl,hst⟩:=hrel;obtain⟨hN,hb,hg⟩:=hst.out;clear S0 hst
  by_cases Ai:j<n2
  .
   obtain⟨f,hf⟩:∃f,fs[j]?=some f:=⟨_,List.getElem?_eq_getElem (by rw[HN2.out];exact Ai)⟩
   have HFL:Hid (aJj f):=hP.out f (List.mem_of_getElem? hf)
   have hnm:=HFL.out.nm;have hnp:=HFL.out.np
   have HUN:Hid (eJ us g (fs.take (j+1))=aGy us (eJ us g (fs.take j)) f):=xI hf
   obtain⟨bx,off,ys,rfl,hys,Ab⟩:=aS.cellsAt HL2.out (show(fs.map Fa.fl)[j]?=some f.fl by rw[List.getElem?_map,hf];rfl)
   obtain⟨s0,_,rfl,⟨ax,cx,rfl,hbx,_⟩,s1,_,rfl,h2,rfl⟩:=hys;obtain⟨ap,cp,rfl,hLp⟩:=h2.list
   have e2:(f.procs.map Fp.fl).length=f.procs.length:=by simp
   have h93:=hLp.len9;rw[e2]at h93 Ab
   obtain⟨np,hnp'⟩:∃z,z=f.procs.length:=⟨_,rfl⟩
   rw[<-hnp']at h93 Ab hnp
   have HNP:Hid (f.procs.length=np):=hnp'.symm
   have r0:=aB (Ab 0 _ rfl) hb;have r1:=aB (Ab 1 _ rfl) hb;rw[Nat.add_zero]at r0
   have HLP:Hid (aS w0 ap cp 2 (f.procs.map Fp.fl)):=hLp
   have HBX:Hid (bW w0 ax f.name.length f.name):=hbx
   have z5:=Blk.new wr 79 [.slice ax f.name.length cx,.slice ap np cp];have g5:=aC wr (.cells #[.slice ax f.name.length cx,.slice ap np cp] 79 (0,0)) none;simp only[List.toArray]at z5;have N5:=hN.grown g5;have b5:=hb.trans ((aA g5).mono hb.size)
   have G5:Hid (w.grownBy (wr.alloc (.cells #[.slice ax f.name.length cx,.slice ap np cp] 79 (0,0))) (some b)):=aD hg (bU g5 _)
   clear Ab hf hbx hLp h2 hN hb hg g5 e2 hnp';go_upto_region 3 with fail;generalize wr.alloc (.cells #[.slice ax f.name.length cx,.slice ap np cp] 79 (0,0))=w5 at *;generalize wr.heap.size=gF at *;have q0:=z5.cell (i:=0) rfl;have HA:=aGo a1 n1 c1 us ax _ cx f.name w5 HN1.out (HL1.out.below b5) (HBX.out.below b5);clear r0 r1;go_wp2_with fail;refine HA.mono ?_;rintro e w6 ⟨rfl,hg6⟩;have N6:=N5.grown hg6;have b6:=b5.trans ((aA hg6).mono b5.size)
   have G6:Hid (w.grownBy w6 (some b)):=aD G5.out (bU hg6 _)
   have p0:=aB (z5.cell (i:=0) rfl) (aA hg6);have p1:=aB (z5.cell (i:=1) rfl) (aA hg6);clear HA q0 z5 N5 b5 G5 hg6
   cases hA:us.any (fun y=>decide (y=f.name))
   .
    have HF:Hid (NT w6 b (k+8*(j+1)) (eJ us g (fs.take (j+1)))/\Below w0.heap.size w0 w6/\w.grownBy w6 (some b)):=⟨by rw[HUN.out];unfold aGy;rw[hA];exact N6.mono V6,b6,G6.out⟩
    clear hA N6 b6 p0 p1;exact U63
   .
    have HUG:Hid (eJ us g (fs.take (j+1))=stG (eJ us g (fs.take j)) (fpL f)):=by show _=_;rw[HUN.out];unfold aGy;rw[hA];rfl
    have S1:Hid (NT w6 b (k+8*j+0) (stG (eJ us g (fs.take j)) ((fpL f).take 0))/\Below w0.heap.size w0 w6/\w.grownBy w6 (some b)/\w6.cell? ⟨gF,0,none⟩=some (.slice ax f.name.length cx)):=⟨by simpa [stG] using N6,b6,G6.out,p0⟩
    clear hA N6 b6 p0;go_wp2_with fail;clear p1
    go_loopw [24] (fun i wr=>∃i':Nat,i'<=np/\i=.int .i64 i'/\Hid (NT wr b (k+8*j+i') (stG (eJ us g (fs.take j)) ((fpL f).take i'))/\Below w0.heap.size w0 wr/\w.grownBy wr (some b)/\wr.cell? ⟨gF,0,none⟩=some (.slice ax f.name.length cx))) (fun i _=>np-(intOf i).toNat)
    case atStart=>exact⟨0,Nat.zero_le _,rfl,S1⟩
    case round=>
     obtain⟨i,hi,rfl,hst⟩:=hrel;obtain⟨hN,hb,hg,hc0⟩:=hst.out;clear S1 hst
     by_cases hlt2:i<np
     .
      obtain⟨q,hq⟩:∃q,f.procs[i]?=some q:=⟨_,List.getElem?_eq_getElem (by rw[HNP.out];exact hlt2)⟩
      have hqn:=HFL.out.pn q (List.mem_of_getElem? hq)
      have HSN:Hid (stG (eJ us g (fs.take j)) ((fpL f).take (i+1))=nC (stG (eJ us g (fs.take j)) ((fpL f).take i)) (eU f.name q.name) (3,q.kinds)):=vR (p:=(eU f.name q.name,(3,q.kinds))) (by unfold fpL;rw[List.getElem?_map,hq];rfl)
      obtain⟨by_,offy,ys,rfl,hys,Ab⟩:=aS.cellsAt HLP.out (show(f.procs.map Fp.fl)[i]?=some q.fl by rw[List.getElem?_map,hq];rfl)
      obtain⟨s0,_,rfl,⟨aq,cq,rfl,hbq,_⟩,s1,_,rfl,⟨ak,ck,rfl,hkr⟩,rfl⟩:=hys;have r0:=aB (Ab 0 _ rfl) hb;have r1:=aB (Ab 1 _ rfl) hb;rw[Nat.add_zero]at r0
      have HKV:Hid ((Fl.i q.kinds).Rd w0 (.slice ak q.kinds.length ck)):=⟨ak,ck,rfl,hkr⟩
      have HBQ:Hid (bW w0 aq q.name.length q.name):=hbq
      have z7:=Blk.new wr 104 [.slice aq q.name.length cq,.slice ak q.kinds.length ck];have g7:=aC wr (.cells #[.slice aq q.name.length cq,.slice ak q.kinds.length ck] 104 (0,0)) none;simp only[List.toArray]at z7;have N7:=hN.grown g7;have b7:=hb.trans ((aA g7).mono hb.size)
      have G7:Hid (w.grownBy (wr.alloc (.cells #[.slice aq q.name.length cq,.slice ak q.kinds.length ck] 104 (0,0))) (some b)):=aD hg (bU g7 _)
      have c7:=aB hc0 (aA g7);clear Ab hq hbq hkr hN hb hg hc0 g7;go_upto_region 7 with fail;generalize wr.alloc (.cells #[.slice aq q.name.length cq,.slice ak q.kinds.length ck] 104 (0,0))=w7 at *;generalize wr.heap.size=gQ at *
      have HS:∀{wl:World},Below w7.heap.size w7 wl->wl.cell? ⟨gF,0,none⟩=some (.slice ax f.name.length cx)/\wl.cell? ⟨gQ,0,none⟩=some (.slice aq q.name.length cq)/\wl.cell? ⟨gQ,1,none⟩=some (.slice ak q.kinds.length ck):=fun hb=>⟨aB c7 hb,aB (z7.cell (i:=0) rfl) hb,aB (z7.cell (i:=1) rfl) hb⟩
      have Al:=HS (wl:=w7.drew) (Below.refl _ _).drew;have HC:=tJ ax f.name.length cx f.name aq q.name.length cq q.name w7.drew (HBX.out.below b7.drew) (HBQ.out.below b7.drew) hnm hqn;clear r0 r1
      refine rl 9 (S:=fun wl=>wl.cell? ⟨gF,0,none⟩=some (.slice ax f.name.length cx)/\wl.cell? ⟨gQ,0,none⟩=some (.slice aq q.name.length cq)/\wl.cell? ⟨gQ,1,none⟩=some (.slice ak q.kinds.length ck)) V4 Al (fun Aa=>?_)
      refine la 0 ?_ Aa;refine la 1 ?_ Aa;refine la 2 ?_ Aa;try simp only[nrm]
      refine la 3 ?_ Aa;refine la 4 ?_ Aa;refine la 6 ?_ Aa;try simp only[nrm]
      refine la 7 ?_ Aa;refine la 8 ?_ Aa;try simp only[nrm]
      refine da 5 fun K hK=>?_
      go_simp
      (with_reducible refine HC.mono ?_)
      rintro e wa ⟨rfl,rfl⟩;go_wp2_with fail
      refine hK.out _ _ (Al) (fun Aa=>?_)
      clear hK K;try simp only[nrm]
      have N8:=N7.grown (aI (Below.refl w7.heap.size w7).drew none);have b8:=b7.drew
      have G8:Hid (w.grownBy w7.drew (some b)):=aD G7.out (aI (Below.refl w7.heap.size w7).drew _)
      generalize w7.drew=w8 at *;obtain⟨ff,hf1,hf2⟩:=N8.ex
      refine ea fun K hK=>?_
      rw[if_pos V4];refine aGw _ _ _ rfl hf1 V14 (eU f.name q.name) (.agg #[.int .i64 3,.slice ak q.kinds.length ck]) rfl rfl rfl (rK HBX.out.2.1 HBQ.out.2.1) (Nat.le_trans oX V14) ?_;intro w9 hN9 hg9
      have HF:Hid (NT w9 b (k+8*j+(i+1)) (stG (eJ us g (fs.take j)) ((fpL f).take (i+1)))/\Below w0.heap.size w0 w9/\w.grownBy w9 (some b)/\w9.cell? ⟨gF,0,none⟩=some (.slice ax f.name.length cx)):=⟨by rw[HSN.out];exact NT.put hf1 hf2 hN9 hg9 ⟨_,rfl,HKV.out.below b8⟩,cO b8 hg9 Ar,aD G8.out hg9,N8.cell Aa.1 hg9⟩
      refine hK.out _ _ ?_;clear hK K Aa HS Al HC hN9 hg9 hf1 hf2 N7 N8 b7 b8 c7 z7;go_wp2_with fail;go_roundw
      case rel=>exact⟨i+1,by omega,by go_num,HF⟩
      case measure=>simp[intOf];omega
     .
      have:np=i:=V6
      subst this
      rw[List.take_of_length_le (show(fpL f).length<=np by unfold fpL;rw[List.length_map,HNP.out];exact Nat.le_refl _)]at hN
      have HF:Hid (NT wr b (k+8*(j+1)) (eJ us g (fs.take (j+1)))/\Below w0.heap.size w0 wr/\w.grownBy wr (some b)):=⟨by rw[HUG.out];exact hN.mono V6,hb,hg⟩
      clear hN hb hg hc0;exact U63
  .
   have:n2=j:=V6
   subst this
   rw[List.take_of_length_le (by rw[HN2.out];exact Nat.le_refl _)]at hN
   have HF:Hid (NT wr b (k+8*n2) (eJ us g fs)/\w.grownBy wr (some b)):=⟨hN,hg⟩
   clear hN hb hg;go_wp2_with fail;exact bodyPost_end (results_none rfl _ _ _) rfl ⟨rfl,HF.out⟩
end Go.Proofs.YtnelibmaancmkaaGreatDoor

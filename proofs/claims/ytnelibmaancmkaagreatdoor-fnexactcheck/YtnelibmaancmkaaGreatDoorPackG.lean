import Derived.Test.YtnelibmaancmkaaGreatDoorUnl
namespace Go.Proofs.YtnelibmaancmkaaGreatDoor
open Go.RowKit
set_option maxHeartbeats 1000000
set_option linter.unusedVariables false
set_option linter.unusedSimpArgs false
set_option maxRecDepth 100000
theorem V46{p:Prop}(h:p:=by rw[he.out,hr.out];simp):p:=h
theorem U86{p:Prop}(h:p:=by
 go_wp2_with fail
 go_ret
 exact⟨rfl,rfl⟩):p:=h
theorem U119{p:Prop}(h:p:=by
 clear HU
 go_wp2_with fail
 refine HU3.mono ?_
 rintro e w4 ⟨rfl,Bg⟩
 go_wp2_with fail
 go_ret
 exact⟨aE V46,Bg⟩):p:=h
def sT (x:Int):Bool:=decide (0<=x) && decide (x<=1)
def nT (q:Fp):Bool:=aK q.name false && decide (q.kinds.length<=4) && q.kinds.all sT
def lA (f:Fa):Bool:=aK f.name true && decide (f.procs.length<=8) && f.procs.all nT && gC (f.procs.map Fp.name)
def aH7 (l:List Int):List (List Fl):=l.map fun x=>[.n x]
theorem aB0 {w:World}{b:Nat}:∀{l:List Int} {off:Nat},(∀i,i<l.length->w.cell? ⟨b,off+i,none⟩=some (.int .i64 (l[i]?.getD 0)))->fE w b 1 off (aH7 l):=by
 intro l
 induction l with
 | nil=>intro off h;exact trivial
 | cons x l ih=>
  intro off h
  refine⟨⟨⟨_,by have:=h 0 V15;simpa using this,rfl⟩,trivial⟩,ih fun i hi=>?_⟩
  have:=h (i+1) V78
  rw[show off+(i+1)=off+1+i by omega]at this
  simpa using this
theorem pK.lrow {w:World}{a:Option Addr}{c:Nat}{l:List Int}(h:pK w a l.length l)(hc:l.length<=c)(hm:c<=maxLen)(hz:a=none->c=0):aS w a c 1 (aH7 l):=by
 refine⟨by simpa [aH7] using hc,hm,hz,fun hp=>?_⟩
 obtain⟨b,off,e,Ab⟩:=h.2.2 (by simpa [aH7] using hp)
 exact⟨b,off,e,aB0 Ab⟩
theorem aIn (x:Int)(w:World):Calls Tryz.prog 188 #[.int .i64 x] w fun e w'=>e=.returned (.bool (sT x))/\w'=w:=by
 have H:=gL x 0 1 w;go_enter Tryz.func188,Tryz.ntmps188;go_wp2_with fail;refine H.mono ?_;rintro e w2 ⟨rfl,rfl⟩;exact U86
theorem aFq (a:Option Addr)(c:Nat)(l:List Int)(w:World)(h:pK w a l.length l)(hc:l.length<=c)(hm:c<=maxLen)(hz:a=none->c=0):
  Calls Tryz.prog 187 #[.slice a l.length c,.func (.func 188) #[] #[]] w fun e w'=>e=.returned (.bool (l.all sT))/\w.grownBy w' none:=by
 refine(aLd 188 #[] none a l.length c (aH7 l) (fun j=>sT (l[j]?.getD 0)) (fun _ wr=>w.grownBy wr none) (fun _ _=>True) w ⟨cK Tryz.func188 rfl rfl,fun j wr hi=>(h.lrow hc hm hz).below (aA hi), ?_, ?_⟩ (by simp[aH7]) (aP _ _) (fun j w1 w2 h1 h2=>aD h1 h2) V15 (cK Tryz.func222 rfl rfl)).mono ?_
 .
  exact U44
 .
  intro j r wr vs hr hi Ad _;unfold aH7 at hr;rw[List.getElem?_map]at hr;obtain⟨x,hx,rfl⟩:=Option.map_eq_some_iff.1 hr;rw[hx];obtain⟨y0,us,rfl,rfl,rfl⟩:=Ad;refine(aIn x wr).mono ?_;rintro e w' ⟨rfl,rfl⟩
  exact⟨rfl,aP _ _,fun _=>hi,fun _=>trivial⟩
 .
  rintro e w' ⟨r,rfl,hg,ht⟩;refine⟨aE ?_,hg⟩;rw[fV ht];exact fM l 0 sT
theorem aB8 (q:Fp)(a0:Option Addr)(c0:Nat)(a1:Option Addr)(c1:Nat)(w:World)(h0:bW w a0 q.name.length q.name)(hn0:q.name.length<=1073741824)(hc0:q.name.length<=c0)(h1:pK w a1 q.kinds.length q.kinds)(hc:q.kinds.length<=c1)(hm:c1<=maxLen)(hz:a1=none->c1=0):
  Calls Tryz.prog 133 #[.agg #[.slice a0 q.name.length c0,.slice a1 q.kinds.length c1]] w fun e w'=>e=.returned (.bool (nT q))/\w.grownBy w' none:=by
 have y0:=aC w (.cells #[.slice a0 q.name.length c0,.slice a1 q.kinds.length c1] 104 (0,0)) none;have q0:=aN w 104 #[.slice a0 q.name.length c0,.slice a1 q.kinds.length c1] 0 _ rfl;have q1:=aN w 104 #[.slice a0 q.name.length c0,.slice a1 q.kinds.length c1] 1 _ rfl;have HN:=dX a0 _ c0 q.name false _ (h0.below (aA y0)) hn0 hc0;have HK:=aFq a1 c1 q.kinds _ (h1.below (aA y0)) hc hm hz
 have hcn:q.kinds.length<=9223372036854775807:=by unfold maxLen at hm;omega
 have he:Hid (nT q=(aK q.name false && decide (q.kinds.length<=4) && q.kinds.all sT)):=rfl
 clear h0 h1;generalize q.kinds.all sT=r2 at HK he;generalize aK q.name false=r0 at HN he;generalize q.name.length=n0 at *;generalize q.kinds.length=n1 at *;generalize hr1:decide (n1<=4)=r1 at he;go_enter Tryz.func133,Tryz.ntmps133;go_upto_region 1 with fail;generalize w.alloc (.cells #[.slice a0 n0 c0,.slice a1 n1 c1] 104 (0,0))=w1 at *;go_wp2_with fail;refine HN.mono ?_;rintro e w2 ⟨rfl,rfl⟩;clear HN
 cases r0 with
 | false=>
  clear HK;go_wp2_with fail;go_ret
  exact⟨aE (by rw[he.out];rfl),y0⟩
 | true=>
  by_cases h4:n1<=4
  .
   have Bl:(n1:Int)<=4:=by omega
   have hr:Hid (r1=true):=by show _=_;rw[<-hr1];exact decide_eq_true h4
   clear hr1;go_wp2_with fail;refine HK.mono ?_;rintro e w3 ⟨rfl,hg⟩;go_wp2_with fail;go_ret;exact⟨aE V46,aD y0 hg⟩
  .
   have Bl:¬(n1:Int)<=4:=by omega
   have hr:Hid (r1=false):=by show _=_;rw[<-hr1];exact decide_eq_false h4
   clear hr1 HK;go_wp2_with fail;go_ret;exact⟨aE V46,y0⟩
theorem aDk (a:Option Addr)(c:Nat)(l:List Fp)(w:World)(h:aS w a c 2 (l.map Fp.fl))(hs:∀q ∈ l,q.name.length<=1073741824):
  Calls Tryz.prog 132 #[.slice a l.length c,.func (.func 133) #[] #[]] w fun e w'=>e=.returned (.bool (l.all nT))/\w.grownBy w' none:=by
 refine(vJ 133 #[] none a l.length c (l.map Fp.fl) (fun j=>nT (l[j]?.getD ⟨[],[]⟩)) (fun _ wr=>w.grownBy wr none) (fun _ _=>True) w ⟨cK Tryz.func133 rfl rfl,fun j wr hi=>h.below (aA hi), ?_, ?_⟩ V15 (aP _ _) (fun j w1 w2 h1 h2=>aD h1 h2) V15 (cK Tryz.func186 rfl rfl)).mono ?_
 .
  exact U44
 .
  intro j r wr vs hr hi Ad _;rw[List.getElem?_map]at hr;obtain⟨x,hx,rfl⟩:=Option.map_eq_some_iff.1 hr;rw[hx];have hxs:=hs x (List.mem_of_getElem? hx);obtain⟨y0,us,rfl,⟨a0,c0,rfl,Ar,hc0,_⟩,y1,us2,rfl,⟨a1,c1,rfl,Aj,hc1,hm1,hz1⟩,rfl⟩:=Ad;refine(aB8 x a0 c0 a1 c1 wr Ar hxs hc0 Aj hc1 hm1 hz1).mono ?_;rintro e w' ⟨rfl,hg⟩
  exact⟨rfl,hg,fun _=>aD hi hg,fun _=>trivial⟩
 .
  rintro e w' ⟨r,rfl,hg,ht⟩;refine⟨aE ?_,hg⟩;rw[fV ht];exact fM l ⟨[],[]⟩ nT
theorem zP (f:Fa)(a0:Option Addr)(c0:Nat)(a1:Option Addr)(c1:Nat)(w:World)(h0:bW w a0 f.name.length f.name)(hn0:f.name.length<=1073741824)(hc0:f.name.length<=c0)(h1:aS w a1 c1 2 (f.procs.map Fp.fl))(hs:∀q ∈ f.procs,q.name.length<=1073741824):
  Calls Tryz.prog 82 #[.agg #[.slice a0 f.name.length c0,.slice a1 f.procs.length c1]] w fun e w'=>e=.returned (.bool (lA f))/\w.grownBy w' none:=by
 have y0:=aC w (.cells #[.slice a0 f.name.length c0,.slice a1 f.procs.length c1] 79 (0,0)) none;have q0:=aN w 79 #[.slice a0 f.name.length c0,.slice a1 f.procs.length c1] 0 _ rfl;have q1:=aN w 79 #[.slice a0 f.name.length c0,.slice a1 f.procs.length c1] 1 _ rfl;have HN:=dX a0 _ c0 f.name true _ (h0.below (aA y0)) hn0 hc0;have HK:=aDk a1 c1 f.procs _ (h1.below (aA y0)) hs
 have hcn:f.procs.length<=9223372036854775807:=by have h2:=h1.most;have h3:=h1.cap;simp only[List.length_map]at h3;unfold maxLen at h2;omega
 have HU:∀w3,w.grownBy w3 none->Calls Tryz.prog 134 #[.slice a1 f.procs.length c1,.func (.func 135) #[] #[]] w3 fun e w'=>e=.returned (.bool (gC (f.procs.map Fp.name)))/\w.grownBy w' none:=by
  intro w3 h3;refine(pD (cK Tryz.func204 rfl rfl) a1 c1 f.procs f.procs.length w3 rfl (h1.below (aA h3))).mono ?_;rintro e w' ⟨rfl,hg⟩;exact⟨rfl,aD h3 hg⟩
 have he:Hid (lA f=(aK f.name true && decide (f.procs.length<=8) && f.procs.all nT && gC (f.procs.map Fp.name))):=rfl
 clear h0 h1 hs;generalize gC (f.procs.map Fp.name)=r3 at HU he;generalize f.procs.all nT=r2 at HK he;generalize aK f.name true=r0 at HN he;generalize f.name.length=n0 at *;generalize f.procs.length=n1 at *;generalize hr1:decide (n1<=8)=r1 at he;go_enter Tryz.func82,Tryz.ntmps82;go_upto_region 1 with fail;generalize w.alloc (.cells #[.slice a0 n0 c0,.slice a1 n1 c1] 79 (0,0))=w1 at *;go_wp2_with fail;refine HN.mono ?_;rintro e w2 ⟨rfl,rfl⟩;clear HN
 cases r0 with
 | false=>
  clear HK HU;go_wp2_with fail;go_ret
  exact⟨aE (by rw[he.out];rfl),y0⟩
 | true=>
  by_cases h4:n1<=8
  .
   have Bl:(n1:Int)<=8:=by omega
   have hr:Hid (r1=true):=by show _=_;rw[<-hr1];exact decide_eq_true h4
   clear hr1;go_wp2_with fail;refine HK.mono ?_;rintro e w3 ⟨rfl,hg⟩;replace q1:=aB q1 (aA hg);have Aq:=aD y0 hg;clear HK q0 hg
   cases r2 with
   | false=>
    clear HU;go_wp2_with fail;go_ret;exact⟨aE V46,Aq⟩
   | true=>
    have HU3:=HU w3 Aq;exact U119
  .
   have Bl:¬(n1:Int)<=8:=by omega
   have hr:Hid (r1=false):=by show _=_;rw[<-hr1];exact decide_eq_false h4
   clear hr1 HK HU;go_wp2_with fail;go_ret;exact⟨aE V46,y0⟩
theorem U125{p:Prop}(h:p:=by
 go_wp2_with fail
 go_roundw
 case rel=>exact⟨m+1,by omega,by go_num,HF,hbz⟩
 case measure=>simp[intOf];omega):p:=h
theorem aCs {f:Fa}(h:aK f.name true=false):lA f=false:=by unfold lA;rw[h];rfl
theorem aCt {f:Fa}(h:8<f.procs.length):lA f=false:=by unfold lA;rw[decide_eq_false (by omega:¬f.procs.length<=8)];simp
theorem oT {f:Fa}{j:Nat}{q:Fp}(h:f.procs[j]?=some q)(hq:nT q=false):lA f=false:=by
 have:f.procs.all nT=false:=by rw[List.all_eq_false];exact⟨q,List.mem_of_getElem? h,by simp[hq]⟩
 unfold lA;rw[this];simp
theorem aE9 {f:Fa}{j:Nat}(hj:j<f.procs.length)(h:unl (f.procs.map Fp.name) j=false):lA f=false:=by
 unfold lA;rw[mT V85 h];simp
theorem aE8 {f:Fa}(h0:aK f.name true=true)(h8:f.procs.length<=8)(h:∀j,j<f.procs.length->unl (f.procs.map Fp.name) j=true/\∀q,f.procs[j]?=some q->nT q=true):lA f=true:=by
 have h1:f.procs.all nT=true:=by
  rw[List.all_eq_true];intro q hq;obtain⟨j,hj,rfl⟩:=List.mem_iff_getElem.1 hq;exact(h j hj).2 _ (List.getElem?_eq_getElem hj)
 unfold lA;rw[h0,h1,decide_eq_true h8,mS fun i hi=>(h i V78).1];rfl
theorem aCm {q:Fp}(h:aK q.name false=false):nT q=false:=by unfold nT;rw[h];rfl
theorem aCn {q:Fp}(h:4<q.kinds.length):nT q=false:=by unfold nT;rw[decide_eq_false (by omega:¬q.kinds.length<=4)];simp
theorem aCo {q:Fp}{k:Nat}(hk:k<q.kinds.length)(h:sT (q.kinds[k]?.getD 0)=false):nT q=false:=by
 have:q.kinds.all sT=false:=by
  rw[List.all_eq_false];rw[List.getElem?_eq_getElem hk]at h
  exact⟨_,List.getElem_mem hk,by simpa using h⟩
 unfold nT;rw[this];simp
theorem aE4 {q:Fp}(h0:aK q.name false=true)(h4:q.kinds.length<=4)(h:∀k,k<q.kinds.length->sT (q.kinds[k]?.getD 0)=true):nT q=true:=by
 have h1:q.kinds.all sT=true:=by rw[<-fM q.kinds 0 sT,List.all_eq_true];intro j hj;exact h j V85
 unfold nT;rw[h0,h1,decide_eq_true h4];rfl
set_option maxHeartbeats 8000000 in
theorem yS (f:Fa)(a0:Option Addr)(c0:Nat)(a1:Option Addr)(c1:Nat)(w:World)(h0:bW w a0 f.name.length f.name)(hn0:f.name.length<=1073741824)(h1:aS w a1 c1 2 (f.procs.map Fp.fl))(hs:∀q ∈ f.procs,q.name.length<=1048576):
  Calls Tryz.prog 69 #[.agg #[.slice a0 f.name.length c0,.slice a1 f.procs.length c1]] w fun e w'=>e=.returned (.bool (lA f))/\w.grownBy w' none:=by
 have y0:=aC w (.cells #[.slice a0 f.name.length c0,.slice a1 f.procs.length c1] 79 (0,0)) none;have q0:=aN w 79 #[.slice a0 f.name.length c0,.slice a1 f.procs.length c1] 0 _ rfl;have q1:=aN w 79 #[.slice a0 f.name.length c0,.slice a1 f.procs.length c1] 1 _ rfl;have HN:=bI a0 _ c0 f.name true _ (h0.below (aA y0)) hn0
 have HL:Hid (aS w a1 c1 2 (f.procs.map Fp.fl)):=h1
 have HS:Hid (∀q ∈ f.procs,q.name.length<=1048576):=hs
 have hcn:f.procs.length<=9223372036854775807:=by have h2:=h1.most;have h3:=h1.cap;simp only[List.length_map]at h3;unfold maxLen at h2;omega
 clear h0 h1 hs;generalize hn:f.procs.length=n at q0 q1 hcn y0 HN ⊢;generalize hm:f.name.length=n0 at q0 q1 y0 HN ⊢;clear hm
 have Hn:Hid (f.procs.length=n):=hn
 clear hn;go_enter Tryz.func69,Tryz.ntmps69;go_upto_region 1 with fail;generalize w.alloc (.cells #[.slice a0 n0 c0,.slice a1 n c1] 79 (0,0))=w0 at *
 cases e1:aK f.name true
 .
  have HF:Hid (lA f=false):=aCs e1
  rw[e1]at HN;clear e1;go_wp2_with fail;refine HN.mono ?_;rintro e w1 ⟨rfl,rfl⟩;go_wp2_with fail;go_ret;exact⟨aE HF.out.symm,y0⟩
 rw[e1]at HN
 have H1:Hid (aK f.name true=true):=e1
 clear e1;go_wp2_with fail;refine HN.mono ?_;rintro e w0 ⟨rfl,rfl⟩;clear HN
 by_cases m1:8<n
 .
  have HF:Hid (lA f=false):=aCt (by rw[Hn.out];exact m1)
  have m1':(8:Int)<(n:Int):=V6;go_wp2_with fail;go_ret;exact⟨aE HF.out.symm,y0⟩
 have m1':¬(8:Int)<(n:Int):=V6;have q1':=q1;go_wp2_with fail;clear q0 q1
 have W0:Hid (w.grownBy w0 none):=y0
 have Q1:Hid (w0.cell? ⟨w.heap.size,1,none⟩=some (.slice a1 n c1)):=q1'
 clear y0 q1'
 go_loopw [3,4,5] (fun i _ _ wr=>∃j:Nat,j<=n/\i=.int .i64 j/\Hid (∀m,m<j->unl (f.procs.map Fp.name) m=true/\∀q,f.procs[m]?=some q->nT q=true)/\w0.grownBy wr none) (fun i _ _ _=>n-(intOf i).toNat)
 case atStart=>exact⟨0,Nat.zero_le _,rfl,by show ∀_,_;omega,aP _ _⟩
 case round=>
  obtain⟨j,hj,rfl,Af,Au⟩:=hrel;have k1:=aB Q1.out (aA Au)
  have Aq:w.grownBy wr none:=aD W0.out Au
  by_cases Ai:j<n
  .
   obtain⟨b,off,rfl⟩:=aS.addr HL.out (by simp only[List.length_map];rw[Hn.out];omega)
   obtain⟨x,hx⟩:∃x,f.procs[j]?=some x:=⟨f.procs[j]'(by rw[Hn.out];exact Ai),List.getElem?_eq_getElem _⟩
   have Ak:(f.procs.map Fp.fl)[j]?=some (Fp.fl x):=by rw[List.getElem?_map,hx];rfl
   obtain⟨vs,Ad,Ab⟩:=((aS.below HL.out (aA Aq)).el Ak).vals;obtain⟨y0,us,rfl,⟨ax,cx,rfl,hbx,_⟩,y1,us2,rfl,⟨ay,cy,rfl,hky,hcy,hmy,_⟩,rfl⟩:=Ad
   have q0:wr.cell? ⟨b,off+j*2,none⟩=some (.slice ax x.name.length cx):=Ab 0 _ rfl
   have q1:wr.cell? ⟨b,off+j*2+1,none⟩=some (.slice ay x.kinds.length cy):=Ab 1 _ rfl
   have hxl:=HS.out x (List.mem_of_getElem? hx);have H2:=bI ax x.name.length cx x.name false wr hbx V6
   have HX:Hid (bW wr ax x.name.length x.name):=hbx
   have HY:Hid (pK wr ay x.kinds.length x.kinds):=hky
   have hkn:x.kinds.length<=9223372036854775807:=by unfold maxLen at hmy;omega
   have HJ:Hid (f.procs[j]?=some x):=hx
   have HU:Hid (unl (f.procs.map Fp.name) j = !((f.procs.take j).any fun y=>decide (y.name=x.name))):=by
    show _=_
    unfold unl
    rw[show(f.procs.map Fp.name)[j]?.getD []=x.name by rw[List.getElem?_map,hx];rfl,<-List.map_take,List.any_map]
    rfl
   clear Ab hx Ak hbx hky hcy hmy;generalize As:x.kinds.length=nk at *
   have Hk:Hid (x.kinds.length=nk):=As
   clear As;generalize hxl:x.name.length=nx at *;clear hxl
   cases v1:aK x.name false
   .
    have HF:Hid (lA f=false):=oT HJ.out (aCm v1)
    rw[v1]at H2;clear v1;go_wp2_with fail;refine H2.mono ?_;rintro e w1 ⟨rfl,rfl⟩;go_wp2_with fail;go_ret;exact⟨aE HF.out.symm,Aq⟩
   rw[v1]at H2
   have HV:Hid (aK x.name false=true):=v1
   clear v1;go_wp2_with fail;refine H2.mono ?_;rintro e wr ⟨rfl,rfl⟩;clear H2
   by_cases m2:4<nk
   .
    have HF:Hid (lA f=false):=oT HJ.out (aCn (by rw[Hk.out];exact m2))
    have m2':(4:Int)<(nk:Int):=V6;go_wp2_with fail;go_ret;exact⟨aE HF.out.symm,Aq⟩
   have m2':¬(4:Int)<(nk:Int):=V6;have k1':=k1;have p0:=q0;have p1:=q1;go_wp2_with fail
   have K1:Hid (wr.cell? ⟨w.heap.size,1,none⟩=some (.slice (some ⟨b,off,none⟩) n c1)):=k1'
   have P0:Hid (wr.cell? ⟨b,off+j*2,none⟩=some (.slice ax nx cx)):=p0
   have P1:Hid (wr.cell? ⟨b,off+j*2+1,none⟩=some (.slice ay nk cy)):=p1
   clear k1 q0 q1 k1' p0 p1;generalize wr=w5 at *
   go_loopw [4] (fun i wr=>∃k:Nat,k<=j/\i=.int .i64 k/\Hid (((f.procs.take k).any fun y=>decide (y.name=x.name))=false)/\w5.grownBy wr none) (fun i _=>j-(intOf i).toNat)
   case atStart=>exact⟨0,Nat.zero_le _,rfl,by show _=_;simp,aP _ _⟩
   case round=>
    obtain⟨k,hk,rfl,hno,hbq⟩:=hrel;have hbb:=aA hbq;have k1:=aB K1.out hbb;have p0:=aB P0.out hbb
    have hgq:w.grownBy wr none:=aD Aq hbq
    by_cases hlk:k<j
    .
     obtain⟨y,hy⟩:∃y,f.procs[k]?=some y:=⟨f.procs[k]'(by rw[Hn.out];omega),List.getElem?_eq_getElem _⟩
     have hyk:(f.procs.map Fp.fl)[k]?=some (Fp.fl y):=by rw[List.getElem?_map,hy];rfl
     obtain⟨vs,Ad,Ab⟩:=((aS.below HL.out (aA hgq)).el hyk).vals;obtain⟨z0,us,rfl,⟨az,cz,rfl,hbz,_⟩,z1,us2,rfl,_,rfl⟩:=Ad
     have r0:wr.cell? ⟨b,off+k*2,none⟩=some (.slice az y.name.length cz):=Ab 0 _ rfl
     have kc1:=fun d=>aT cz (hbz.drewN d)
     have kc2:=fun d=>aT cx (bW.drewN (bW.below HX.out hbb) d)
     have HE:Hid (((strOfNums y.name).toList == (strOfNums x.name).toList)=decide (y.name=x.name)):=iI hbz.2.1 HX.out.2.1
     have HN2:Hid (((f.procs.take (k+1)).any fun y=>decide (y.name=x.name))=(((f.procs.take k).any fun y=>decide (y.name=x.name)) || decide (y.name=x.name))):=by
      show _=_
      obtain⟨h5,h6⟩:=List.getElem?_eq_some_iff.1 hy;rw[List.take_succ_eq_append_getElem h5,h6];simp
     have HT:Hid (y.name=x.name->((f.procs.take j).any fun y=>decide (y.name=x.name))=true):=fun e=>by
      rw[List.any_eq_true]
      exact⟨y,List.mem_of_getElem? (show(f.procs.take j)[k]?=some y by rw[List.getElem?_take,if_pos hlk];exact hy),by simp[e]⟩
     have hk':(k:Int)<(n:Int):=V6;have hj':(j:Int)<(n:Int):=V6;clear Ab hy hyk hbz hbb
     by_cases he:y.name=x.name
     .
      have hb:((strOfNums y.name).toList == (strOfNums x.name).toList)=true:=HE.out.trans (decide_eq_true he)
      have HF:Hid (lA f=false):=aE9 (by rw[Hn.out];exact Ai) (by rw[HU.out,HT.out he];rfl)
      clear he HE HN2 HT;go_wp2_with fail
      go_quiet (fail)
      go_wp2_with fail;go_ret;exact⟨aE HF.out.symm,aI (below_drewN (aA hgq) _) _⟩
     .
      have hb:((strOfNums y.name).toList == (strOfNums x.name).toList)=false:=HE.out.trans (decide_eq_false he)
      have HF:Hid (((f.procs.take (k+1)).any fun y=>decide (y.name=x.name))=false):=by show _=_;rw[HN2.out,hno.out,decide_eq_false he];rfl
      clear he HE HN2 HT;go_wp2_with fail
      go_quiet (fail)
      go_wp2_with fail;go_roundw
      case rel=>exact⟨k+1,by omega,by go_num,HF,aI (below_drewN (aA hbq) _) _⟩
      case measure=>simp[intOf];omega
    .
     have:k=j:=V6
     subst this
     have HUY:Hid (unl (f.procs.map Fp.name) k=true):=by show _=_;rw[HU.out,hno.out];rfl
     have K2:Hid (wr.cell? ⟨w.heap.size,1,none⟩=some (.slice (some ⟨b,off,none⟩) n c1)):=k1
     have P2:Hid (wr.cell? ⟨b,off+k*2+1,none⟩=some (.slice ay nk cy)):=aB P1.out hbb
     have HY2:Hid (pK wr ay nk x.kinds):=pK.below HY.out hbb
     have Ar:w0.grownBy wr none:=aD Au hbq
     clear HX HY K1 P0 P1 p0 hbb hbq hno HU;go_wp2_with fail;clear k1;generalize wr=w9 at *
     go_loopw [5] (fun i wr=>∃m:Nat,m<=nk/\i=.int .i64 m/\Hid (∀z,z<m->sT (x.kinds[z]?.getD 0)=true)/\w9.grownBy wr none) (fun i _=>nk-(intOf i).toNat)
     case atStart=>exact⟨0,Nat.zero_le _,rfl,by show ∀_,_;omega,aP _ _⟩
     case round=>
      obtain⟨m,hm,rfl,Bc,hbz⟩:=hrel;have hbb:=aA hbz;have k1:=aB K2.out hbb;have p1:=aB P2.out hbb
      have hgz:w.grownBy wr none:=aD hgq hbz
      by_cases hlm:m<nk
      .
       obtain⟨_,_,hcell⟩:=pK.below HY2.out hbb;obtain⟨bk,ok,rfl,Bm⟩:=hcell V6;have r0:=Bm m hlm;have hk':(k:Int)<(n:Int):=V6;clear Bm hcell hbb;generalize hz:x.kinds[m]?.getD 0=z at r0
       have HZ:Hid (x.kinds[m]?.getD 0=z):=hz
       clear hz
       by_cases z0:z=0
       .
        have HF:Hid (∀z,z<m+1->sT (x.kinds[z]?.getD 0)=true):=fun i hi=>(Nat.lt_or_ge i m).elim (fun h=>Bc.out i h) (fun h=>(show m=i by omega) ▸ (by rw[HZ.out,z0];rfl))
        subst z0;exact U125
       by_cases z1:z=1
       .
        have HF:Hid (∀z,z<m+1->sT (x.kinds[z]?.getD 0)=true):=fun i hi=>(Nat.lt_or_ge i m).elim (fun h=>Bc.out i h) (fun h=>(show m=i by omega) ▸ (by rw[HZ.out,z1];rfl))
        subst z1;exact U125
       .
        have HF:Hid (lA f=false):=oT HJ.out (aCo (k:=m) (by rw[Hk.out];exact hlm) (by rw[HZ.out];unfold sT;simp;omega))
        have z0':(z != 0)=true:=by simpa using z0
        have z1':(z != 1)=true:=by simpa using z1
        go_wp2_with fail;go_ret;exact⟨aE HF.out.symm,hgz⟩
      .
       have:m=nk:=V6
       subst this
       have HF:Hid (∀z,z<k+1->unl (f.procs.map Fp.name) z=true/\∀q,f.procs[z]?=some q->nT q=true):=fun i hi=>(Nat.lt_or_ge i k).elim (fun h=>Af.out i h) (fun h=>(show k=i by omega) ▸ ⟨HUY.out,fun q hq=>by
        rw[HJ.out]at hq
        obtain rfl:=Option.some.inj hq
        exact aE4 HV.out (by rw[Hk.out];omega) (fun z hz=>Bc.out z (by rw[<-Hk.out];exact hz))⟩)
       go_wp2_with fail;go_roundw
       case rel=>exact⟨k+1,by omega,by go_num,HF,aD Ar hbz⟩
       case measure=>simp[intOf];omega
  .
   have:j=n:=V6
   subst this;go_wp2_with fail;go_ret
   exact⟨aE (aE8 H1.out (by rw[Hn.out];omega) (fun m hm=>Af.out m (by rw[<-Hn.out];exact hm))).symm,Aq⟩
end Go.Proofs.YtnelibmaancmkaaGreatDoor

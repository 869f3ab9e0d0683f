import Derived.Test.YtffphdacgblaoaaGreatDoorFind
import Derived.Test.YtffphdacgblaoaaGreatDoorUnl
namespace Go.Proofs.YtffphdacgblaoaaGreatDoor
open Go.RowKit
set_option linter.unusedVariables false
set_option linter.unusedSimpArgs false
set_option maxRecDepth 100000
set_option maxHeartbeats 1000000
theorem aIf {α:Type}{l:List α}{i:Nat}{y:α}(h:l[i]?=some y):i<l.length:=(zC1.1 h).1
theorem bQ.cellsAt {w:World}{a:Option Addr}{c k i:Nat}{rs:List (List Fl)}{r:List Fl}(h:bQ w a c k rs)(hi:rs[i]?=some r):∃b off vs,a=some ⟨b,off,none⟩/\cC w r vs/\∀z v,vs[z]?=some v->w.cell? ⟨b,off+i*k+z,none⟩=some v:=by
 obtain⟨b,off,rfl⟩:=h.addr (by have:=aIf hi;omega)
 obtain⟨vs,hv,hc⟩:=(h.el hi).vals;exact⟨b,off,vs,rfl,hv,hc⟩
theorem Q39{p:Prop}(h:p:=by rw[he.out,hr.out];simp):p:=h
theorem U77{p:Prop}(h:p:=by
 clear HU
 go_wp2_with fail
 refine HU3.mono ?_
 rintro e w4 ⟨rfl,Bd⟩
 go_wp2
 go_ret
 exact⟨aE Q39,Bd⟩):p:=h
def aKi (x:Int):Bool:=decide (0<=x) && decide (x<=1)
def aDm (q:Fp):Bool:=aK q.name false && decide (q.kinds.length<=4) && q.kinds.all aKi
def vS (f:Fa):Bool:=aK f.name true && decide (f.procs.length<=8) && f.procs.all aDm && fU (f.procs.map Fp.name)
def aLq (l:List Int):List (List Fl):=l.map fun x=>[.n x]
theorem aEz {w:World}{b:Nat}:∀{l:List Int} {off:Nat},(∀i,i<l.length->w.cell? ⟨b,off+i,none⟩=some (.int .i64 (l[i]?.getD 0)))->eT w b 1 off (aLq l):=by
 intro l
 induction l with
 | nil=>intro off h;exact trivial
 | cons x l ih=>
  intro off h
  refine⟨⟨⟨_,by have:=h 0 Q9;simpa using this,rfl⟩,trivial⟩,ih fun i hi=>?_⟩
  have:=h (i+1) Q77
  rw[show off+(i+1)=off+1+i by omega]at this
  simpa using this
theorem aG6.lrow {w:World}{a:Option Addr}{c:Nat}{l:List Int}(h:aG6 w a l.length l)(hc:l.length<=c)(hm:c<=maxLen)(hz:a=none->c=0):bQ w a c 1 (aLq l):=by
 refine⟨by simpa [aLq] using hc,hm,hz,fun hp=>?_⟩
 obtain⟨b,off,e,Ab⟩:=h.2.2 (by simpa [aLq] using hp)
 exact⟨b,off,e,aEz Ab⟩
theorem aL8 (x:Int)(w:World):Calls Tryz.prog 65 #[.int .i64 x] w fun e w'=>e=.returned (.bool (aKi x))/\w'=w:=by
 have H:=iM x 0 1 w;go_enter Tryz.func65,Tryz.ntmps65;go_wp2_with fail;refine H.mono ?_;rintro e w2 ⟨rfl,rfl⟩;exact U45
theorem aJh (a:Option Addr)(c:Nat)(l:List Int)(w:World)(h:aG6 w a l.length l)(hc:l.length<=c)(hm:c<=maxLen)(hz:a=none->c=0):
  Calls Tryz.prog 64 #[.slice a l.length c,.func (.func 65) #[] #[]] w fun e w'=>e=.returned (.bool (l.all aKi))/\w.grownBy w' none:=by
 refine(aPo 65 #[] none a l.length c (aLq l) (fun j=>aKi (l[j]?.getD 0)) (fun _ wr=>w.grownBy wr none) (fun _ _=>True) w ⟨cQ Tryz.func65 rfl rfl,fun j wr hi=>(h.lrow hc hm hz).below (aA hi), ?_, ?_⟩ (by simp[aLq]) (aR _ _) (fun j w1 w2 h1 h2=>aD h1 h2) Q9 (cQ Tryz.func94 rfl rfl)).mono ?_
 .
  exact U22
 .
  intro j r wr vs hr hi Ai _;unfold aLq at hr;rw[zA2]at hr;obtain⟨x,hx,rfl⟩:=zF0.1 hr;rw[hx];obtain⟨y0,us,rfl,rfl,rfl⟩:=Ai;refine(aL8 x wr).mono ?_;rintro e w' ⟨rfl,rfl⟩
  exact⟨rfl,aR _ _,fun _=>hi,fun _=>trivial⟩
 .
  rintro e w' ⟨r,rfl,hg,ht⟩;refine⟨aE ?_,hg⟩;rw[gU ht];exact hZ l 0 aKi
theorem aFe (q:Fp)(a0:Option Addr)(c0:Nat)(a1:Option Addr)(c1:Nat)(w:World)(h0:eG w a0 q.name.length q.name)(hn0:q.name.length<=1073741824)(hc0:q.name.length<=c0)(h1:aG6 w a1 q.kinds.length q.kinds)(hc:q.kinds.length<=c1)(hm:c1<=maxLen)(hz:a1=none->c1=0):
  Calls Tryz.prog 25 #[.agg #[.slice a0 q.name.length c0,.slice a1 q.kinds.length c1]] w fun e w'=>e=.returned (.bool (aDm q))/\w.grownBy w' none:=by
 have y0:=aB w (.cells #[.slice a0 q.name.length c0,.slice a1 q.kinds.length c1] 59 (0,0)) none;have q0:=aN w 59 #[.slice a0 q.name.length c0,.slice a1 q.kinds.length c1] 0 _ rfl;have q1:=aN w 59 #[.slice a0 q.name.length c0,.slice a1 q.kinds.length c1] 1 _ rfl;have HN:=eH a0 _ c0 q.name false _ (h0.below (aA y0)) hn0 hc0;have HK:=aJh a1 c1 q.kinds _ (h1.below (aA y0)) hc hm hz
 have hcn:q.kinds.length<=9223372036854775807:=by unfold maxLen at hm;omega
 have he:Hid (aDm q=(aK q.name false && decide (q.kinds.length<=4) && q.kinds.all aKi)):=rfl
 clear h0 h1;generalize q.kinds.all aKi=r2 at HK he;generalize aK q.name false=r0 at HN he;generalize q.name.length=n0 at *;generalize q.kinds.length=n1 at *;generalize hr1:decide (n1<=4)=r1 at he;go_enter Tryz.func25,Tryz.ntmps25;go_upto_region 1 with fail;generalize w.alloc (.cells #[.slice a0 n0 c0,.slice a1 n1 c1] 59 (0,0))=w1 at *;go_wp2_with fail;refine HN.mono ?_;rintro e w2 ⟨rfl,rfl⟩;clear HN
 cases r0 with
 | false=>
  clear HK;go_wp2;go_ret
  exact⟨aE (by rw[he.out];rfl),y0⟩
 | true=>
  by_cases h4:n1<=4
  .
   have Be:(n1:Int)<=4:=by omega
   have hr:Hid (r1=true):=by show _=_;rw[<-hr1];exact zB3 h4
   clear hr1;go_wp2_with fail;refine HK.mono ?_;rintro e w3 ⟨rfl,hg⟩;go_wp2;go_ret;exact⟨aE Q39,aD y0 hg⟩
  .
   have Be:¬(n1:Int)<=4:=by omega
   have hr:Hid (r1=false):=by show _=_;rw[<-hr1];exact zC2 h4
   clear hr1 HK;go_wp2;go_ret;exact⟨aE Q39,y0⟩
theorem aGq (a:Option Addr)(c:Nat)(l:List Fp)(w:World)(h:bQ w a c 2 (l.map Fp.fl))(hs:∀q ∈ l,q.name.length<=1073741824):
  Calls Tryz.prog 24 #[.slice a l.length c,.func (.func 25) #[] #[]] w fun e w'=>e=.returned (.bool (l.all aDm))/\w.grownBy w' none:=by
 refine(yJ 25 #[] none a l.length c (l.map Fp.fl) (fun j=>aDm (l[j]?.getD ⟨[],[]⟩)) (fun _ wr=>w.grownBy wr none) (fun _ _=>True) w ⟨cQ Tryz.func25 rfl rfl,fun j wr hi=>h.below (aA hi), ?_, ?_⟩ Q9 (aR _ _) (fun j w1 w2 h1 h2=>aD h1 h2) Q9 (cQ Tryz.func63 rfl rfl)).mono ?_
 .
  exact U22
 .
  intro j r wr vs hr hi Ai _;rw[zA2]at hr;obtain⟨x,hx,rfl⟩:=zF0.1 hr;rw[hx];have hxs:=hs x (zA3 hx);obtain⟨y0,us,rfl,⟨a0,c0,rfl,hb0,hc0,_⟩,y1,us2,rfl,⟨a1,c1,rfl,hb1,hc1,hm1,hz1⟩,rfl⟩:=Ai;refine(aFe x a0 c0 a1 c1 wr hb0 hxs hc0 hb1 hc1 hm1 hz1).mono ?_;rintro e w' ⟨rfl,hg⟩
  exact⟨rfl,hg,fun _=>aD hi hg,fun _=>trivial⟩
 .
  rintro e w' ⟨r,rfl,hg,ht⟩;refine⟨aE ?_,hg⟩;rw[gU ht];exact hZ l ⟨[],[]⟩ aDm
theorem rK (f:Fa)(a0:Option Addr)(c0:Nat)(a1:Option Addr)(c1:Nat)(w:World)(h0:eG w a0 f.name.length f.name)(hn0:f.name.length<=1073741824)(hc0:f.name.length<=c0)(h1:bQ w a1 c1 2 (f.procs.map Fp.fl))(hs:∀q ∈ f.procs,q.name.length<=1073741824):
  Calls Tryz.prog 9 #[.agg #[.slice a0 f.name.length c0,.slice a1 f.procs.length c1]] w fun e w'=>e=.returned (.bool (vS f))/\w.grownBy w' none:=by
 have y0:=aB w (.cells #[.slice a0 f.name.length c0,.slice a1 f.procs.length c1] 35 (0,0)) none;have q0:=aN w 35 #[.slice a0 f.name.length c0,.slice a1 f.procs.length c1] 0 _ rfl;have q1:=aN w 35 #[.slice a0 f.name.length c0,.slice a1 f.procs.length c1] 1 _ rfl;have HN:=eH a0 _ c0 f.name true _ (h0.below (aA y0)) hn0 hc0;have HK:=aGq a1 c1 f.procs _ (h1.below (aA y0)) hs
 have hcn:f.procs.length<=9223372036854775807:=by have h2:=h1.most;have h3:=h1.cap;simp only[zB2]at h3;unfold maxLen at h2;omega
 have HU:∀w3,w.grownBy w3 none->Calls Tryz.prog 26 #[.slice a1 f.procs.length c1,.func (.func 27) #[] #[]] w3 fun e w'=>e=.returned (.bool (fU (f.procs.map Fp.name)))/\w.grownBy w' none:=by
  intro w3 h3;refine(qS (cQ Tryz.func120 rfl rfl) a1 c1 f.procs f.procs.length w3 rfl (h1.below (aA h3))).mono ?_;rintro e w' ⟨rfl,hg⟩;exact⟨rfl,aD h3 hg⟩
 have he:Hid (vS f=(aK f.name true && decide (f.procs.length<=8) && f.procs.all aDm && fU (f.procs.map Fp.name))):=rfl
 clear h0 h1 hs;generalize fU (f.procs.map Fp.name)=r3 at HU he;generalize f.procs.all aDm=r2 at HK he;generalize aK f.name true=r0 at HN he;generalize f.name.length=n0 at *;generalize f.procs.length=n1 at *;generalize hr1:decide (n1<=8)=r1 at he;go_enter Tryz.func9,Tryz.ntmps9;go_upto_region 1 with fail;generalize w.alloc (.cells #[.slice a0 n0 c0,.slice a1 n1 c1] 35 (0,0))=w1 at *;go_wp2_with fail;refine HN.mono ?_;rintro e w2 ⟨rfl,rfl⟩;clear HN
 cases r0 with
 | false=>
  clear HK HU;go_wp2;go_ret
  exact⟨aE (by rw[he.out];rfl),y0⟩
 | true=>
  by_cases h4:n1<=8
  .
   have Be:(n1:Int)<=8:=by omega
   have hr:Hid (r1=true):=by show _=_;rw[<-hr1];exact zB3 h4
   clear hr1;go_wp2_with fail;refine HK.mono ?_;rintro e w3 ⟨rfl,hg⟩;replace q1:=aC q1 (aA hg);have Bf:=aD y0 hg;clear HK q0 hg
   cases r2 with
   | false=>
    clear HU;go_wp2;go_ret;exact⟨aE Q39,Bf⟩
   | true=>
    have HU3:=HU w3 Bf;exact U77
  .
   have Be:¬(n1:Int)<=8:=by omega
   have hr:Hid (r1=false):=by show _=_;rw[<-hr1];exact zC2 h4
   clear hr1 HK HU;go_wp2;go_ret;exact⟨aE Q39,y0⟩
end Go.Proofs.YtffphdacgblaoaaGreatDoor

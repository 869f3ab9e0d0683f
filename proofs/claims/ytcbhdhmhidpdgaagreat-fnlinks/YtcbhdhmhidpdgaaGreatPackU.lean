import Derived.Test.YtcbhdhmhidpdgaaGreatWords2
import Derived.Test.YtcbhdhmhidpdgaaGreatPackT
namespace Go.Proofs.YtcbhdhmhidpdgaaGreat
open Go.RowKit
set_option linter.unusedVariables false
set_option linter.unusedSimpArgs false
set_option maxHeartbeats 4000000
theorem aKy (xt:Bool)(xn xl xh xa xp xs:Int):(okB xt xn xl xh xa xp xs && (xt && (xs == 0)))=aGe xt xn xl xh xa xp xs:=by
 cases xt
 .
  simp[aGe]
 .
  by_cases h:xs=0
  .
   subst h;simp[okB,qX,lH,aGe,inR]
  .
   have:(xs == 0)=false:=by simpa using h
   simp[aGe,this]
section
variable{l:List WdM}{x:WdM}
def okW (x:WdM):Bool:=okB x.t x.n x.l x.h x.a x.p x.s
def aFi (x:WdM):Bool:=x.t && (x.s == 0)
def aAl (n:Nat)(x:WdM):Bool:=okW x && !(aFi x && decide ((n:Int)<x.h))
def aCy (l:List WdM):Bool:=decide (l.length<=4000) && l.all (aAl l.length)
theorem aD6{k:Nat}(hx:l[k]?=some x)(hf:aAl l.length x=false):aCy l=false:=by
 rw[aCy,zH3];right;rw[Bool.eq_false_iff];intro h;have:=zF3.1 h x (zA3 hx);rw[hf]at this;exact absurd this A8
theorem zQ{n:Nat}(hl:l.length=n)(h4:n<=4000)(hf:∀j,j<n->∀x,l[j]?=some x->aAl n x=true):aCy l=true:=by
 rw[aCy,hl,zC0];refine⟨by simpa using h4,zF3.2 fun x hx=>?_⟩;obtain⟨j,hj,e⟩:=List.mem_iff_getElem.1 hx;exact hf j A0 x (by rw[zA0 hj,e])
theorem aIm{n k:Nat}(hx:l[k]?=some x)(hf:aAl n x=true)(h:∀j,j<k->∀x,l[j]?=some x->aAl n x=true):∀j,j<k+1->∀x,l[j]?=some x->aAl n x=true:=by
 intro j hj y hy;by_cases e:j=k
 .
  subst e;rw[hx]at hy;obtain rfl:=Option.some.inj hy;exact hf
 .
  exact h j A0 y hy
end
theorem QA53{p:Prop}(h:p:=by
 go_wp2
 go_ret
 exact⟨rfl,(by repeat (first|exact zD2 _ _|assumption|(refine below_drewN ?_ _)|apply Below.drew|(refine Below.alloc ?_ ?_ _)|(refine Below.setCell ?_ ?_ _)|omega|(simp;omega)|simp))⟩):p:=h
theorem M943{p q:Prop}(k:q)(h:Kx q->p:=by
 intro kQ
 refine ta 3 ?_
 refine ta 4 ?_
 try simp only[nrm]
 refine ta 5 ?_
 refine ta 6 ?_
 refine ta 7 ?_
 try simp only[nrm]
 refine ta 8 ?_
 refine ta 9 ?_
 refine ta 10 ?_
 try simp only[nrm]
 refine ta 11 ?_
 refine ta 12 ?_
 exact kQ.o):p:=h ⟨k⟩
theorem xV (n:Nat)(x:WdM):aAl n x=(okW x && !(decide ((n:Int)<x.h))):=by
 cases hok:okW x
 .
  simp[aAl,hok]
 .
  cases hd:aFi x
  .
   have hz:x.h=0:=by
    have hw:aGe x.t x.n x.l x.h x.a x.p x.s=false:=by
     rw[<-aKy,show okB x.t x.n x.l x.h x.a x.p x.s=true from hok,show(x.t && (x.s == 0))=false from hd];rfl
    have h:=hok;rw[okW,okB,hw,Bool.or_false,Bool.or_eq_true]at h;rcases h with h|h
    .
     simp[qX]at h;exact h.1.2.2.1
    .
     simp[lH]at h;exact h.1.2.2.2
   have:¬((n:Int)<x.h):=A0;simp[aAl,hok,hd,this]
  .
   simp[aAl,hok,hd]
set_option maxRecDepth 100000 in
theorem aTj (g:Nat)(a:Option Addr)(n c:Nat)(l:List WdM)(w:World)(hg0:w.heap[g]?=some (.cells #[.slice a n c] 42 (0,0)))(h:aC0 w a n l)(h64:∀x ∈ l,aF7 x.s)(hn:n<=1048576):
  Calls Tryz.prog 21 #[.pointer (some ⟨g,0,none⟩)] w fun e w'=>e=.returned (.bool (aCy l))/\Below w.heap.size w w':=by
 have hl:=h.1;obtain⟨cg,_⟩:=uF hg0;by_cases hbig:4000<n
 .
  have hR:aCy l=false:=by simp[aCy,hl];omega
  rw[hR];clear hR h hl h64;go_enter Tryz.func21,Tryz.ntmps21;exact QA53
 .
  rcases zG0 n with h0|Dj
  .
   subst h0;have hR:aCy l=true:=by have:l=[]:=List.length_eq_zero_iff.1 hl;subst this;rfl
   rw[hR];clear hR h hl hbig h64;go_enter Tryz.func21,Tryz.ntmps21;go_wp2_with fail;refine zH1 1 ?_;rw[zE2];exact QA53
  .
   obtain⟨b,off,rfl,Gn⟩:=h.2 Dj;have HR:=hid h;have Hl:=hid hl;have H64:=hid h64;obtain⟨r,hr⟩:=zx (aCy l);rw[<-hr];have HM:=hid hr;have Et:g<w.heap.size:=(zI3.1 hg0).1;clear h hl Gn hr h64;go_enter Tryz.func21,Tryz.ntmps21;go_wp2_with fail;clear cg;go_loopw [16] (fun i wr=>∃k:Nat,k<=n/\i=.int .i64 k/\Below w.heap.size w wr/\Hid (∀j,j<k->∀x,l[j]?=some x->aAl n x=true)) (fun i _=>n-(intOf i).toNat)
   case atStart=>exact⟨0,zD1 _,rfl,zD2 _ _,fun j hj=>absurd hj A0⟩
   case round=>
    obtain⟨k,hk,rfl,Cg,Ke⟩:=hrel;have Am:=(Cg.block g Et).trans hg0;obtain⟨cg,_⟩:=uF Am;have Cc:=Nat.lt_of_lt_of_le Et Cg.size;by_cases Ad:k<n
    .
     obtain⟨x,hx,p0,p1,p2,p3,p4,p5,p6⟩:=aC0.el (aC0.below (show aC0 w (some ⟨b,off,none⟩) n l from HR.out) Cg) Ad;have HX:=hid hx;have HO:=aM6 x.t x.n x.l x.h x.a x.p x.s (H64.out x (zA3 hx));clear hx;go_wp2_with fail;clear p0 p1 p2 p3 p4 p5 p6;obtain⟨wA,hA⟩:=zx (wr.alloc (.cells #[.bool x.t,.int .i64 x.n,.int .i64 x.l,.int .i64 x.h,.int .i64 x.a,.int .i64 x.p,.int .i64 x.s] 39));rw[<-hA];have hbA:Below w.heap.size w wA:=by rw[hA];exact Cg.alloc Cg.size _
     have cgA:wA.cell? ⟨g,0,none⟩=some (.slice (some ⟨b,off,none⟩) n c):=by rw[hA,bI _ _ (by exact Cc)];exact cg
     have Wg:wA.cell? ⟨wr.heap.size,0,none⟩=some (.bool (x.t)):=by rw[hA];simp[go_sem]
     have Wf:wA.cell? ⟨wr.heap.size,1,none⟩=some (.int .i64 (x.n)):=by rw[hA];simp[go_sem]
     have We:wA.cell? ⟨wr.heap.size,2,none⟩=some (.int .i64 (x.l)):=by rw[hA];simp[go_sem]
     have Wc:wA.cell? ⟨wr.heap.size,3,none⟩=some (.int .i64 (x.h)):=by rw[hA];simp[go_sem]
     have Wb:wA.cell? ⟨wr.heap.size,4,none⟩=some (.int .i64 (x.a)):=by rw[hA];simp[go_sem]
     have Wa:wA.cell? ⟨wr.heap.size,5,none⟩=some (.int .i64 (x.p)):=by rw[hA];simp[go_sem]
     have Vz:wA.cell? ⟨wr.heap.size,6,none⟩=some (.int .i64 (x.s)):=by rw[hA];simp[go_sem]
     have Au:wr.heap.size<wA.heap.size:=by rw[hA];simp
     have Nj:=Nat.lt_trans Cc Au;clear hA cg Am Cc;generalize wr.heap.size=gx at *;have Ao:wA.drew.cell? ⟨g,0,none⟩=some (.slice (some ⟨b,off,none⟩) n c)/\wA.drew.cell? ⟨gx,0,none⟩=some (.bool x.t)/\wA.drew.cell? ⟨gx,1,none⟩=some (.int .i64 x.n)/\wA.drew.cell? ⟨gx,2,none⟩=some (.int .i64 x.l)/\wA.drew.cell? ⟨gx,3,none⟩=some (.int .i64 x.h)/\wA.drew.cell? ⟨gx,4,none⟩=some (.int .i64 x.a)/\wA.drew.cell? ⟨gx,5,none⟩=some (.int .i64 x.p)/\wA.drew.cell? ⟨gx,6,none⟩=some (.int .i64 x.s):=⟨cgA,Wg,Wf,We,Wc,Wb,Wa,Vz⟩
     have Bh:∀{wl:World},Below wA.drew.heap.size wA.drew wl->wl.cell? ⟨g,0,none⟩=some (.slice (some ⟨b,off,none⟩) n c)/\wl.cell? ⟨gx,0,none⟩=some (.bool x.t)/\wl.cell? ⟨gx,1,none⟩=some (.int .i64 x.n)/\wl.cell? ⟨gx,2,none⟩=some (.int .i64 x.l)/\wl.cell? ⟨gx,3,none⟩=some (.int .i64 x.h)/\wl.cell? ⟨gx,4,none⟩=some (.int .i64 x.a)/\wl.cell? ⟨gx,5,none⟩=some (.int .i64 x.p)/\wl.cell? ⟨gx,6,none⟩=some (.int .i64 x.s):=by
      intro wl hb;have e1:∀j,wl.cell? ⟨gx,j,none⟩=wA.drew.cell? ⟨gx,j,none⟩:=fun j=>hb.cell Au;have e2:∀j,wl.cell? ⟨g,j,none⟩=wA.drew.cell? ⟨g,j,none⟩:=fun j=>hb.cell Nj;simp only[e1,e2];exact Ao
     have HST:Hid _:=@Bh;clear Bh cgA Wg Wf We Wc Wb Wa Vz;cases hok:okB x.t x.n x.l x.h x.a x.p x.s
     .
      rw[hok]at HO;refine zK0 (S:=fun wx=>wx.cell? ⟨g,0,none⟩=some (.slice (some ⟨b,off,none⟩) n c)/\wx.cell? ⟨gx,0,none⟩=some (.bool x.t)/\wx.cell? ⟨gx,1,none⟩=some (.int .i64 x.n)/\wx.cell? ⟨gx,2,none⟩=some (.int .i64 x.l)/\wx.cell? ⟨gx,3,none⟩=some (.int .i64 x.h)/\wx.cell? ⟨gx,4,none⟩=some (.int .i64 x.a)/\wx.cell? ⟨gx,5,none⟩=some (.int .i64 x.p)/\wx.cell? ⟨gx,6,none⟩=some (.int .i64 x.s)) A4 Ao (fun Aa=>?_);refine ta 0 ?_;try simp only[nrm]
      refine ra 1 fun K hK=>?_;go_simp
      (with_reducible refine(HO _).mono ?_)
      rintro e wa ⟨rfl,Pf⟩;have HSa:=HST.out Pf;go_wp2_with fail;refine hK.out _ _ (HSa) (fun Aa=>?_);clear hK K;try simp only[nrm]
      refine ta 2 ?_;refine ta 3 ?_;try simp only[nrm]
      refine sa 4 ?_;refine sa 5 ?_;refine sa 6 ?_;refine sa 7 ?_;refine sa 8 ?_;refine sa 9 ?_;refine sa 10 ?_;refine sa 11 ?_;try simp only[nrm]
      refine ta 12 ?_;try simp only[nrm]
      refine zK1 A4 ?_ _;go_wp2;go_ret;exact⟨rb (by rw[HM.out];exact(aD6 HX.out (by rw[Hl.out,xV];simp[okW,hok])).symm),hbA.drew.trans (Pf.mono hbA.size)⟩
     .
      rw[hok]at HO;by_cases hh:(n:Int)<x.h
      .
       refine zK0 (S:=fun wx=>wx.cell? ⟨g,0,none⟩=some (.slice (some ⟨b,off,none⟩) n c)/\wx.cell? ⟨gx,0,none⟩=some (.bool x.t)/\wx.cell? ⟨gx,1,none⟩=some (.int .i64 x.n)/\wx.cell? ⟨gx,2,none⟩=some (.int .i64 x.l)/\wx.cell? ⟨gx,3,none⟩=some (.int .i64 x.h)/\wx.cell? ⟨gx,4,none⟩=some (.int .i64 x.a)/\wx.cell? ⟨gx,5,none⟩=some (.int .i64 x.p)/\wx.cell? ⟨gx,6,none⟩=some (.int .i64 x.s)) A4 Ao (fun Aa=>?_);refine ta 0 ?_;try simp only[nrm]
       refine ra 1 fun K hK=>?_;go_simp
       (with_reducible refine(HO _).mono ?_)
       rintro e wa ⟨rfl,Pf⟩;have HSa:=HST.out Pf;go_wp2_with fail;refine hK.out _ _ (HSa) (fun Aa=>?_);clear hK K;try simp only[nrm]
       refine ta 2 ?_;refine M943 ?_;try simp only[nrm]
       refine zK1 A4 ?_ _;go_wp2;go_ret;exact⟨rb (by rw[HM.out];exact(aD6 HX.out (by rw[Hl.out,xV];simp[okW,hok,hh])).symm),hbA.drew.trans (Pf.mono hbA.size)⟩
      .
       refine zK0 (S:=fun wx=>wx.cell? ⟨g,0,none⟩=some (.slice (some ⟨b,off,none⟩) n c)/\wx.cell? ⟨gx,0,none⟩=some (.bool x.t)/\wx.cell? ⟨gx,1,none⟩=some (.int .i64 x.n)/\wx.cell? ⟨gx,2,none⟩=some (.int .i64 x.l)/\wx.cell? ⟨gx,3,none⟩=some (.int .i64 x.h)/\wx.cell? ⟨gx,4,none⟩=some (.int .i64 x.a)/\wx.cell? ⟨gx,5,none⟩=some (.int .i64 x.p)/\wx.cell? ⟨gx,6,none⟩=some (.int .i64 x.s)) A4 Ao (fun Aa=>?_);refine ta 0 ?_;try simp only[nrm]
       refine ra 1 fun K hK=>?_;go_simp
       (with_reducible refine(HO _).mono ?_)
       rintro e wa ⟨rfl,Pf⟩;have HSa:=HST.out Pf;go_wp2_with fail;refine hK.out _ _ (HSa) (fun Aa=>?_);clear hK K;try simp only[nrm]
       refine ta 2 ?_;refine M943 ?_;try simp only[nrm]
       refine zK1 A4 ?_ _;have Pq:=hbA.drew.trans (Pf.mono hbA.size);have Tr:aAl n x=true:=by rw[xV];simp[okW,hok,hh]
       go_wp2;go_roundw
       case rel=>exact⟨k+1,by omega,by go_num,Pq,aIm HX.out Tr Ke.out⟩
       case measure=>simp[intOf];omega
    .
     go_wp2;go_ret;have Bz:k=n:=A0;subst Bz;exact⟨rb (by rw[HM.out];exact(zQ Hl.out A0 Ke.out).symm),Cg⟩
set_option maxRecDepth 100000 in
theorem aH6 (a:Option Addr)(n c:Nat)(l:List WdM)(w:World)(h:aC0 w a n l)(h64:∀x ∈ l,aF7 x.s)(hn:n<=1048576):
  Calls Tryz.prog 7 #[.agg #[.slice a n c]] w fun e w'=>e=.returned (.bool (aCy l))/\Below w.heap.size w w':=by
 have hB:Below w.heap.size w (w.alloc (.cells #[.slice a n c] 42)):=(by repeat (first|exact zD2 _ _|assumption|(refine below_drewN ?_ _)|apply Below.drew|(refine Below.alloc ?_ ?_ _)|(refine Below.setCell ?_ ?_ _)|omega|(simp;omega)|simp))
 have H:=aTj w.heap.size a n c l (w.alloc (.cells #[.slice a n c] 42)) (zJ0 w _) (h.below hB) h64 hn;clear h;generalize aCy l=r at *;go_enter Tryz.func7,Tryz.ntmps7;go_wp2_with fail;refine H.mono ?_;rintro e w1 ⟨rfl,hb1⟩;have Tx:Below w.heap.size w w1:=hB.trans (hb1.mono A9);clear H hB hb1;go_wp2;go_ret;exact⟨rfl,Tx⟩
end Go.Proofs.YtcbhdhmhidpdgaaGreat

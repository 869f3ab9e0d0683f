import Derived.Test.YtffphdacgblaoaaGreatDoorAll
import Derived.Test.YtffphdacgblaoaaGreatDoorPackC
namespace Go.Proofs.YtffphdacgblaoaaGreatDoor
open Go.RowKit
set_option linter.unusedVariables false
set_option linter.unusedSimpArgs false
set_option maxRecDepth 100000
def ix (l:List (List Int))(x:List Int):Option Nat:=l.findIdx? fun y=>decide (y=x)
def ixI (l:List (List Int))(x:List Int):Int:=match ix l x with
 | some i=>i
 | none=>-1
theorem aVr {l:List (List Int)}{x:List Int}(h:∀m y,m<l.length->l[m]?=some y->y ≠ x):ix l x=none:=by
 unfold ix;rw[List.findIdx?_eq_none_iff];intro y hy;obtain⟨m,hm,rfl⟩:=List.mem_iff_getElem.1 hy;exact zC2 (h m _ hm (zA0 hm))
theorem aFd {l:List (List Int)}{x:List Int}{j:Nat}(h:∀m y,m<j->l[m]?=some y->y ≠ x)(hj:l[j]?=some x):ix l x=some j:=by
 unfold ix;obtain⟨hl,e⟩:=zC1.1 hj;rw[List.findIdx?_eq_some_iff_getElem]
 refine⟨hl,by simp[e],fun m hm=>?_⟩
 have:=h m _ hm (zA0 Q0)
 simpa using this
theorem aUw {l:List (List Int)}{x:List Int}(h:ix l x=none):ixI l x = -1:=by unfold ixI;rw[h]
theorem aT5 {l:List (List Int)}{x:List Int}{j:Nat}(h:ix l x=some j):ixI l x=j:=by unfold ixI;rw[h]
theorem aWh {l:List (List Int)}{x:List Int}:ix l x=none ↔ x ∉ l:=by
 unfold ix;rw[List.findIdx?_eq_none_iff]
 exact⟨fun h hx=>by have:=h x hx;simp at this,fun h y hy=>zC2 (fun e=>h (e ▸ hy))⟩
theorem aWo {l:List (List Int)}{x:List Int}{j:Nat}(h:ix l x=some j):l[j]?=some x/\∀m y,m<j->l[m]?=some y->y ≠ x:=by
 unfold ix at h;rw[List.findIdx?_eq_some_iff_getElem]at h;obtain⟨hl,e,hm⟩:=h
 refine⟨by rw[zA0 hl];simpa using e,fun m y hy he=>?_⟩
 have:=hm m hy
 rw[zA0 Q0]at he;simp only[zG2]at he;rw[<-he]
 simpa using this
theorem bQ.len9 {w:World}{a:Option Addr}{c k:Nat}{rs:List (List Fl)}(h:bQ w a c k rs):rs.length<=9223372036854775807:=by have h1:=h.cap;have h2:=h.most;unfold maxLen at h2;omega
set_option maxHeartbeats 2000000 in
theorem aUc (q:List Fa)(b:Option Addr)(n d:Nat)(w:World)(h:bQ w b d 2 (q.map Fa.fl))(hl:q.length=n)(a:Option Addr)(k c:Nat)(x:List Int)(hx:eG w a k x):
  Calls Tryz.prog 140 #[.slice b n d,.slice a k c] w fun e w'=>e=.returned (.int .i64 (ixI (q.map Fa.name) x))/\w.grownBy w' none:=by
 have hn9:=h.len9
 have hln:(q.map Fa.fl).length=q.length:=by simp[dC]
 rw[hln,hl]at hn9;have HN:=hid hl;have HL:=hid h;have HX:=hid hx;clear h hx hl hln;go_enter Tryz.func140,Tryz.ntmps140;go_wp2_with fail
 go_loopw [5] (fun i wr=>∃j:Nat,j<=n/\i=.int .i64 j/\Hid (∀m y,m<j->(q.map Fa.name)[m]?=some y->y ≠ x)/\Hid (w.grownBy wr none)) (fun i _=>n-(intOf i).toNat)
 case atStart=>exact⟨0,zD1 _,rfl,(by show ∀_ _,_;omega),aR _ _⟩
 case round=>
  obtain⟨j,hj,rfl,hno,Hb⟩:=hrel;have hb:=Hb.out
  have Bf:w.grownBy wr none:=hb
  have Hg:=hid Bf
  by_cases Aj:j<n
  .
   obtain⟨y,hy⟩:∃y,(q.map Fa.name)[j]?=some y:=⟨_,zA0 (by rw[show(q.map Fa.name).length=(q).length by simp,HN.out];exact Aj)⟩
   obtain⟨z,hz,rfl⟩:∃z,(q)[j]?=some z/\z.name=y:=by
    rw[zA2]at hy;exact zF0.1 hy
   have hrj:(q.map Fa.fl)[j]?=some z.fl:=by rw[zA2,hz];rfl
   obtain⟨b,off,rfl⟩:=bQ.addr HL.out (by rw[show(q.map Fa.fl).length=(q).length by simp[dC],HN.out];omega)
   obtain⟨vs,Ai,Ab⟩:=((bQ.below HL.out (aA Bf)).el hrj).vals;obtain⟨z0,us,rfl,⟨az,cz,rfl,hbz,_⟩,_⟩:=Ai;have r0:=Ab 0 _ rfl;rw[zG1]at r0
   have kc1:=fun d=>bP cz (hbz.drewN d)
   have kc2:=fun d=>bP c (eG.drewN (eG.below HX.out (aA Bf)) d)
   have HE:=hid (aK2 hbz.2.1 HX.out.2.1)
   have HY:Hid ((q.map Fa.name)[j]?=some z.name):=by show _=_;rw[zA2,hz];rfl
   have hj':(j:Int)<(n:Int):=Q0;clear Ab hz hy hrj hbz hb Hb Bf
   by_cases he:z.name=x
   .
    have hbq:=HE.out.trans (zB3 he)
    have HF:Hid (ix (q.map Fa.name) x=some j):=aFd hno.out (he ▸ HY.out)
    clear he HE HY;go_wp2_with fail
    go_quiet (fail)
    go_wp2;go_ret;exact⟨gD (aT5 HF.out).symm,aW (below_drewN (aA Hg.out) _) _⟩
   .
    have hbq:=HE.out.trans (zC2 he)
    have HF:Hid (∀m y,m<j+1->(q.map Fa.name)[m]?=some y->y ≠ x):=fun m y hm hy=>by
     by_cases e:m=j
     .
      subst e;have:=HY.out;rw[hy]at this;exact fun e2=>he (by rw[<-Option.some.inj this];exact e2)
     .
      exact hno.out m y Q0 hy
    have Hg2:=hid Hg;clear he HE HY hno;go_wp2_with fail
    go_quiet (fail)
    go_wp2;go_roundw
    case rel=>exact⟨j+1,by omega,by go_num,HF,aW (below_drewN (aA Hg2.out) _) _⟩
    case measure=>simp[intOf];omega
  .
   have:n=j:=Q0
   subst this
   have HF:Hid (ix (q.map Fa.name) x=none):=aVr (by rw[show(q.map Fa.name).length=(q).length by simp,HN.out];exact hno.out)
   clear hb Hb Bf hno;go_wp2;go_ret;exact⟨gD (aUw HF.out).symm,Hg.out⟩
end Go.Proofs.YtffphdacgblaoaaGreatDoor

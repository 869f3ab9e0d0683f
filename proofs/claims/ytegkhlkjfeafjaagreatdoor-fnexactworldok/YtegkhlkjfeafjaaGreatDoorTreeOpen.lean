import Derived.Test.YtegkhlkjfeafjaaGreatDoorTreeSz
import Derived.Deep.Slices
import Derived.WideShapes
import Derived.ChangeArms
import Derived.ChangeSlices
namespace Go.Proofs.YtegkhlkjfeafjaaGreatDoor
open Go.RowKit Go.WideShapes Go.ChangeShapes
set_option linter.unusedVariables false
set_option linter.unusedSimpArgs false
set_option maxRecDepth 100000
theorem V1{p:Prop}(h:p:=by kernel_rfl):p:=h
theorem U78{p:Prop}(h:p:=by
 have h0:=hc 0 V6
 have hspot:spot=none:=by simpa [Addr.add] using World.cell?_spot h0
 subst hspot
 refine⟨b,off,rfl,fun i hi=>?_⟩
 have:=hc i V6
 rw[Addr.add_lit]at this
 rw[this]
 have e:(zs.take len)[i]?.getD 0=zs.getD i 0:=by simp[List.getD,hi]
 rw[e]):p:=h
theorem U130{p:Prop}(h:p:=by
 exact⟨_,_,rfl,f0,_,_,rfl,f1,rfl⟩):p:=h
theorem U189{p:Prop}(h:p:=by
 exact⟨_,_,rfl,f0,_,_,rfl,f1,_,_,rfl,f2,_,_,rfl,f3,_,_,rfl,f4,rfl⟩):p:=h
theorem U132{p:Prop}(h:p:=by
 exact⟨_,[],e,none,0,rfl,⟨rfl,by simp,fun h=>absurd h V15⟩,by simp,by unfold maxLen;simp,fun _=>rfl⟩):p:=h
theorem aDo {H:Type}{enc:TypeId × Value->H}{w:World}{base:Nat}{spare:Nat->Bool}{held:Bool}{fuel:Nat}{cs:List Value}{y:DataW H × List MemPlace}
  (h:DataW.trod enc Tryz.prog w base spare held fuel 43 cs=some y):∃v l,cs=[v]/\(Fl.b l).Rd w v:=by
 have us:Tryz.prog.underlying 43=some (.slice 5):=by kernel_rfl
 have ui:Tryz.prog.underlying 5=some (.int .u8):=by kernel_rfl
 rcases open_ints us ui V1 h with⟨e,_⟩|⟨⟨b,off,spot⟩,len,cap,zs,e,_,hl,hm,hz,_,hc,hwf⟩
 .
  exact U132
 .
  have hlz:len<=zs.length:=by rw[hz];split <;> omega
  have hlen:(zs.take len).length=len:=by rw[List.length_take,Nat.min_eq_left hlz]
  refine⟨_,zs.take len,e,some ⟨b,off,spot⟩,cap,by rw[hlen], ?_,by rw[hlen];exact hl,hm,by simp⟩
  rw[hlen]
  refine⟨hlen,fun x hx=>bounds_u8 (hwf x (List.mem_of_mem_take hx)),fun hp=>?_⟩
  exact U78
theorem aM0 {H:Type}{enc:TypeId × Value->H}{w:World}{base:Nat}{spare:Nat->Bool}{held:Bool}{fuel:Nat}{cs:List Value}{y:DataW H × List MemPlace}
  (h:DataW.trod enc Tryz.prog w base spare held fuel 60 cs=some y):∃v l,cs=[v]/\(Fl.i l).Rd w v:=by
 have us:Tryz.prog.underlying 60=some (.slice 3):=by kernel_rfl
 have ui:Tryz.prog.underlying 3=some (.int .i64):=by kernel_rfl
 rcases open_ints us ui V1 h with⟨e,_⟩|⟨⟨b,off,spot⟩,len,cap,zs,e,_,hl,hm,hz,_,hc,hwf⟩
 .
  exact U132
 .
  have hlz:len<=zs.length:=by rw[hz];split <;> omega
  have hlen:(zs.take len).length=len:=by rw[List.length_take,Nat.min_eq_left hlz]
  refine⟨_,zs.take len,e,some ⟨b,off,spot⟩,cap,by rw[hlen], ?_,by rw[hlen];exact hl,hm,by simp⟩
  rw[hlen]
  refine⟨hlen,fun x hx=>bounds_i64 (hwf x (List.mem_of_mem_take hx)),fun hp=>?_⟩
  exact U78
theorem aJq {H:Type}{enc:TypeId × Value->H}{w:World}{base:Nat}{spare:Nat->Bool}{held:Bool}{fuel:Nat}{cs:List Value}{y:DataW H × List MemPlace}
  (h:DataW.trod enc Tryz.prog w base spare held fuel 3 cs=some y):∃v x,cs=[v]/\(Fl.n x).Rd w v:=by
 have ui:Tryz.prog.underlying 3=some (.int .i64):=by kernel_rfl
 obtain⟨n,e,_,f⟩:=DataW.trod_int ui h;exact⟨_,n,e,rfl⟩
theorem aMr {H:Type}{enc:TypeId × Value->H}{w:World}{base:Nat}{spare:Nat->Bool}{held:Bool}{fuel:Nat}{cs:List Value}{y:DataW H × List MemPlace}
  (h:DataW.trod enc Tryz.prog w base spare held fuel 4 cs=some y):∃v x,cs=[v]/\(Fl.t x).Rd w v:=by
 have ui:Tryz.prog.underlying 4=some .bool:=by kernel_rfl
 obtain⟨n,e,_⟩:=DataW.trod_bool ui h;exact⟨_,n,e,rfl⟩
theorem aKf {w:World}{b:Nat}:∀{r:List Fl} {vs:List Value} {off:Nat},aO w r vs->(∀j,j<r.length->w.cell? ⟨b,off+j,none⟩=vs[j]?)->jD w b off r:=by
 intro r
 induction r with
 | nil=>intro vs off _ _;exact trivial
 | cons f r ih=>
  intro vs off h hc;obtain⟨v,us,rfl,h1,h2⟩:=h
  refine⟨⟨v,by have:=hc 0 V15;simpa using this,h1⟩,ih h2 fun j hj=>?_⟩
  have:=hc (j+1) (by simpa using hj)
  rw[show off+(j+1)=off+1+j by omega]at this
  simpa using this
theorem aHv {w:World}{b K:Nat}:∀{rs:List (List Fl)} {off:Nat},(∀i r,rs[i]?=some r->jD w b (off+i*K) r)->fE w b K off rs:=by
 intro rs
 induction rs with
 | nil=>intro off _;exact trivial
 | cons r rs ih=>
  intro off h
  refine⟨by have:=h 0 r rfl;simpa using this,ih fun i r' hr=>?_⟩
  have:=h (i+1) r' (by simpa using hr)
  rw[show off+(i+1)*K=off+K+i*K by rw[Nat.add_mul];omega]at this
  exact this
theorem aAr {H:Type}{enc:TypeId × Value->H}{w:World}{base:Nat}{spare:Nat->Bool}{held:Bool}{fuel:Nat}{cs:List Value}{y:DataW H × List MemPlace}{α:Type}[Inhabited α](fl:α->List Fl){ST T K:Nat}
  (us:Tryz.prog.underlying ST=some (.slice T)) (hcw:Tryz.prog.cellsOf T=K) (hK:0<K) (hfl:∀x,(fl x).length=K)
  (hop:∀n,n<fuel->∀(cs:List Value) (y:DataW H × List MemPlace),DataW.trod enc Tryz.prog w base spare held n T cs=some y->∃x,aO w (fl x) cs)
  (h:DataW.trod enc Tryz.prog w base spare held fuel ST cs=some y):∃(v:Value) (l:List α),cs=[v]/\(Fl.l K (l.map fl)).Rd w v:=by
 rcases DataW.trod_slice us h with⟨e,_⟩|⟨a,len,cap,elems,rest,n,hfu,e,_,_,hl,hm,hlen,hel,_,_⟩
 .
  exact⟨_,[],e,none,0,rfl,by simp,by unfold maxLen;simp,fun _=>rfl,by simp⟩
 .
  rw[hcw]at hel
  obtain⟨X,hX⟩:=Deep.choose_lt (α:=α) (n:=len) (p:=fun i x=>∃vs,aO w (fl x) vs/\∀j,j<K->w.cell? (a.add (i*K+j))=vs[j]?) (fun i hi=>by
   have h0:=hel i hi;rw[zA0 V6]at h0;obtain⟨cs',h1,h2⟩:=Option.bind_eq_some_iff.1 h0;obtain⟨x,hx⟩:=hop n V6 _ _ h2;obtain⟨_,_,hcell⟩:=World.cells?_some h1
   refine⟨x,cs',hx,fun j hj=>?_⟩
   have:=hcell j hj
   rwa [Deep.add_add]at this)
  have hl2:((List.range len).map X).length=len:=by simp
  refine⟨_,(List.range len).map X,e,some a,cap,by simp,by simpa using hl,hm,by simp,fun hp=>?_⟩
  have hp:0<len:=by simpa using hp
  obtain⟨b,off,spot⟩:=a;obtain⟨vs,Ad,hc0⟩:=hX 0 hp
  have hv0:∃u,vs[0]?=some u:=by
   have h1:0<(fl (X 0)).length:=by rw[hfl];exact hK
   match hr:fl (X 0),h1 with
   | f :: r,_=>
    rw[hr]at Ad;obtain⟨v,us,rfl,_,_⟩:=Ad;exact⟨v,rfl⟩
  obtain⟨u,hu⟩:=hv0;have h0:=hc0 0 hK;rw[hu]at h0
  have hspot:spot=none:=by simpa [Addr.add] using World.cell?_spot h0
  subst hspot
  refine⟨b,off,rfl,aHv fun i r hr=>?_⟩
  have hi:i<len:=by have:=(zC1.1 hr).1;simpa using this
  rw[zA2,zA2,List.getElem?_range hi]at hr;simp only[Option.map_some,zG3]at hr;subst hr;obtain⟨vs,Ad,Ab⟩:=hX i hi
  refine aKf Ad fun j hj=>?_
  have:=Ab j (by rw[<-hfl (X i)];exact hj)
  rw[Addr.add_lit]at this;rw[Nat.add_assoc];exact this
theorem aMq {H:Type}{enc:TypeId × Value->H}{w:World}{base:Nat}{spare:Nat->Bool}{held:Bool}{fuel:Nat}{cs:List Value}{y:DataW H × List MemPlace}
  (h:DataW.trod enc Tryz.prog w base spare held fuel 44 cs=some y):∃v l,cs=[v]/\(Fl.l 1 (bH l)).Rd w v:=
 aAr (K:=1) (fun x:List Int=>[Fl.b x]) V1 V1 V6 (fun _=>rfl) (fun n hn cs y h=>by
  obtain⟨v,l,e,hr⟩:=aDo h
  exact⟨l,v,[],e,hr,rfl⟩) h
instance:Inhabited Va:=⟨Va.mk [] 0⟩
theorem aJr {H:Type}{enc:TypeId × Value->H}{w:World}{base:Nat}{spare:Nat->Bool}{held:Bool}:∀(fuel:Nat) (cs:List Value) (y:DataW H × List MemPlace),DataW.trod enc Tryz.prog w base spare held fuel 164 cs=some y->∃x:Va,aO w x.fl cs:=by
 intro fuel;intro cs y h
 have ht:Tryz.prog.underlying 164=some (.struct (Tryz.prog.fieldsOf 164)):=by kernel_rfl
 have hf : Tryz.prog.fieldsOf 164 = #[⟨ "Name", 43, 0, false, "", "", 0⟩, ⟨ "Size", 3, 1, false, "", "", 24⟩] := by kernel_rfl
 have hc:Tryz.prog.cellsOf 164=2:=by kernel_rfl
 have c0:Tryz.prog.cellsOf 43=1:=by kernel_rfl
 have c1:Tryz.prog.cellsOf 3=1:=by kernel_rfl
 rw[hf]at ht;obtain⟨xs,k,hk,_,hlen,hxl,hg⟩:=DataW.trod_struct ht h;rw[hc]at hlen
 match cs,hlen with
 | [v0,v1],_=>
  match xs,hxl with
  | [y0,y1],_=>
   have g0:=hg 0 _ rfl;have g1:=hg 1 _ rfl
   simp[c0,c1]at g0 g1
   obtain⟨u0,l0,e0,f0⟩:=aDo g0;obtain⟨u1,l1,e1,f1⟩:=aJq g1;simp only[zK2,and_true]at e0 e1;subst e0 e1;refine⟨Va.mk l0 l1, ?_⟩;simp only[Va.fl,aJ,aM];exact U130
instance:Inhabited Pa:=⟨Pa.mk [] false⟩
theorem aDx {H:Type}{enc:TypeId × Value->H}{w:World}{base:Nat}{spare:Nat->Bool}{held:Bool}:∀(fuel:Nat) (cs:List Value) (y:DataW H × List MemPlace),DataW.trod enc Tryz.prog w base spare held fuel 231 cs=some y->∃x:Pa,aO w x.fl cs:=by
 intro fuel;intro cs y h
 have ht:Tryz.prog.underlying 231=some (.struct (Tryz.prog.fieldsOf 231)):=by kernel_rfl
 have hf : Tryz.prog.fieldsOf 231 = #[⟨ "Name", 43, 0, false, "", "", 0⟩, ⟨ "Arr", 4, 1, false, "", "", 24⟩] := by kernel_rfl
 have hc:Tryz.prog.cellsOf 231=2:=by kernel_rfl
 have c0:Tryz.prog.cellsOf 43=1:=by kernel_rfl
 have c1:Tryz.prog.cellsOf 4=1:=by kernel_rfl
 rw[hf]at ht;obtain⟨xs,k,hk,_,hlen,hxl,hg⟩:=DataW.trod_struct ht h;rw[hc]at hlen
 match cs,hlen with
 | [v0,v1],_=>
  match xs,hxl with
  | [y0,y1],_=>
   have g0:=hg 0 _ rfl;have g1:=hg 1 _ rfl
   simp[c0,c1]at g0 g1
   obtain⟨u0,l0,e0,f0⟩:=aDo g0;obtain⟨u1,l1,e1,f1⟩:=aMr g1;simp only[zK2,and_true]at e0 e1;subst e0 e1;refine⟨Pa.mk l0 l1, ?_⟩;simp only[Pa.fl,aJ,aM];exact U130
instance:Inhabited Fp:=⟨Fp.mk [] []⟩
theorem tS {H:Type}{enc:TypeId × Value->H}{w:World}{base:Nat}{spare:Nat->Bool}{held:Bool}:∀(fuel:Nat) (cs:List Value) (y:DataW H × List MemPlace),DataW.trod enc Tryz.prog w base spare held fuel 171 cs=some y->∃x:Fp,aO w x.fl cs:=by
 intro fuel;intro cs y h
 have ht:Tryz.prog.underlying 171=some (.struct (Tryz.prog.fieldsOf 171)):=by kernel_rfl
 have hf : Tryz.prog.fieldsOf 171 = #[⟨ "Name", 43, 0, false, "", "", 0⟩, ⟨ "Kinds", 60, 1, false, "", "", 24⟩] := by kernel_rfl
 have hc:Tryz.prog.cellsOf 171=2:=by kernel_rfl
 have c0:Tryz.prog.cellsOf 43=1:=by kernel_rfl
 have c1:Tryz.prog.cellsOf 60=1:=by kernel_rfl
 rw[hf]at ht;obtain⟨xs,k,hk,_,hlen,hxl,hg⟩:=DataW.trod_struct ht h;rw[hc]at hlen
 match cs,hlen with
 | [v0,v1],_=>
  match xs,hxl with
  | [y0,y1],_=>
   have g0:=hg 0 _ rfl;have g1:=hg 1 _ rfl
   simp[c0,c1]at g0 g1
   obtain⟨u0,l0,e0,f0⟩:=aDo g0;obtain⟨u1,l1,e1,f1⟩:=aM0 g1;simp only[zK2,and_true]at e0 e1;subst e0 e1;refine⟨Fp.mk l0 l1, ?_⟩;simp only[Fp.fl,aJ,aM];exact U130
instance:Inhabited Fa:=⟨Fa.mk [] []⟩
theorem aG1 {H:Type}{enc:TypeId × Value->H}{w:World}{base:Nat}{spare:Nat->Bool}{held:Bool}:∀(fuel:Nat) (cs:List Value) (y:DataW H × List MemPlace),DataW.trod enc Tryz.prog w base spare held fuel 82 cs=some y->∃x:Fa,aO w x.fl cs:=by
 intro fuel;intro cs y h
 have ht:Tryz.prog.underlying 82=some (.struct (Tryz.prog.fieldsOf 82)):=by kernel_rfl
 have hf : Tryz.prog.fieldsOf 82 = #[⟨ "Name", 43, 0, false, "", "", 0⟩, ⟨ "Procs", 80, 1, false, "", "", 24⟩] := by kernel_rfl
 have hc:Tryz.prog.cellsOf 82=2:=by kernel_rfl
 have c0:Tryz.prog.cellsOf 43=1:=by kernel_rfl
 have c1:Tryz.prog.cellsOf 80=1:=by kernel_rfl
 rw[hf]at ht;obtain⟨xs,k,hk,_,hlen,hxl,hg⟩:=DataW.trod_struct ht h;rw[hc]at hlen
 match cs,hlen with
 | [v0,v1],_=>
  match xs,hxl with
  | [y0,y1],_=>
   have g0:=hg 0 _ rfl;have g1:=hg 1 _ rfl
   simp[c0,c1]at g0 g1
   obtain⟨u0,l0,e0,f0⟩:=aDo g0
   obtain⟨u1,l1,e1,f1⟩:=aAr (K:=2) Fp.fl V1 V1 V6 (fun x=>by rfl) (fun n hn cs y h=>tS n cs y h) g1
   simp only[zK2,and_true]at e0 e1;subst e0 e1;refine⟨Fa.mk l0 l1, ?_⟩;simp only[Fa.fl,aJ,aM];exact U130
instance:Inhabited Ex:=⟨Ex.mk 0 0 [] [] []⟩
theorem aG2 {H:Type}{enc:TypeId × Value->H}{w:World}{base:Nat}{spare:Nat->Bool}{held:Bool}:∀(fuel:Nat) (cs:List Value) (y:DataW H × List MemPlace),DataW.trod enc Tryz.prog w base spare held fuel 270 cs=some y->∃x:Ex,aO w x.fl cs:=by
 intro fuel
 induction fuel using Nat.strongRecOn with
 | _ fuel ih=>
  intro cs y h
  have ht:Tryz.prog.underlying 270=some (.struct (Tryz.prog.fieldsOf 270)):=by kernel_rfl
  have hf : Tryz.prog.fieldsOf 270 = #[⟨ "Kind", 3, 0, false, "", "", 0⟩, ⟨ "N", 3, 1, false, "", "", 8⟩, ⟨ "Mod", 43, 2, false, "", "", 16⟩, ⟨ "Name", 43, 3, false, "", "", 40⟩, ⟨ "Kids", 233, 4, false, "", "", 64⟩] := by kernel_rfl
  have hc:Tryz.prog.cellsOf 270=5:=by kernel_rfl
  have c0:Tryz.prog.cellsOf 3=1:=by kernel_rfl
  have c1:Tryz.prog.cellsOf 43=1:=by kernel_rfl
  have c2:Tryz.prog.cellsOf 233=1:=by kernel_rfl
  rw[hf]at ht;obtain⟨xs,k,hk,_,hlen,hxl,hg⟩:=DataW.trod_struct ht h;rw[hc]at hlen
  match cs,hlen with
  | [v0,v1,v2,v3,v4],_=>
   match xs,hxl with
   | [y0,y1,y2,y3,y4],_=>
    have g0:=hg 0 _ rfl;have g1:=hg 1 _ rfl;have g2:=hg 2 _ rfl;have g3:=hg 3 _ rfl;have g4:=hg 4 _ rfl
    simp[c0,c1,c2]at g0 g1 g2 g3 g4
    obtain⟨u0,l0,e0,f0⟩:=aJq g0;obtain⟨u1,l1,e1,f1⟩:=aJq g1;obtain⟨u2,l2,e2,f2⟩:=aDo g2;obtain⟨u3,l3,e3,f3⟩:=aDo g3
    obtain⟨u4,l4,e4,f4⟩:=aAr (K:=5) Ex.fl V1 V1 V6 (fun x=>by cases x;simp[Ex.fl]) (fun n hn cs y h=>ih n V6 cs y h) g4
    simp only[zK2,and_true]at e0 e1 e2 e3 e4;subst e0 e1 e2 e3 e4;refine⟨Ex.mk l0 l1 l2 l3 l4, ?_⟩;simp only[Ex.fl,aJ,aM];exact U189
instance:Inhabited St:=⟨St.mk 0 0 [] [] [] []⟩
theorem aGz {H:Type}{enc:TypeId × Value->H}{w:World}{base:Nat}{spare:Nat->Bool}{held:Bool}:∀(fuel:Nat) (cs:List Value) (y:DataW H × List MemPlace),DataW.trod enc Tryz.prog w base spare held fuel 235 cs=some y->∃x:St,aO w x.fl cs:=by
 intro fuel
 induction fuel using Nat.strongRecOn with
 | _ fuel ih=>
  intro cs y h
  have ht:Tryz.prog.underlying 235=some (.struct (Tryz.prog.fieldsOf 235)):=by kernel_rfl
  have hf : Tryz.prog.fieldsOf 235 = #[⟨ "Kind", 3, 0, false, "", "", 0⟩, ⟨ "N", 3, 1, false, "", "", 8⟩, ⟨ "Name", 43, 2, false, "", "", 16⟩, ⟨ "Kids", 233, 3, false, "", "", 40⟩, ⟨ "Body", 167, 4, false, "", "", 64⟩, ⟨ "Else", 167, 5, false, "", "", 88⟩] := by kernel_rfl
  have hc:Tryz.prog.cellsOf 235=6:=by kernel_rfl
  have c0:Tryz.prog.cellsOf 3=1:=by kernel_rfl
  have c1:Tryz.prog.cellsOf 43=1:=by kernel_rfl
  have c2:Tryz.prog.cellsOf 233=1:=by kernel_rfl
  have c3:Tryz.prog.cellsOf 167=1:=by kernel_rfl
  rw[hf]at ht;obtain⟨xs,k,hk,_,hlen,hxl,hg⟩:=DataW.trod_struct ht h;rw[hc]at hlen
  match cs,hlen with
  | [v0,v1,v2,v3,v4,v5],_=>
   match xs,hxl with
   | [y0,y1,y2,y3,y4,y5],_=>
    have g0:=hg 0 _ rfl;have g1:=hg 1 _ rfl;have g2:=hg 2 _ rfl;have g3:=hg 3 _ rfl;have g4:=hg 4 _ rfl;have g5:=hg 5 _ rfl
    simp[c0,c1,c2,c3]at g0 g1 g2 g3 g4 g5
    obtain⟨u0,l0,e0,f0⟩:=aJq g0;obtain⟨u1,l1,e1,f1⟩:=aJq g1;obtain⟨u2,l2,e2,f2⟩:=aDo g2
    obtain⟨u3,l3,e3,f3⟩:=aAr (K:=5) Ex.fl V1 V1 V6 (fun x=>by cases x;simp[Ex.fl]) (fun n hn cs y h=>aG2 n cs y h) g3
    obtain⟨u4,l4,e4,f4⟩:=aAr (K:=6) St.fl V1 V1 V6 (fun x=>by cases x;simp[St.fl]) (fun n hn cs y h=>ih n V6 cs y h) g4
    obtain⟨u5,l5,e5,f5⟩:=aAr (K:=6) St.fl V1 V1 V6 (fun x=>by cases x;simp[St.fl]) (fun n hn cs y h=>ih n V6 cs y h) g5
    simp only[zK2,and_true]at e0 e1 e2 e3 e4 e5;subst e0 e1 e2 e3 e4 e5;refine⟨St.mk l0 l1 l2 l3 l4 l5, ?_⟩;simp only[St.fl,aJ,aM];exact⟨_,_,rfl,f0,_,_,rfl,f1,_,_,rfl,f2,_,_,rfl,f3,_,_,rfl,f4,_,_,rfl,f5,rfl⟩
instance:Inhabited Pr:=⟨Pr.mk [] false [] [] []⟩
theorem aG0 {H:Type}{enc:TypeId × Value->H}{w:World}{base:Nat}{spare:Nat->Bool}{held:Bool}:∀(fuel:Nat) (cs:List Value) (y:DataW H × List MemPlace),DataW.trod enc Tryz.prog w base spare held fuel 169 cs=some y->∃x:Pr,aO w x.fl cs:=by
 intro fuel;intro cs y h
 have ht:Tryz.prog.underlying 169=some (.struct (Tryz.prog.fieldsOf 169)):=by kernel_rfl
 have hf : Tryz.prog.fieldsOf 169 = #[⟨ "Name", 43, 0, false, "", "", 0⟩, ⟨ "Open", 4, 1, false, "", "", 24⟩, ⟨ "Params", 166, 2, false, "", "", 32⟩, ⟨ "Locals", 44, 3, false, "", "", 56⟩, ⟨ "Body", 167, 4, false, "", "", 80⟩] := by kernel_rfl
 have hc:Tryz.prog.cellsOf 169=5:=by kernel_rfl
 have c0:Tryz.prog.cellsOf 43=1:=by kernel_rfl
 have c1:Tryz.prog.cellsOf 4=1:=by kernel_rfl
 have c2:Tryz.prog.cellsOf 166=1:=by kernel_rfl
 have c3:Tryz.prog.cellsOf 44=1:=by kernel_rfl
 have c4:Tryz.prog.cellsOf 167=1:=by kernel_rfl
 rw[hf]at ht;obtain⟨xs,k,hk,_,hlen,hxl,hg⟩:=DataW.trod_struct ht h;rw[hc]at hlen
 match cs,hlen with
 | [v0,v1,v2,v3,v4],_=>
  match xs,hxl with
  | [y0,y1,y2,y3,y4],_=>
   have g0:=hg 0 _ rfl;have g1:=hg 1 _ rfl;have g2:=hg 2 _ rfl;have g3:=hg 3 _ rfl;have g4:=hg 4 _ rfl
   simp[c0,c1,c2,c3,c4]at g0 g1 g2 g3 g4
   obtain⟨u0,l0,e0,f0⟩:=aDo g0;obtain⟨u1,l1,e1,f1⟩:=aMr g1
   obtain⟨u2,l2,e2,f2⟩:=aAr (K:=2) Pa.fl V1 V1 V6 (fun x=>by rfl) (fun n hn cs y h=>aDx n cs y h) g2
   obtain⟨u3,l3,e3,f3⟩:=aMq g3
   obtain⟨u4,l4,e4,f4⟩:=aAr (K:=6) St.fl V1 V1 V6 (fun x=>by cases x;simp[St.fl]) (fun n hn cs y h=>aGz n cs y h) g4
   simp only[zK2,and_true]at e0 e1 e2 e3 e4;subst e0 e1 e2 e3 e4;refine⟨Pr.mk l0 l1 l2 l3 l4, ?_⟩;simp only[Pr.fl,aJ,aM];exact U189
instance:Inhabited Mo:=⟨Mo.mk [] [] [] []⟩
theorem aAs {H:Type}{enc:TypeId × Value->H}{w:World}{base:Nat}{spare:Nat->Bool}{held:Bool}:∀(fuel:Nat) (cs:List Value) (y:DataW H × List MemPlace),DataW.trod enc Tryz.prog w base spare held fuel 78 cs=some y->∃x:Mo,aO w x.fl cs:=by
 intro fuel;intro cs y h
 have ht:Tryz.prog.underlying 78=some (.struct (Tryz.prog.fieldsOf 78)):=by kernel_rfl
 have hf : Tryz.prog.fieldsOf 78 = #[⟨ "Name", 43, 0, false, "", "", 0⟩, ⟨ "Uses", 44, 1, false, "", "", 24⟩, ⟨ "Vars", 75, 2, false, "", "", 48⟩, ⟨ "Procs", 76, 3, false, "", "", 72⟩] := by kernel_rfl
 have hc:Tryz.prog.cellsOf 78=4:=by kernel_rfl
 have c0:Tryz.prog.cellsOf 43=1:=by kernel_rfl
 have c1:Tryz.prog.cellsOf 44=1:=by kernel_rfl
 have c2:Tryz.prog.cellsOf 75=1:=by kernel_rfl
 have c3:Tryz.prog.cellsOf 76=1:=by kernel_rfl
 rw[hf]at ht;obtain⟨xs,k,hk,_,hlen,hxl,hg⟩:=DataW.trod_struct ht h;rw[hc]at hlen
 match cs,hlen with
 | [v0,v1,v2,v3],_=>
  match xs,hxl with
  | [y0,y1,y2,y3],_=>
   have g0:=hg 0 _ rfl;have g1:=hg 1 _ rfl;have g2:=hg 2 _ rfl;have g3:=hg 3 _ rfl
   simp[c0,c1,c2,c3]at g0 g1 g2 g3
   obtain⟨u0,l0,e0,f0⟩:=aDo g0;obtain⟨u1,l1,e1,f1⟩:=aMq g1
   obtain⟨u2,l2,e2,f2⟩:=aAr (K:=2) Va.fl V1 V1 V6 (fun x=>by rfl) (fun n hn cs y h=>aJr n cs y h) g2
   obtain⟨u3,l3,e3,f3⟩:=aAr (K:=5) Pr.fl V1 V1 V6 (fun x=>by rfl) (fun n hn cs y h=>aG0 n cs y h) g3
   simp only[zK2,and_true]at e0 e1 e2 e3;subst e0 e1 e2 e3;refine⟨Mo.mk l0 l1 l2 l3, ?_⟩;simp only[Mo.fl,aJ,aM];exact⟨_,_,rfl,f0,_,_,rfl,f1,_,_,rfl,f2,_,_,rfl,f3,rfl⟩
instance:Inhabited Ag:=⟨Ag.mk false 0⟩
theorem aQ1 {H:Type}{enc:TypeId × Value->H}{w:World}{base:Nat}{spare:Nat->Bool}{held:Bool}:∀(fuel:Nat) (cs:List Value) (y:DataW H × List MemPlace),DataW.trod enc Tryz.prog w base spare held fuel 182 cs=some y->∃x:Ag,aO w x.fl cs:=by
 intro fuel;intro cs y h
 have ht:Tryz.prog.underlying 182=some (.struct (Tryz.prog.fieldsOf 182)):=by kernel_rfl
 have hf : Tryz.prog.fieldsOf 182 = #[⟨ "Arr", 4, 0, false, "", "", 0⟩, ⟨ "N", 3, 1, false, "", "", 8⟩] := by kernel_rfl
 have hc:Tryz.prog.cellsOf 182=2:=by kernel_rfl
 have c0:Tryz.prog.cellsOf 4=1:=by kernel_rfl
 have c1:Tryz.prog.cellsOf 3=1:=by kernel_rfl
 rw[hf]at ht;obtain⟨xs,k,hk,_,hlen,hxl,hg⟩:=DataW.trod_struct ht h;rw[hc]at hlen
 match cs,hlen with
 | [v0,v1],_=>
  match xs,hxl with
  | [y0,y1],_=>
   have g0:=hg 0 _ rfl;have g1:=hg 1 _ rfl
   simp[c0,c1]at g0 g1
   obtain⟨u0,l0,e0,f0⟩:=aMr g0;obtain⟨u1,l1,e1,f1⟩:=aJq g1;simp only[zK2,and_true]at e0 e1;subst e0 e1;refine⟨Ag.mk l0 l1, ?_⟩;simp only[Ag.fl,aJ,aM];exact U130
instance:Inhabited Ac:=⟨Ac.mk 0 0 0 [] 0⟩
theorem aPw {H:Type}{enc:TypeId × Value->H}{w:World}{base:Nat}{spare:Nat->Bool}{held:Bool}:∀(fuel:Nat) (cs:List Value) (y:DataW H × List MemPlace),DataW.trod enc Tryz.prog w base spare held fuel 86 cs=some y->∃x:Ac,aO w x.fl cs:=by
 intro fuel;intro cs y h
 have ht:Tryz.prog.underlying 86=some (.struct (Tryz.prog.fieldsOf 86)):=by kernel_rfl
 have hf : Tryz.prog.fieldsOf 86 = #[⟨ "Kind", 3, 0, false, "", "", 0⟩, ⟨ "To", 3, 1, false, "", "", 8⟩, ⟨ "Proc", 3, 2, false, "", "", 16⟩, ⟨ "Args", 84, 3, false, "", "", 24⟩, ⟨ "N", 3, 4, false, "", "", 48⟩] := by kernel_rfl
 have hc:Tryz.prog.cellsOf 86=5:=by kernel_rfl
 have c0:Tryz.prog.cellsOf 3=1:=by kernel_rfl
 have c1:Tryz.prog.cellsOf 84=1:=by kernel_rfl
 rw[hf]at ht;obtain⟨xs,k,hk,_,hlen,hxl,hg⟩:=DataW.trod_struct ht h;rw[hc]at hlen
 match cs,hlen with
 | [v0,v1,v2,v3,v4],_=>
  match xs,hxl with
  | [y0,y1,y2,y3,y4],_=>
   have g0:=hg 0 _ rfl;have g1:=hg 1 _ rfl;have g2:=hg 2 _ rfl;have g3:=hg 3 _ rfl;have g4:=hg 4 _ rfl
   simp[c0,c1]at g0 g1 g2 g3 g4
   obtain⟨u0,l0,e0,f0⟩:=aJq g0;obtain⟨u1,l1,e1,f1⟩:=aJq g1;obtain⟨u2,l2,e2,f2⟩:=aJq g2
   obtain⟨u3,l3,e3,f3⟩:=aAr (K:=2) Ag.fl V1 V1 V6 (fun x=>by rfl) (fun n hn cs y h=>aQ1 n cs y h) g3
   obtain⟨u4,l4,e4,f4⟩:=aJq g4;simp only[zK2,and_true]at e0 e1 e2 e3 e4;subst e0 e1 e2 e3 e4;refine⟨Ac.mk l0 l1 l2 l3 l4, ?_⟩;simp only[Ac.fl,aJ,aM];exact U189
instance:Inhabited Wd:=⟨Wd.mk [] [] []⟩
theorem aP7 {H:Type}{enc:TypeId × Value->H}{w:World}{base:Nat}{spare:Nat->Bool}{held:Bool}:∀(fuel:Nat) (cs:List Value) (y:DataW H × List MemPlace),DataW.trod enc Tryz.prog w base spare held fuel 26 cs=some y->∃x:Wd,aO w x.fl cs:=by
 intro fuel;intro cs y h
 have ht:Tryz.prog.underlying 26=some (.struct (Tryz.prog.fieldsOf 26)):=by kernel_rfl
 have hf : Tryz.prog.fieldsOf 26 = #[⟨ "Mods", 22, 0, false, "", "", 0⟩, ⟨ "Faces", 23, 1, false, "", "", 24⟩, ⟨ "Script", 24, 2, false, "", "", 48⟩] := by kernel_rfl
 have hc:Tryz.prog.cellsOf 26=3:=by kernel_rfl
 have c0:Tryz.prog.cellsOf 22=1:=by kernel_rfl
 have c1:Tryz.prog.cellsOf 23=1:=by kernel_rfl
 have c2:Tryz.prog.cellsOf 24=1:=by kernel_rfl
 rw[hf]at ht;obtain⟨xs,k,hk,_,hlen,hxl,hg⟩:=DataW.trod_struct ht h;rw[hc]at hlen
 match cs,hlen with
 | [v0,v1,v2],_=>
  match xs,hxl with
  | [y0,y1,y2],_=>
   have g0:=hg 0 _ rfl;have g1:=hg 1 _ rfl;have g2:=hg 2 _ rfl
   simp[c0,c1,c2]at g0 g1 g2
   obtain⟨u0,l0,e0,f0⟩:=aAr (K:=4) Mo.fl V1 V1 V6 (fun x=>by rfl) (fun n hn cs y h=>aAs n cs y h) g0
   obtain⟨u1,l1,e1,f1⟩:=aAr (K:=2) Fa.fl V1 V1 V6 (fun x=>by rfl) (fun n hn cs y h=>aG1 n cs y h) g1
   obtain⟨u2,l2,e2,f2⟩:=aAr (K:=5) Ac.fl V1 V1 V6 (fun x=>by rfl) (fun n hn cs y h=>aPw n cs y h) g2
   simp only[zK2,and_true]at e0 e1 e2;subst e0 e1 e2;refine⟨Wd.mk l0 l1 l2, ?_⟩;simp only[Wd.fl,aJ,aM];exact⟨_,_,rfl,f0,_,_,rfl,f1,_,_,rfl,f2,rfl⟩
theorem aPo {H:Type}{enc:TypeId × Value->H}{w:World}{base b0:Nat}{spare:Nat->Bool}{held:Bool}{v:Value}{d:DataW H}{ps:List MemPlace}
  (hv:Value.okWide Tryz.prog w .any b0 26 v) (h:DataW.Trod enc Tryz.prog w base spare held 26 v d ps):
  ∃(x:Wd) (vs:List Value),v=.agg vs.toArray/\aO w x.fl vs:=by
 have ht:Tryz.prog.underlying 26=some (.struct (Tryz.prog.fieldsOf 26)):=by kernel_rfl
 simp only[Value.okWide,ht]at hv;obtain⟨cs,rfl,Bb,_⟩:=hv;obtain⟨fuel,h⟩:=h;obtain⟨x,hx⟩:=aP7 fuel _ _ h;obtain⟨cl⟩:=cs
 exact⟨x,cl,rfl,by simpa [Value.cells] using hx⟩
end Go.Proofs.YtegkhlkjfeafjaaGreatDoor

import Derived.Test.YtegkhlkjfeafjaaGreatDoorName
namespace Go.Proofs.YtegkhlkjfeafjaaGreatDoor
open Go.RowKit
set_option maxHeartbeats 1000000
set_option linter.unusedVariables false
def pK (w:World)(a:Option Addr)(n:Nat)(l:List Int):Prop:=
 l.length=n/\(∀x ∈ l, -9223372036854775808<=x/\x<=9223372036854775807)/\(0<n->∃b off,a=some ⟨b,off,none⟩/\∀i,i<n->w.cell? ⟨b,off+i,none⟩=some (.int .i64 (l[i]?.getD 0)))
theorem pK.below {w w':World}{a:Option Addr}{n:Nat}{l:List Int}(h:pK w a n l)(hb:Below w.heap.size w w'):pK w' a n l:=by
 exact U332
theorem aGg {l:List Int}(h:∀x ∈ l, -9223372036854775808<=x/\x<=9223372036854775807)(i:Nat):-9223372036854775808<=l[i]?.getD 0/\l[i]?.getD 0<=9223372036854775807:=by
 exact U349
def aFx (w:World)(base:Nat)(v:Value)(n:Nat)(l:List Int):Prop:=
 w.ownsRow base 3 1 v n (l.map (Value.int .i64))/\∀x ∈ l, -9223372036854775808<=x/\x<=9223372036854775807
theorem aFx.below {w w':World}{base:Nat}{v:Value}{n:Nat}{l:List Int}(h:aFx w base v n l)(hb:Below w.heap.size w w'):aFx w' base v n l:=by
 exact U328
theorem aFx.shape {w:World}{base:Nat}{v:Value}{n:Nat}{l:List Int}(h:aFx w base v n l):
  ∃a c,v=.slice a n c/\n<=c/\c<=maxLen/\pK w a n l/\∀k,v.ownBlock=some k->base<=k/\k<w.heap.size:=by
 have Ai:=h.1.lt;exact U290
theorem aKx:(Tryz.prog.info? 3).map (fun i=>(i.zero,i.size,i.bytes))=some (some (.int .i64 0),1,8):=by kernel_rfl
theorem vC {w wr:World}{g n k:Nat}{l m:List Int}(hl:l.length=n)(hm:m.length=n)(hk:k<n)(hB:w.heap.size<=g)
  (Av:wr.ownsRow w.heap.size 3 1 (.slice (some ⟨g,0,none⟩) n n) n ((l.take k++m.drop k).map (Value.int .i64))) (hb:Below w.heap.size w wr):
  (wr.setCell ⟨g,k,none⟩ (.int .i64 (l[k]?.getD 0))).ownsRow w.heap.size 3 1 (.slice (some ⟨g,0,none⟩) n n) n ((l.take (k+1)++m.drop (k+1)).map (Value.int .i64))/\Below w.heap.size w (wr.setCell ⟨g,k,none⟩ (.int .i64 (l[k]?.getD 0))):=by
 refine⟨?_,hb.setCell hB _⟩
 have:=(Av.stored k (.int .i64 (l[k]?.getD 0))).1
 rwa [aGc _ _ _ _ V6 V6]at this
theorem toI (a:Option Addr)(n c:Nat)(l:List Int)(w:World)(h:pK w a n l)(hn:n<=1048576):
  Calls Tryz.prog 167 #[.slice a n c] w fun e w'=>∃v,e=.returned v/\v=.slice (some ⟨w.heap.size,0,none⟩) n n/\aFx w' w.heap.size v n l/\Below w.heap.size w w':=by
 obtain⟨i0,hi,hz0,hz1,hz2⟩:=info_parts aKx;obtain⟨hl,hby,hcells⟩:=h
 have Hl:Hid (l.length=n):=hl
 clear hl
 have hv:∀wr:World,Hid (wr.ownsRow w.heap.size 3 1 (.slice (some ⟨w.heap.size,0,none⟩) n n) n ((l.take n++(List.replicate n 0).drop n).map (Value.int .i64)))->aFx wr w.heap.size (.slice (some ⟨w.heap.size,0,none⟩) n n) n l:=by
  exact U339
 have HV:=hv;clear hv hby
 rcases zG0 n with h0|Am
 .
  subst h0;clear hcells;go_enter Tryz.func167,Tryz.ntmps167
  go_wp2_with (at_make;refine wpList_make_full _ rfl _ _ 60 rfl w.heap.size 3 i0 (.int .i64 0) 1 Tryz.underlying60 hi hz0 hz1 _ _ _ _ 0 rfl rfl rfl rfl V50 V14 (zB0 _) ?_)
  intro w1 Av hgrow
  have hb:Below w.heap.size w w1:=(zD2 _ _).grown hgrow (zB0 _) V76
  have hown':Hid (w1.ownsRow w.heap.size 3 1 (.slice (some ⟨w.heap.size,0,none⟩) 0 0) 0 ((l.take 0++(List.replicate 0 0).drop 0).map (Value.int .i64))):=by
   show World.ownsRow _ _ _ _ _ _ _
   have e:(madeCells #[Value.int IntKind.i64 0] 0).toList=List.replicate 0 (Value.int IntKind.i64 0):=toList_madeCells_one _ _
   rw[e]at Av
   simpa using Av
  exact U358
 .
  obtain⟨b,off,rfl,hc⟩:=hcells Am;have hbl:b<w.heap.size:=zJ1 w _ (hc 0 Am);go_enter Tryz.func167,Tryz.ntmps167
  go_wp2_with (at_make;refine wpList_make_full _ rfl _ _ 60 rfl w.heap.size 3 i0 (.int .i64 0) 1 Tryz.underlying60 hi hz0 hz1 _ _ _ _ n rfl rfl rfl rfl V50 V14 (zB0 _) ?_)
  intro w1 Av hgrow
  have hb:Below w.heap.size w w1:=(zD2 _ _).grown hgrow (zB0 _) V76
  have hown':w1.ownsRow w.heap.size 3 1 (.slice (some ⟨w.heap.size,0,none⟩) n n) n ((l.take 0++(List.replicate n 0).drop 0).map (Value.int .i64)):=by
   have e:(madeCells #[Value.int IntKind.i64 0] n).toList=List.replicate n (Value.int IntKind.i64 0):=toList_madeCells_one _ _
   rw[e]at Av
   simpa using Av
  have HO:=hown';clear Av hgrow hown';go_wp2
  go_loopw [4] (fun i wr=>∃k:Nat,k<=n/\i=.int .i64 k/\Hid (wr.ownsRow w.heap.size 3 1 (.slice (some ⟨w.heap.size,0,none⟩) n n) n ((l.take k++(List.replicate n 0).drop k).map (Value.int .i64)))/\Below w.heap.size w wr) (fun i _=>n-(intOf i).toNat)
  case atStart=>exact⟨0,zD1 _,rfl,HO,hb⟩
  case round=>
   obtain⟨k,hk,rfl,Av,hbr⟩:=hrel;clear HO hb
   by_cases Ai:k<n
   .
    have hcx:wr.cell? ⟨b,off+k,none⟩=some (.int .i64 (l[k]?.getD 0)):=(hbr.cell (by exact hbl)).trans (hc k Ai)
    have hcy:∃u,wr.cell? ⟨w.heap.size,k,none⟩=some u:=by
     rw[Av.out.cellAt k V6]
     exact⟨_,zA0 (by have:=Av.out.1;omega)⟩
    obtain⟨u,hcy⟩:=hcy
    have hfy:wr.frozen? ⟨w.heap.size,k,none⟩=false:=Av.out.frozenAt k
    have R:=vC Hl.out (List.length_replicate) Ai (zB0 _) Av.out hbr;exact U108
   .
    go_wp2;go_ret
    have:k=n:=V6
    subst this;exact⟨_,rfl,rfl,HV _ Av,hbr⟩
theorem aMi (a:Option Addr)(n c:Nat)(l:List Int)(w:World)(h:pK w a n l)(hn:n<=1048576):
  Calls Tryz.prog 167 #[.slice a n c] w fun e w'=>e=.returned (.slice (some ⟨w.heap.size,0,none⟩) n n)/\aFx w' w.heap.size (.slice (some ⟨w.heap.size,0,none⟩) n n) n l/\pK w' (some ⟨w.heap.size,0,none⟩) n l/\Below w.heap.size w w'/\w.heap.size<w'.heap.size:=by
 refine(toI a n c l w h hn).mono ?_;exact U92
theorem eqI (a1:Option Addr)(n1 c1:Nat)(l1:List Int)(a2:Option Addr)(n2 c2:Nat)(l2:List Int)(w:World)(h1:pK w a1 n1 l1)(h2:pK w a2 n2 l2)(hn:n1<=1073741824):
  Calls Tryz.prog 187 #[.slice a1 n1 c1,.slice a2 n2 c2] w fun e w'=>e=.returned (.bool (decide (l1=l2)))/\∃k,w'=w.drewN k:=by
 obtain⟨hl1,hby1,hc1⟩:=h1;obtain⟨hl2,hby2,hc2⟩:=h2
 have Hl1:Hid (l1.length=n1):=hl1
 have Hl2:Hid (l2.length=n2):=hl2
 clear hl1 hl2
 by_cases hne:n1=n2
 .
  subst hne
  rcases zG0 n1 with h0|Am
  .
   subst h0
   have hd:decide (l1=l2)=true:=by
    have e1:l1=[]:=zE0 Hl1.out;have e2:l2=[]:=zE0 Hl2.out
    simp[e1,e2]
   have HD:Hid _:=hd
   clear hd hc1 hc2 hby1 hby2;go_enter Tryz.func187,Tryz.ntmps187;exact U333
  .
   obtain⟨b1,o1,rfl,hd1⟩:=hc1 Am;obtain⟨b2,o2,rfl,hd2⟩:=hc2 Am;clear hc1 hc2;go_enter Tryz.func187,Tryz.ntmps187;go_wp2
   go_loopw [5] (fun i wr=>∃k:Nat,k<=n1/\i=.int .i64 k/\Hid (l1.take k=l2.take k)/\∃d,wr=w.drewN d) (fun i _=>n1-(intOf i).toNat)
   case atStart=>exact⟨0,zD1 _,rfl,by simp[Hid],0,rfl⟩
   case round=>
    obtain⟨k,hk,rfl,heq,d,rfl⟩:=hrel
    by_cases Ai:k<n1
    .
     have hx1:=hd1 k Ai;have hx2:=hd2 k Ai;have hb1:=aGg hby1 k;have Ae:=aGg hby2 k;exact U369
    .
     exact U299
 .
  have hd:Hid (decide (l1=l2)=false):=by
   exact U330
  have hneq:((n1:Int) != (n2:Int))=true:=by simp;omega
  clear hne;go_enter Tryz.func187,Tryz.ntmps187;exact U200
inductive Fl where
 | b (l:List Int)
 | i (l:List Int)
 | n (x:Int)
 | t (x:Bool)
 | l (k:Nat) (rs:List (List Fl))
mutual
def Fl.Rd (w:World):Fl->Value->Prop
 | .b l,v=>∃a c,v=.slice a l.length c/\bW w a l.length l/\l.length<=c/\c<=maxLen/\(a=none->c=0)
 | .i l,v=>∃a c,v=.slice a l.length c/\pK w a l.length l/\l.length<=c/\c<=maxLen/\(a=none->c=0)
 | .n x,v=>v=.int .i64 x
 | .t x,v=>v=.bool x
 | .l k rs,v=>∃a c,v=.slice a rs.length c/\rs.length<=c/\c<=maxLen/\(a=none->c=0)/\(0<rs.length->∃b off,a=some ⟨b,off,none⟩/\fE w b k off rs)
def jD (w:World)(b:Nat):Nat->List Fl->Prop
 | _,[]=>True
 | off,f :: r=>(∃v,w.cell? ⟨b,off,none⟩=some v/\f.Rd w v)/\jD w b (off+1) r
def fE (w:World)(b k:Nat):Nat->List (List Fl)->Prop
 | _,[]=>True
 | off,r :: rs=>jD w b off r/\fE w b k (off+k) rs
end
mutual
theorem Fl.Rd.below' {w w':World}(hb:Below w.heap.size w w'):∀(f:Fl) (v:Value),f.Rd w v->f.Rd w' v
 | .b l,v,h=>by
  obtain⟨a,c,e,hr,r⟩:=h;exact⟨a,c,e,hr.below hb,r⟩
 | .i l,v,h=>by
  obtain⟨a,c,e,hr,r⟩:=h;exact⟨a,c,e,hr.below hb,r⟩
 | .n x,v,h=>h
 | .t x,v,h=>h
 | .l k rs,v,h=>by
  obtain⟨a,c,e,h1,h2,h3,h4⟩:=h
  refine⟨a,c,e,h1,h2,h3,fun hp=>?_⟩
  obtain⟨b,off,e2,h5⟩:=h4 hp;exact⟨b,off,e2,fE.below' hb b k off rs h5⟩
theorem jD.below' {w w':World}(hb:Below w.heap.size w w')(b:Nat):∀(off:Nat) (r:List Fl),jD w b off r->jD w' b off r
 | _,[],h=>trivial
 | off,f :: r,h=>by
  obtain⟨⟨v,hc,hv⟩,h2⟩:=h
  exact⟨⟨v,by rw[hb.cell (zJ1 w _ hc)];exact hc,Fl.Rd.below' hb f v hv⟩,jD.below' hb b (off+1) r h2⟩
theorem fE.below' {w w':World}(hb:Below w.heap.size w w')(b k:Nat):∀(off:Nat) (rs:List (List Fl)),fE w b k off rs->fE w' b k off rs
 | _,[],h=>trivial
 | off,r :: rs,h=>⟨jD.below' hb b off r h.1,fE.below' hb b k (off+k) rs h.2⟩
end
theorem Fl.Rd.below {w w':World}{f:Fl}{v:Value}(h:f.Rd w v)(hb:Below w.heap.size w w'):f.Rd w' v:=Fl.Rd.below' hb f v h
theorem jD.below {w w':World}{b off:Nat}{r:List Fl}(h:jD w b off r)(hb:Below w.heap.size w w'):jD w' b off r:=jD.below' hb b off r h
theorem fE.below {w w':World}{b k off:Nat}{rs:List (List Fl)}(h:fE w b k off rs)(hb:Below w.heap.size w w'):fE w' b k off rs:=fE.below' hb b k off rs h
theorem fE.el {w:World}{b k:Nat}{rs:List (List Fl)}{i:Nat}{r:List Fl}:∀{off:Nat},fE w b k off rs->rs[i]?=some r->jD w b (off+i*k) r:=by
 induction rs generalizing i with
 | nil=>intro off _ h;simp at h
 | cons x rs ih=>
  intro off h hi
  cases i with
  | zero=>
   simp only[List.getElem?_cons_zero,zG3]at hi;subst hi;rw[Nat.zero_mul,zG2];exact h.1
  | succ i=>
   rw[List.getElem?_cons_succ]at hi
   have:=ih h.2 hi
   rw[show off+(i+1)*k=off+k+i*k by rw[Nat.add_mul];omega]
   exact this
structure aS (w:World) (a:Option Addr) (c k:Nat) (rs:List (List Fl)):Prop where
 cap:rs.length<=c
 most:c<=maxLen
 nil:a=none->c=0
 row:0<rs.length->∃b off,a=some ⟨b,off,none⟩/\fE w b k off rs
theorem aS.below {w w':World}{a:Option Addr}{c k:Nat}{rs:List (List Fl)}(h:aS w a c k rs)(hb:Below w.heap.size w w'):aS w' a c k rs:=by
 refine⟨h.cap,h.most,h.nil,fun hp=>?_⟩
 obtain⟨b,off,e,hr⟩:=h.row hp;exact⟨b,off,e,hr.below hb⟩
theorem Fl.Rd.list {w:World}{k:Nat}{rs:List (List Fl)}{v:Value}(h:(Fl.l k rs).Rd w v):∃a c,v=.slice a rs.length c/\aS w a c k rs:=by
 obtain⟨a,c,e,h1,h2,h3,h4⟩:=h;exact⟨a,c,e,h1,h2,h3,h4⟩
theorem aS.rd {w:World}{a:Option Addr}{c k:Nat}{rs:List (List Fl)}(h:aS w a c k rs):(Fl.l k rs).Rd w (.slice a rs.length c):=⟨a,c,rfl,h.cap,h.most,h.nil,h.row⟩
theorem aS.addr {w:World}{a:Option Addr}{c k:Nat}{rs:List (List Fl)}(h:aS w a c k rs)(hp:0<rs.length):∃b off,a=some ⟨b,off,none⟩:=by
 obtain⟨b,off,e,_⟩:=h.row hp;exact⟨b,off,e⟩
theorem aS.el {w:World}{b off c k i:Nat}{rs:List (List Fl)}{r:List Fl}(h:aS w (some ⟨b,off,none⟩) c k rs)(hi:rs[i]?=some r):jD w b (off+i*k) r:=by
 have hp:0<rs.length:=Nat.lt_of_le_of_lt (zD1 _) (zC1.1 hi).1;obtain⟨b',off',e,hr⟩:=h.row hp;simp only[zG3,Addr.mk.injEq,and_true]at e;obtain⟨rfl,rfl⟩:=e;exact hr.el hi
def aO (w:World):List Fl->List Value->Prop
 | [],vs=>vs=[]
 | f :: r,vs=>∃v us,vs=v :: us/\f.Rd w v/\aO w r us
theorem aO.below {w w':World}{r:List Fl}{vs:List Value}(h:aO w r vs)(hb:Below w.heap.size w w'):aO w' r vs:=by
 induction r generalizing vs with
 | nil=>exact h
 | cons f r ih=>
  obtain⟨v,us,e,h1,h2⟩:=h;exact⟨v,us,e,h1.below hb,ih h2⟩
mutual
def Fl.len:Fl->Nat
 | .b l=>l.length
 | .i l=>l.length
 | .n _=>0
 | .t _=>0
 | .l _ rs=>rs.length+aF rs
def aH:List Fl->Nat
 | []=>0
 | f :: r=>f.len+aH r
def aF:List (List Fl)->Nat
 | []=>0
 | r :: rs=>aH r+aF rs
end
theorem kP (l m:List (List Fl)):aF (l++m)=aF l+aF m:=by
 induction l with
 | nil=>simp[aF]
 | cons x l ih=>simp[aF,ih];omega
theorem dO {rs:List (List Fl)}{k:Nat}{r:List Fl}(h:rs[k]?=some r):aF (rs.take (k+1))=aF (rs.take k)+aH r:=by
 obtain⟨hk,rfl⟩:=zC1.1 h;rw[zF1 hk,kP]
 simp[aF]
theorem dN (rs:List (List Fl))(k:Nat):aF (rs.take k)<=aF rs:=by
 have:=kP (rs.take k) (rs.drop k)
 rw[List.take_append_drop]at this
 omega
theorem bK {rs:List (List Fl)}{r:List Fl}(h:r ∈ rs):aH r<=aF rs:=by
 induction rs with
 | nil=>simp at h
 | cons x l ih=>
  rcases zH0.1 h with rfl|h
  .
   simp[aF]
  .
   have:=ih h;simp[aF];omega
def szL (left:Int)(n:Nat):Int:=if (n:Int)<=left then left-(n:Int) else -1
theorem aU {left:Int}{n:Nat}(h:(n:Int)<=left):szL left n=left-(n:Int):=if_pos h
theorem bM {left:Int}{n:Nat}(h:¬(n:Int)<=left):szL left n = -1:=if_neg h
inductive Ex where
 | mk (kind n:Int) (mod name:List Int) (kids:List Ex)
inductive St where
 | mk (kind n:Int) (name:List Int) (kids:List Ex) (body els:List St)
structure Pa where
 name:List Int
 arr:Bool
structure Pr where
 name:List Int
 opn:Bool
 params:List Pa
 locals:List (List Int)
 body:List St
structure Va where
 name:List Int
 size:Int
structure Fp where
 name:List Int
 kinds:List Int
structure Fa where
 name:List Int
 procs:List Fp
structure Mo where
 name:List Int
 uses:List (List Int)
 vars:List Va
 procs:List Pr
mutual
def Ex.fl:Ex->List Fl
 | .mk k n m a ks=>[.n k,.n n,.b m,.b a,.l 5 (exs ks)]
def exs:List Ex->List (List Fl)
 | []=>[]
 | e :: l=>e.fl :: exs l
end
mutual
def St.fl:St->List Fl
 | .mk k n a ks bs es=>[.n k,.n n,.b a,.l 5 (exs ks),.l 6 (sts bs),.l 6 (sts es)]
def sts:List St->List (List Fl)
 | []=>[]
 | s :: l=>s.fl :: sts l
end
def bH (l:List (List Int)):List (List Fl):=l.map fun x=>[.b x]
def Va.fl (v:Va):List Fl:=[.b v.name,.n v.size]
def Pa.fl (v:Pa):List Fl:=[.b v.name,.t v.arr]
def Pr.fl (q:Pr):List Fl:=[.b q.name,.t q.opn,.l 2 (q.params.map Pa.fl),.l 1 (bH q.locals),.l 6 (sts q.body)]
def Mo.fl (m:Mo):List Fl:=[.b m.name,.l 1 (bH m.uses),.l 2 (m.vars.map Va.fl),.l 5 (m.procs.map Pr.fl)]
def Fp.fl (q:Fp):List Fl:=[.b q.name,.i q.kinds]
def Fa.fl (f:Fa):List Fl:=[.b f.name,.l 2 (f.procs.map Fp.fl)]
structure Xp where
 name:List Int
 print:Int
 pos:Int
structure Ip where
 mod:List Int
 name:List Int
 print:Int
structure Oj where
 name:List Int
 ex:List Xp
 im:List Ip
 data:Int
 code:List Int
structure Rg where
 lo:Int
 hi:Int
 own:Int
 code:List Int
structure Wo where
 t:Bool
 n:Int
 l:Int
 h:Int
 a:Int
 p:Int
 s:Int
structure Ig where
 mods:List Rg
 words:List Wo
 start:Int
def Xp.fl (x:Xp):List Fl:=[.b x.name,.n x.print,.n x.pos]
def Ip.fl (x:Ip):List Fl:=[.b x.mod,.b x.name,.n x.print]
def Oj.fl (x:Oj):List Fl:=[.b x.name,.l 3 (x.ex.map Xp.fl),.l 3 (x.im.map Ip.fl),.n x.data,.b x.code]
def Rg.fl (x:Rg):List Fl:=[.n x.lo,.n x.hi,.n x.own,.b x.code]
def Wo.fl (x:Wo):List Fl:=[.t x.t,.n x.n,.n x.l,.n x.h,.n x.a,.n x.p,.n x.s]
def Ig.fl (x:Ig):List Fl:=[.l 4 (x.mods.map Rg.fl),.l 7 (x.words.map Wo.fl),.n x.start]
structure Ag where
 arr:Bool
 n:Int
structure Ev where
 kind:Int
 fr:Int
 to:Int
 proc:Int
 args:List Ag
 n:Int
structure Ac where
 kind:Int
 to:Int
 proc:Int
 args:List Ag
 n:Int
structure Rs where
 fin:Int
 code:Int
 who:Int
 mod:Int
 low:Int
 steps:Int
 ev:List Ev
 regs:List Wo
 words:List Wo
 wrote:List Int
 read:List Int
def Ag.fl (x:Ag):List Fl:=[.t x.arr,.n x.n]
def Ev.fl (x:Ev):List Fl:=[.n x.kind,.n x.fr,.n x.to,.n x.proc,.l 2 (x.args.map Ag.fl),.n x.n]
def Ac.fl (x:Ac):List Fl:=[.n x.kind,.n x.to,.n x.proc,.l 2 (x.args.map Ag.fl),.n x.n]
def Rs.fl (x:Rs):List Fl:=[.n x.fin,.n x.code,.n x.who,.n x.mod,.n x.low,.n x.steps,.l 6 (x.ev.map Ev.fl),.l 7 (x.regs.map Wo.fl),.l 7 (x.words.map Wo.fl),.i x.wrote,.i x.read]
structure Wd where
 mods:List Mo
 faces:List Fa
 script:List Ac
def Wd.fl (x:Wd):List Fl:=[.l 4 (x.mods.map Mo.fl),.l 2 (x.faces.map Fa.fl),.l 5 (x.script.map Ac.fl)]
theorem aJ (l:List Ex):exs l=l.map Ex.fl:=by
 induction l with
 | nil=>rfl
 | cons x l ih=>simp[exs,ih]
theorem aM (l:List St):sts l=l.map St.fl:=by
 induction l with
 | nil=>rfl
 | cons x l ih=>simp[sts,ih]
theorem V88{p:Prop}(h:p:=by simpa using hg):p:=h
theorem U142{p:Prop}(h:p:=by
 unfold Fl.Has at h ⊢
 obtain⟨g,e,h1,h2,h3,r⟩:=h
 exact⟨g,e,h1,h2,(hs g h1 h2).trans h3,r⟩):p:=h
theorem U150{p:Prop}(h:p:=by
 unfold Fl.Has at h ⊢
 obtain⟨g,e,h1,h2,h3,r⟩:=h
 exact⟨g,e,by omega,by omega,h3,r⟩):p:=h
theorem qX {w:World}{base g:Nat}{l:List Int}(hg:w.heap[g]?=some (.cells (l.map (Value.int .i64)).toArray 3 (0,0)))(hb:base<=g)(hm:l.length<=maxLen)(hby:∀x ∈ l, -9223372036854775808<=x/\x<=9223372036854775807):
  pK w (some ⟨g,0,none⟩) l.length l:=by
 refine⟨rfl,hby,fun hn=>⟨g,0,rfl,fun i hi=>?_⟩⟩
 rw[zK0,cell_of_row w g i _ _ (0,0) hg]
 simp[hi]
mutual
def Fl.Has (w:World):Nat->Nat->Fl->Value->Prop
 | lo,hi,.b l,v=>∃g,v=.slice (some ⟨g,0,none⟩) l.length l.length/\lo<=g/\g<hi/\w.heap[g]?=some (.cells (l.map (Value.int .u8)).toArray 5 (0,0))/\(∀x ∈ l,0<=x/\x<=255)/\l.length<=maxLen
 | lo,hi,.i l,v=>∃g,v=.slice (some ⟨g,0,none⟩) l.length l.length/\lo<=g/\g<hi/\w.heap[g]?=some (.cells (l.map (Value.int .i64)).toArray 3 (0,0))/\(∀x ∈ l, -9223372036854775808<=x/\x<=9223372036854775807)/\l.length<=maxLen
 | lo,hi,.n x,v=>v=.int .i64 x
 | lo,hi,.t x,v=>v=.bool x
 | lo,hi,.l k rs,v=>∃g vs T,v=.slice (some ⟨g,0,none⟩) rs.length rs.length/\lo<=g/\g<hi/\w.heap[g]?=some (.cells (List.toArray vs) T (0,0))/\rs.length<=maxLen/\bQ w k (g+1) hi rs vs
def bJ (w:World):Nat->Nat->List Fl->List Value->Prop
 | lo,hi,[],us=>us=[]
 | lo,hi,f :: r,us=>∃u us' mid,us=u :: us'/\lo<=mid/\mid<=hi/\Fl.Has w lo mid f u/\bJ w mid hi r us'
def bQ (w:World)(k:Nat):Nat->Nat->List (List Fl)->List Value->Prop
 | lo,hi,[],vs=>vs=[]
 | lo,hi,r :: rs,vs=>∃us vs' mid,vs=us++vs'/\us.length=k/\lo<=mid/\mid<=hi/\bJ w lo mid r us/\bQ w k mid hi rs vs'
end
def gG (lo hi:Nat)(w w':World):Prop:=∀g,lo<=g->g<hi->w'.heap[g]?=w.heap[g]?
theorem gG.mono {lo hi lo' hi':Nat}{w w':World}(h:gG lo hi w w')(h1:lo<=lo')(h2:hi'<=hi):gG lo' hi' w w':=fun g a b=>h g V6 V6
theorem gG.of {lo hi:Nat}{w w':World}(h:Below w.heap.size w w')(hh:hi<=w.heap.size):gG lo hi w w':=fun g _ b=>h.block g V6
theorem gG.put {lo hi k i:Nat}{w:World}{v:Value}(h:k<lo\/hi<=k):gG lo hi w (w.setCell ⟨k,i,none⟩ v):=
 fun g a b=>heap_setCell_other w ⟨k,i,none⟩ g v V52
theorem gG.trans {lo hi:Nat}{a b c:World}(h:gG lo hi a b)(k:gG lo hi b c):gG lo hi a c:=fun g x y=>(k g x y).trans (h g x y)
mutual
theorem Fl.Has.stays' {w w':World}:∀(f:Fl) (lo hi:Nat) (v:Value),gG lo hi w w'->f.Has w lo hi v->f.Has w' lo hi v
 | .b l,lo,hi,v,hs,h=>by
  exact U142
 | .i l,lo,hi,v,hs,h=>by
  exact U142
 | .n x,lo,hi,v,hs,h=>by unfold Fl.Has at h ⊢;exact h
 | .t x,lo,hi,v,hs,h=>by unfold Fl.Has at h ⊢;exact h
 | .l k rs,lo,hi,v,hs,h=>by
  unfold Fl.Has at h ⊢;obtain⟨g,vs,T,e,h1,h2,h3,h4,h5⟩:=h;exact⟨g,vs,T,e,h1,h2,(hs g h1 h2).trans h3,h4,bQ.stays' k rs (g+1) hi vs (hs.mono V6 (zB0 _)) h5⟩
theorem bJ.stays' {w w':World}:∀(r:List Fl) (lo hi:Nat) (us:List Value),gG lo hi w w'->bJ w lo hi r us->bJ w' lo hi r us
 | [],lo,hi,us,hs,h=>by unfold bJ at h ⊢;exact h
 | f :: r,lo,hi,us,hs,h=>by
  unfold bJ at h ⊢;obtain⟨u,us',mid,e,h1,h2,h3,h4⟩:=h;exact⟨u,us',mid,e,h1,h2,Fl.Has.stays' f lo mid u (hs.mono (zB0 _) h2) h3,bJ.stays' r mid hi us' (hs.mono h1 (zB0 _)) h4⟩
theorem bQ.stays' {w w':World}(k:Nat):∀(rs:List (List Fl)) (lo hi:Nat) (vs:List Value),gG lo hi w w'->bQ w k lo hi rs vs->bQ w' k lo hi rs vs
 | [],lo,hi,vs,hs,h=>by unfold bQ at h ⊢;exact h
 | r :: rs,lo,hi,vs,hs,h=>by
  unfold bQ at h ⊢;obtain⟨us,vs',mid,e,hl,h1,h2,h3,h4⟩:=h;exact⟨us,vs',mid,e,hl,h1,h2,bJ.stays' r lo mid us (hs.mono (zB0 _) h2) h3,bQ.stays' k rs mid hi vs' (hs.mono h1 (zB0 _)) h4⟩
end
theorem Fl.Has.stays {w w':World}{f:Fl}{lo hi:Nat}{v:Value}(h:f.Has w lo hi v)(hs:gG lo hi w w'):f.Has w' lo hi v:=Fl.Has.stays' f lo hi v hs h
theorem bJ.stays {w w':World}{r:List Fl}{lo hi:Nat}{us:List Value}(h:bJ w lo hi r us)(hs:gG lo hi w w'):bJ w' lo hi r us:=bJ.stays' r lo hi us hs h
theorem bQ.stays {w w':World}{k:Nat}{rs:List (List Fl)}{lo hi:Nat}{vs:List Value}(h:bQ w k lo hi rs vs)(hs:gG lo hi w w'):bQ w' k lo hi rs vs:=bQ.stays' k rs lo hi vs hs h
mutual
theorem Fl.Has.wide' {w:World}:∀(f:Fl) (lo hi lo' hi':Nat) (v:Value),lo'<=lo->hi<=hi'->f.Has w lo hi v->f.Has w lo' hi' v
 | .b l,lo,hi,lo',hi',v,a,b,h=>by
  exact U150
 | .i l,lo,hi,lo',hi',v,a,b,h=>by
  exact U150
 | .n x,lo,hi,lo',hi',v,a,b,h=>by unfold Fl.Has at h ⊢;exact h
 | .t x,lo,hi,lo',hi',v,a,b,h=>by unfold Fl.Has at h ⊢;exact h
 | .l k rs,lo,hi,lo',hi',v,a,b,h=>by
  unfold Fl.Has at h ⊢;obtain⟨g,vs,T,e,h1,h2,h3,h4,h5⟩:=h
  exact⟨g,vs,T,e,by omega,by omega,h3,h4,bQ.wide' k rs (g+1) hi (g+1) hi' vs (zB0 _) b h5⟩
theorem bJ.wide' {w:World}:∀(r:List Fl) (lo hi lo' hi':Nat) (us:List Value),lo'<=lo->hi<=hi'->bJ w lo hi r us->bJ w lo' hi' r us
 | [],lo,hi,lo',hi',us,a,b,h=>by unfold bJ at h ⊢;exact h
 | f :: r,lo,hi,lo',hi',us,a,b,h=>by
  unfold bJ at h ⊢;obtain⟨u,us',mid,e,h1,h2,h3,h4⟩:=h
  exact⟨u,us',mid,e,by omega,by omega,Fl.Has.wide' f lo mid lo' mid u a (zB0 _) h3,bJ.wide' r mid hi mid hi' us' (zB0 _) b h4⟩
theorem bQ.wide' {w:World}(k:Nat):∀(rs:List (List Fl)) (lo hi lo' hi':Nat) (vs:List Value),lo'<=lo->hi<=hi'->bQ w k lo hi rs vs->bQ w k lo' hi' rs vs
 | [],lo,hi,lo',hi',vs,a,b,h=>by unfold bQ at h ⊢;exact h
 | r :: rs,lo,hi,lo',hi',vs,a,b,h=>by
  unfold bQ at h ⊢;obtain⟨us,vs',mid,e,hl,h1,h2,h3,h4⟩:=h
  exact⟨us,vs',mid,e,hl,by omega,by omega,bJ.wide' r lo mid lo' mid us a (zB0 _) h3,bQ.wide' k rs mid hi mid hi' vs' (zB0 _) b h4⟩
end
theorem Fl.Has.wide {w:World}{f:Fl}{lo hi lo' hi':Nat}{v:Value}(h:f.Has w lo hi v)(a:lo'<=lo)(b:hi<=hi'):f.Has w lo' hi' v:=Fl.Has.wide' f lo hi lo' hi' v a b h
theorem bJ.wide {w:World}{r:List Fl}{lo hi lo' hi':Nat}{us:List Value}(h:bJ w lo hi r us)(a:lo'<=lo)(b:hi<=hi'):bJ w lo' hi' r us:=bJ.wide' r lo hi lo' hi' us a b h
theorem bQ.wide {w:World}{k:Nat}{rs:List (List Fl)}{lo hi lo' hi':Nat}{vs:List Value}(h:bQ w k lo hi rs vs)(a:lo'<=lo)(b:hi<=hi'):bQ w k lo' hi' rs vs:=bQ.wide' k rs lo hi lo' hi' vs a b h
theorem bQ.len {w:World}{k:Nat}:∀{rs:List (List Fl)} {lo hi:Nat} {vs:List Value},bQ w k lo hi rs vs->vs.length=rs.length*k:=by
 intro rs
 induction rs with
 | nil=>intro lo hi vs h;unfold bQ at h;subst h;simp
 | cons r rs ih=>
  intro lo hi vs h;unfold bQ at h;obtain⟨us,vs',mid,rfl,hl,_,_,_,h4⟩:=h;rw[zA1,hl,ih h4,zB1,Nat.add_mul];omega
theorem bQ.snoc {w:World}{k:Nat}:∀{rs:List (List Fl)} {lo mid hi:Nat} {vs us:List Value} {r:List Fl},bQ w k lo mid rs vs->bJ w mid hi r us->us.length=k->lo<=mid->mid<=hi->bQ w k lo hi (rs++[r]) (vs++us):=by
 intro rs
 induction rs with
 | nil=>
  intro lo mid hi vs us r h h2 hl a b;unfold bQ at h;subst h;rw[List.nil_append,List.nil_append];unfold bQ
  refine⟨us,[],hi,by simp,hl,by omega,zB0 _,h2.wide a (zB0 _), ?_⟩
  unfold bQ;rfl
 | cons x rs ih=>
  intro lo mid hi vs us r h h2 hl a b;unfold bQ at h;obtain⟨us0,vs',m,rfl,hl0,h1,h3,h4,h5⟩:=h
  have:=ih h5 h2 hl V6 b
  rw[List.cons_append,zD0];unfold bQ
  exact⟨us0,vs'++us,m,rfl,hl0,h1,by omega,h4,this⟩
theorem aFm {w:World}{g:Nat}{T:TypeId}{pre us:List Value}{u:Value}(h:w.heap[g]?=some (.cells (pre++u :: us).toArray T (0,0))):w.cell? ⟨g,pre.length,none⟩=some u:=by
 rw[cell_of_row w g pre.length _ T (0,0) h]
 simp
mutual
theorem Fl.Has.rd' {w:World}:∀(f:Fl) (lo hi:Nat) (v:Value),f.Has w lo hi v->f.Rd w v
 | .b l,lo,hi,v,h=>by
  unfold Fl.Has at h;obtain⟨g,rfl,h1,h2,h3,h4,h5⟩:=h
  exact⟨_,_,rfl,(jP h3 (zD1 _) h5 h4).row,zB0 _,h5,by simp⟩
 | .i l,lo,hi,v,h=>by
  unfold Fl.Has at h;obtain⟨g,rfl,h1,h2,h3,h4,h5⟩:=h
  exact⟨_,_,rfl,(qX h3 (zD1 _) h5 h4),zB0 _,h5,by simp⟩
 | .n x,lo,hi,v,h=>by unfold Fl.Has at h;exact h
 | .t x,lo,hi,v,h=>by unfold Fl.Has at h;exact h
 | .l k rs,lo,hi,v,h=>by
  unfold Fl.Has at h;obtain⟨g,vs,T,rfl,h1,h2,h3,h4,h5⟩:=h
  exact⟨_,_,rfl,zB0 _,h4,by simp,fun _=>⟨g,0,rfl,bQ.rd' k g T rs (g+1) hi [] vs [] (by simpa using h3) h5⟩⟩
theorem bJ.rd' {w:World}(g:Nat)(T:TypeId):∀(r:List Fl) (lo hi:Nat) (pre us post:List Value),w.heap[g]?=some (.cells (pre++us++post).toArray T (0,0))->bJ w lo hi r us->jD w g pre.length r
 | [],lo,hi,pre,us,post,hg,h=>trivial
 | f :: r,lo,hi,pre,us,post,hg,h=>by
  unfold bJ at h;obtain⟨u,us',mid,rfl,h1,h2,h3,h4⟩:=h
  have e:pre++u :: us'++post=pre++u :: (us'++post):=by simp
  refine⟨⟨u,aFm (e ▸ hg),Fl.Has.rd' f lo mid u h3⟩, ?_⟩
  have:=bJ.rd' g T r mid hi (pre++[u]) us' post V88 h4
  simpa using this
theorem bQ.rd' {w:World}(k g:Nat)(T:TypeId):∀(rs:List (List Fl)) (lo hi:Nat) (pre vs post:List Value),w.heap[g]?=some (.cells (pre++vs++post).toArray T (0,0))->bQ w k lo hi rs vs->fE w g k pre.length rs
 | [],lo,hi,pre,vs,post,hg,h=>trivial
 | r :: rs,lo,hi,pre,vs,post,hg,h=>by
  unfold bQ at h;obtain⟨us,vs',mid,rfl,hl,h1,h2,h3,h4⟩:=h;refine⟨bJ.rd' g T r lo mid pre us (vs'++post) V88 h3, ?_⟩
  have:=bQ.rd' k g T rs mid hi (pre++us) vs' post V88 h4
  rw[zA1,hl]at this;exact this
end
theorem Fl.Has.rd {w:World}{f:Fl}{lo hi:Nat}{v:Value}(h:f.Has w lo hi v):f.Rd w v:=Fl.Has.rd' f lo hi v h
theorem bJ.vals {w:World}:∀{r:List Fl} {lo hi:Nat} {us:List Value},bJ w lo hi r us->aO w r us:=by
 intro r
 induction r with
 | nil=>intro lo hi us h;unfold bJ at h;exact h
 | cons f r ih=>
  intro lo hi us h;unfold bJ at h;obtain⟨u,us',mid,e,h1,h2,h3,h4⟩:=h;exact⟨u,us',e,h3.rd,ih h4⟩
theorem U183{p:Prop}(h:p:=by
 have hr:(decide ((1:Int)<=(n:Int)) && decide ((n:Int)<=8))=false:=by simp;omega
 clear hc hl hby
 go_enter Tryz.func88,Tryz.ntmps88
 go_wp2_with fail
 refine(gL _ _ _ _).mono ?_
 rintro e w ⟨rfl,rfl⟩
 rw[hr]
 go_wp2
 go_ret
 exact⟨aE hd.out.symm,rfl⟩):p:=h
theorem U129{p:Prop}(h:p:=by
 go_wp2
 go_round
 case rel=>exact⟨j+1,by omega,by go_num,iZ Af.out HN.out⟩
 case measure=>simp[intOf];omega):p:=h
theorem U154{p:Prop}(h:p:=by
 go_wp2
 go_ret
 exact⟨aE HD.out.symm,rfl⟩):p:=h
theorem gL (n lo hi:Int)(w:World):
  Calls Tryz.prog 23 #[.int .i64 n,.int .i64 lo,.int .i64 hi] w fun e w'=>e=.returned (.bool (decide (lo<=n) && decide (n<=hi)))/\w'=w:=by
 by_cases h1:lo<=n
 .
  go_enter Tryz.func23,Tryz.ntmps23;go_wp2;go_ret
  exact⟨aE (by simp[h1]),rfl⟩
 .
  go_enter Tryz.func23,Tryz.ntmps23;go_wp2;go_ret;exact⟨aE V52,rfl⟩
theorem wK (x:Int)(w:World):Calls Tryz.prog 129 #[.int .u8 x] w fun e w'=>e=.returned (.bool (tO x))/\w'=w:=by
 by_cases h1:97<=x
 .
  go_enter Tryz.func129,Tryz.ntmps129;go_wp2;go_ret
  exact⟨aE (by simp[tO,h1]),rfl⟩
 .
  go_enter Tryz.func129,Tryz.ntmps129;go_wp2;go_ret
  exact⟨aE (by simp[tO];omega),rfl⟩
theorem aEw (x:Int)(w:World):Calls Tryz.prog 130 #[.int .u8 x] w fun e w'=>e=.returned (.bool (aFk x))/\w'=w:=by
 by_cases h1:48<=x
 .
  go_enter Tryz.func130,Tryz.ntmps130;go_wp2;go_ret
  exact⟨aE (by simp[aFk,h1]),rfl⟩
 .
  go_enter Tryz.func130,Tryz.ntmps130;go_wp2;go_ret
  exact⟨aE (by simp[aFk];omega),rfl⟩
theorem aEv (x:Int)(g:Bool)(w:World):Calls Tryz.prog 128 #[.int .u8 x,.bool g] w fun e w'=>e=.returned (.bool (if g then upB x else tO x))/\w'=w:=by
 cases g
 .
  go_enter Tryz.func128,Tryz.ntmps128;go_wp2_with fail;refine(wK _ _).mono ?_;rintro e w ⟨rfl,rfl⟩;go_wp2;go_ret;exact⟨rfl,rfl⟩
 .
  by_cases h1:65<=x
  .
   go_enter Tryz.func128,Tryz.ntmps128;go_wp2;go_ret
   exact⟨aE (by simp[upB,h1]),rfl⟩
  .
   go_enter Tryz.func128,Tryz.ntmps128;go_wp2;go_ret
   exact⟨aE (by simp[upB];omega),rfl⟩
set_option maxHeartbeats 4000000 in
theorem dX (a:Option Addr)(n c:Nat)(l:List Int)(g:Bool)(w:World)(h:bW w a n l)(hn:n<=1073741824)(hnc:n<=c):
  Calls Tryz.prog 88 #[.slice a n c,.bool g] w fun e w'=>e=.returned (.bool (aK l g))/\w'=w:=by
 obtain⟨hl,hby,hc⟩:=h
 by_cases h0:n<1
 .
  have hd:Hid (aK l g=false):=dF V6
  exact U183
 by_cases h8:8<n
 .
  have hd:Hid (aK l g=false):=oP V6
  exact U183
 obtain⟨b,off,rfl,hd⟩:=hc V6;clear hc
 have hr:(decide ((1:Int)<=(n:Int)) && decide ((n:Int)<=8))=true:=by simp;omega
 have Hl:Hid (l.length=n):=hl
 clear hl
 have hx0:w.cell? ⟨b,off,none⟩=some (.int .u8 (l[0]?.getD 0)):=by simpa using hd 0 V6
 have Ar:=oZ hby 0
 have H0:Hid (oO l g 0=(if g then upB (l[0]?.getD 0) else tO (l[0]?.getD 0))):=by show oO l g 0=_;simp[oO]
 generalize hxx:l[0]?.getD 0=x at *;clear hxx;go_enter Tryz.func88,Tryz.ntmps88;go_wp2_with fail;refine(gL _ _ _ _).mono ?_;rintro e w ⟨rfl,rfl⟩;rw[hr];go_wp2_with fail;refine(aEv _ _ _).mono ?_;rintro e w ⟨rfl,rfl⟩
 cases hf:(if g then upB x else tO x)
 .
  have HD:Hid (aK l g=false):=kE V68 (H0.out.trans hf)
  clear hf hd;exact U154
 have HF:Hid (oO l g 0=true):=H0.out.trans hf
 clear hf H0 hr hx0
 by_cases hn1:n=1
 .
  have HD:Hid (aK l g=true):=mM V68 V68 (by
   rw[Hl.out,hn1];intro m hm;have:m=0:=V6
   subst this;exact HF.out)
  subst hn1;clear hd HF Hl hby;go_wp2
  all_goals
   refine zH2 1 ?_;rw[zE2];exact U154
 have hc1:¬c=1:=V6;go_wp2
 go_loop [6,22] (fun _ i=>∃j:Nat,j+1<=n/\i=.int .i64 j/\Hid (∀m<j+1,oO l g m=true)) (fun _ i=>n-(intOf i).toNat)
 case atStart=>exact⟨0,by omega,rfl,by intro m hm;(have:m=0:=by omega);subst this;exact HF.out⟩
 case round=>
  obtain⟨j,hj,rfl,Af⟩:=hrel
  by_cases Ai:j+1<n
  .
   have hx:=hd (j+1) Ai
   have hx1:w.cell? ⟨b,off+1+j,none⟩=some (.int .u8 (l[j+1]?.getD 0)):=by rw[<-hx];congr 2;omega
   have hb:=oZ hby (j+1);clear hd hby hx
   have HL:Hid (j+1<l.length):=by show j+1<l.length;rw[Hl.out];exact Ai
   generalize hxx:l[j+1]?.getD 0=y at *
   have HX:Hid (oO l g (j+1)=(tO y || aFk y)):=by show oO l g (j+1)=_;simp[oO,hxx]
   clear hxx;go_wp2_with fail;refine(wK _ _).mono ?_;rintro e w ⟨rfl,rfl⟩
   cases h1:tO y
   .
    go_wp2_with fail;refine(aEw _ _).mono ?_;rintro e w ⟨rfl,rfl⟩
    cases h2:aFk y
    .
     have HD:Hid (aK l g=false):=kE HL.out (by rw[HX.out,h1,h2];rfl)
     clear h1 h2;exact U154
    .
     have HN:Hid (oO l g (j+1)=true):=by show oO l g (j+1)=true;rw[HX.out,h1,h2];rfl
     clear h1 h2;exact U129
   .
    have HN:Hid (oO l g (j+1)=true):=by show oO l g (j+1)=true;rw[HX.out,h1];rfl
    clear h1;exact U129
  .
   clear hd;go_wp2;go_ret;have hjn:j+1=n:=V6;subst hjn
   exact⟨aE (mM V68 V68 (by rw[Hl.out];exact Af.out)).symm,rfl⟩
end Go.Proofs.YtegkhlkjfeafjaaGreatDoor

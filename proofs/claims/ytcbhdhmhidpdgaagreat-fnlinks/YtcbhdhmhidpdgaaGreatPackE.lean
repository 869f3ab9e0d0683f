import Derived.Test.YtcbhdhmhidpdgaaGreatPackC
import Derived.Laws.AppendOwnNone
import Derived.Laws.BytesArg
import Derived.Deep.RegionHeld3
import Derived.Deep.QuietTactic
import Derived.BigQuiet
namespace Go.Proofs.YtcbhdhmhidpdgaaGreat
open Go.RowKit
set_option linter.unusedVariables false
set_option linter.unusedSimpArgs false
set_option maxRecDepth 100000
set_option maxHeartbeats 4000000
section
variable{T base g hi i lo off:Nat}{a:Option Addr}{t:TypeId}{v x y z:Value}{w w':World}
inductive Fd where
 | b (l:List Int)| n (x:Int)
structure R3 where
 x:Value
 y:Value
 z:Value
structure D3 where
 x:Fd
 y:Fd
 z:Fd
def R3.vals (r:R3):List Value:=[r.x,r.y,r.z]
def jG:List R3->List Value
 | []=>[]| r :: l=>r.vals++jG l
theorem vF (l m:List R3):jG (l++m)=jG l++jG m:=by
 induction l with
 | nil=>rfl| cons x l ih=>simp[jG,ih]
theorem aE1 (l:List R3):(jG l).length=l.length*3:=by
 induction l with
 | nil=>rfl| cons x l ih=>simp[jG,R3.vals,ih];omega
theorem aIk (l:List R3)(k i:Nat)(hi:i<3)(r:R3)(hk:l[k]?=some r):(jG l)[k*3+i]?=r.vals[i]?:=by
 induction l generalizing k with
 | nil=>simp at hk| cons y l ih=>
  cases k with
  | zero=>
   simp only[List.getElem?_cons_zero,zG2]at hk;subst hk;rw[jG,Nat.zero_mul,zJ1,List.getElem?_append_left (by simpa [R3.vals] using hi)]
  | succ k=>
   rw[List.getElem?_cons_succ]at hk;have e:(k+1)*3+i=y.vals.length+(k*3+i):=by simp[R3.vals];omega
   rw[jG,e,List.getElem?_append_right A0,Nat.add_sub_cancel_left];exact ih k hk
def aRy (w:World)(a:Option Addr)(n:Nat)(l:List R3):Prop:=
 l.length=n/\(0<n->∃b off,a=some ⟨b,off,none⟩/\∀k v,(jG l)[k]?=some v->w.cell? ⟨b,off+k,none⟩=some v)
theorem aRy.below{n:Nat}{l:List R3}(h:aRy w a n l)(hb:Below w.heap.size w w'):aRy w' a n l:=by
 refine⟨h.1,fun hn=>?_⟩;obtain⟨b,off,ha,hc⟩:=h.2 hn;refine⟨b,off,ha,fun k v hv=>?_⟩;have:=hc k v hv;rw[hb.cell (zI2 w _ this)];exact this
theorem aLh{b k:Nat}{l:List R3}(hc:∀k v,(jG l)[k]?=some v->w.cell? ⟨b,off+k,none⟩=some v){r:R3}(hk:l[k]?=some r):
  w.cell? ⟨b,off+k*3,none⟩=some r.x/\w.cell? ⟨b,off+k*3+1,none⟩=some r.y/\w.cell? ⟨b,off+k*3+2,none⟩=some r.z:=by
 have h:∀i,i<3->∀v,r.vals[i]?=some v->w.cell? ⟨b,off+k*3+i,none⟩=some v:=by
  intro i hi v hv;rw[Nat.add_assoc];exact hc _ _ ((aIk l k i hi r hk).trans hv)
 exact⟨h 0 A0 _ rfl,h 1 A0 _ rfl,h 2 A0 _ rfl⟩
def Fd.Read (w:World)(v:Value):Fd->Prop
 | .b l=>∃a c,v=.slice a l.length c/\aV w a l.length l/\l.length<=c/\c<=maxLen/\(a=none->c=0)| .n x=>v=.int .i64 x
theorem Fd.Read.below {w w':World}{v:Value}{f:Fd}(h:f.Read w v)(hb:Below w.heap.size w w'):f.Read w' v:=by
 cases f with
 | b l=>obtain⟨a,c,e,hr,r⟩:=h;exact⟨a,c,e,hr.below hb,r⟩| n x=>exact h
def Rd (w:World)(r:R3)(d:D3):Prop:=d.x.Read w r.x/\d.y.Read w r.y/\d.z.Read w r.z
theorem Rd.below {w w':World}{r:R3}{d:D3}(h:Rd w r d)(hb:Below w.heap.size w w'):Rd w' r d:=⟨h.1.below hb,h.2.1.below hb,h.2.2.below hb⟩
def jH (w:World)(a:Option Addr)(n:Nat)(ds:List D3):Prop:=
 ds.length=n/\∃l:List R3,aRy w a n l/\∀(i:Nat) (r:R3) (d:D3),l[i]?=some r->ds[i]?=some d->Rd w r d
theorem jH.below {w w':World}{a:Option Addr}{n:Nat}{ds:List D3}(h:jH w a n ds)(hb:Below w.heap.size w w'):jH w' a n ds:=by
 obtain⟨hl,l,hr,hd⟩:=h;exact⟨hl,l,hr.below hb,fun i r d h1 h2=>(hd i r d h1 h2).below hb⟩
theorem jH.addr{n:Nat}{ds:List D3}(h:jH w a n ds)(hn:0<n):∃b off,a=some ⟨b,off,none⟩:=by
 obtain⟨_,l,hr,_⟩:=h;obtain⟨b,off,e,_⟩:=hr.2 hn;exact⟨b,off,e⟩
theorem jH.el{b n:Nat}{ds:List D3}(h:jH w (some ⟨b,off,none⟩) n ds){k:Nat}(hk:k<n):
  ∃r d,ds[k]?=some d/\Rd w r d/\w.cell? ⟨b,off+k*3,none⟩=some r.x/\w.cell? ⟨b,off+k*3+1,none⟩=some r.y/\w.cell? ⟨b,off+k*3+2,none⟩=some r.z:=by
 obtain⟨hl,l,hr,hd⟩:=h;obtain⟨b',Lg,e,hc⟩:=hr.2 A0;simp only[zG2,Addr.mk.injEq,and_true]at e;obtain⟨rfl,rfl⟩:=e;have Ds:k<l.length:=by rw[hr.1];exact hk
 have h1:l[k]?=some l[k]:=zA0 Ds;have h2:ds[k]?=some ds[k]:=zA0 (by rw[hl];exact hk);exact⟨_,_,h2,hd k _ _ h1 h2,aLh hc h1⟩
def Fd.Has (w:World)(base:Nat)(v:Value):Fd->Prop
 | .b l=>∃a c,v=.slice a l.length c/\Own w base v l.length l| .n x=>v=.int .i64 x
theorem Fd.Has.read{f:Fd}(h:f.Has w base v):f.Read w v:=by
 cases f with
 | b l=>
  obtain⟨a,c,e,ho⟩:=h;obtain⟨a',c',e',h1,h2,h3,_⟩:=ho.shape;rw[e]at e';simp only[Value.slice.injEq,true_and]at e';obtain⟨rfl,rfl⟩:=e';refine⟨a,c,e,h3,h1,h2,fun hn=>?_⟩;rcases ho.1.2 with⟨e2,_⟩|⟨g,cap,cur,e2,_⟩
  .
   rw[e]at e2;simp only[Value.slice.injEq]at e2;exact e2.2.2
  .
   rw[e,hn]at e2;simp at e2
 | n x=>exact h
theorem Fd.Has.below {w w':World}{base:Nat}{v:Value}{f:Fd}(h:f.Has w base v)(hb:Below w.heap.size w w'):f.Has w' base v:=by
 cases f with
 | b l=>obtain⟨a,c,e,ho⟩:=h;exact⟨a,c,e,ho.below hb⟩| n x=>exact h
theorem Fd.Has.mono {w:World}{base Cm:Nat}{v:Value}{f:Fd}(h:f.Has w base v)(hb:Cm<=base):f.Has w Cm v:=by
 cases f with
 | b l=>obtain⟨a,c,e,ho⟩:=h;exact⟨a,c,e,ho.mono hb⟩| n x=>exact h
theorem Fd.Has.kept {w w':World}{base:Nat}{v:Value}{f:Fd}{row:Option Nat}(h:f.Has w base v)(hg:w.grownBy w' row)(Ae:v.ownBlock=none\/v.ownBlock ≠ row):f.Has w' base v:=by
 cases f with
 | b l=>obtain⟨a,c,e,ho⟩:=h;exact⟨a,c,e,ho.kept hg Ae⟩| n x=>exact h
theorem Fd.Has.lt {w:World}{base:Nat}{v:Value}{f:Fd}(h:f.Has w base v):∀g,v.ownBlock=some g->base<=g/\g<w.heap.size:=by
 cases f with
 | b l=>obtain⟨a,c,e,ho⟩:=h;exact ho.1.lt| n x=>intro g hg;rw[show v=.int .i64 x from h]at hg;cases hg
def Hs (w:World)(base:Nat)(r:R3)(d:D3):Prop:=d.x.Has w base r.x/\d.y.Has w base r.y/\d.z.Has w base r.z
theorem Hs.rd{r:R3}{d:D3}(h:Hs w base r d):Rd w r d:=⟨h.1.read,h.2.1.read,h.2.2.read⟩
theorem Hs.below {w w':World}{base:Nat}{r:R3}{d:D3}(h:Hs w base r d)(hb:Below w.heap.size w w'):Hs w' base r d:=⟨h.1.below hb,h.2.1.below hb,h.2.2.below hb⟩
theorem Hs.mono {w:World}{base Cm:Nat}{r:R3}{d:D3}(h:Hs w base r d)(hb:Cm<=base):Hs w Cm r d:=⟨h.1.mono hb,h.2.1.mono hb,h.2.2.mono hb⟩
def Bk (lo hi:Nat)(os:List (Option Nat)):Prop:=(∀g,some g ∈ os->lo<=g/\g<hi)/\os.Pairwise (fun a b=>a=none\/a ≠ b)
theorem Bk.append{mid:Nat}{xs ys:List (Option Nat)}(h1:Bk lo mid xs)(h2:Bk mid hi ys)(hl:lo<=mid)(hh:mid<=hi):Bk lo hi (xs++ys):=by
 refine⟨fun g hg=>?_,List.pairwise_append.2 ⟨h1.2,h2.2,fun a ha b hb=>?_⟩⟩
 .
  rcases List.mem_append.1 hg with h|h
  .
   have:=h1.1 g h;omega
  .
   have:=h2.1 g h;omega
 .
  cases a with
  | none=>exact .inl rfl| some g=>
   cases b with
   | none=>exact .inr A9| some k=>
    refine .inr fun e=>?_;have e':=Option.some.inj e;have x1:=h1.1 g ha;have x2:=h2.1 k hb;omega
theorem Bk.mono{hi':Nat}{os:List (Option Nat)}(h:Bk lo hi os)(hh:hi<=hi'):Bk lo hi' os:=⟨fun g hg=>by have:=h.1 g hg;omega,h.2⟩
theorem Bk.low{lo':Nat}{os:List (Option Nat)}(h:Bk lo hi os)(hh:lo'<=lo):Bk lo' hi os:=⟨fun g hg=>by have:=h.1 g hg;omega,h.2⟩
theorem Bk.nil {lo hi:Nat}:Bk lo hi []:=⟨by simp,List.Pairwise.nil⟩
theorem Bk.one(h1:lo<=g)(h2:g<hi):Bk lo hi [some g]:=⟨by intro k hk;simp at hk;omega,List.pairwise_singleton _ _⟩
structure aKr (w:World) (T:TypeId) (base:Nat) (v:Value) (n:Nat) (l:List R3) (ds:List D3):Prop where
 row:w.ownsRow base T 3 v n (jG l)
 len:l.length=n
 lend:ds.length=n
 has:∀(i:Nat) (r:R3) (d:D3),l[i]?=some r->ds[i]?=some d->Hs w base r d
theorem rU{n:Nat}{xs:List Value}(h:w.ownsRow base T 3 v n xs)(hb:Below w.heap.size w w'):w'.ownsRow base T 3 v n xs:=by
 refine⟨h.1, ?_⟩;rcases h.2 with hn|⟨g,cap,cur,hv,hg,hh,r⟩
 .
  exact .inl hn
 .
  exact .inr ⟨g,cap,cur,hv,hg,by rw[hb.block g (zI3.1 hh).1];exact hh,r⟩
theorem aKr.below {w w':World}{T base n:Nat}{v:Value}{l:List R3}{ds:List D3}(h:aKr w T base v n l ds)(hb:Below w.heap.size w w'):aKr w' T base v n l ds:=
 ⟨rU h.row hb,h.len,h.lend,fun i r d h1 h2=>(h.has i r d h1 h2).below hb⟩
theorem aKr.mono {w:World}{T base Cm n:Nat}{v:Value}{l:List R3}{ds:List D3}(h:aKr w T base v n l ds)(hb:Cm<=base):aKr w T Cm v n l ds:=by
 refine⟨⟨h.row.1, ?_⟩,h.len,h.lend,fun i r d h1 h2=>(h.has i r d h1 h2).mono hb⟩;rcases h.row.2 with hn|⟨g,cap,cur,hv,hg,hh,r⟩
 .
  exact .inl hn
 .
  exact .inr ⟨g,cap,cur,hv,by omega,hh,r⟩
theorem aKr.shape{n:Nat}{l:List R3}{ds:List D3}(h:aKr w T base v n l ds):
  ∃a c,v=.slice a n c/\n<=c/\c<=maxLen/\(a=none->c=0)/\jH w a n ds:=by
 have hd:=fun (i:Nat) (r:R3) (d:D3) h1 h2=>(h.has i r d h1 h2).rd;obtain⟨⟨Af,hr⟩,hl,hld,_⟩:=h;rcases hr with⟨rfl,rfl⟩|⟨g,cap,cur,rfl,hg,hh,Fu,Pd,hs,ht⟩
 .
  exact⟨none,0,rfl,by omega,by simp,fun _=>rfl,hld,l,⟨hl,by omega⟩,hd⟩
 .
  refine⟨some ⟨g,0,none⟩,cap,rfl,Fu,Pd,by simp,hld,l,⟨hl,fun hn=>⟨g,0,rfl,fun i v hv=>?_⟩⟩,hd⟩;rw[zJ1,cell_of_row w g i cur _ (0,0) hh];have hi:i<(jG l).length:=(zC1.1 hv).1;rw[aE1,hl]at hi;have e:(cur.toList.take (n*3))[i]?=cur[i]?:=by rw[List.getElem?_take,if_pos hi];simp
  rw[<-e,ht];exact hv
def B3 (w:World)(g:Nat)(t:TypeId)(x y z:Value):Prop:=w.heap[g]?=some (.cells #[x,y,z] t (0,0))
theorem B3.facts(h:B3 w g t x y z):
  w.cell? ⟨g,0,none⟩=some x/\w.cell? ⟨g,1,none⟩=some y/\w.cell? ⟨g,2,none⟩=some z/\w.frozen? ⟨g,0,none⟩=false/\w.frozen? ⟨g,1,none⟩=false/\w.frozen? ⟨g,2,none⟩=false:=
 ⟨by rw[cell_of_row w g 0 _ _ (0,0) h];rfl,by rw[cell_of_row w g 1 _ _ (0,0) h];rfl,by rw[cell_of_row w g 2 _ _ (0,0) h];rfl,frozen_of_row w g 0 _ _ h,frozen_of_row w g 1 _ _ h,frozen_of_row w g 2 _ _ h⟩
theorem B3.below{B:Nat}(h:B3 w g t x y z)(hb:Below B w w')(hg:g<B):B3 w' g t x y z:=(hb.block g hg).trans h
theorem B3.new (w:World)(t:TypeId)(x y z:Value):B3 (w.alloc (.cells #[x,y,z] t (0,0))) w.heap.size t x y z:=zJ0 w _
theorem B3.old{o:Obj}(h:B3 w g t x y z):B3 (w.alloc o) g t x y z:=
 ((((zD2 w.heap.size w).alloc (zB0 _) o).block g (zI3.1 h).1)).trans h
theorem B3.lt(h:B3 w g t x y z):g<w.heap.size:=(zI3.1 h).1
theorem B3.other{k:Nat}(h:B3 w g t x y z)(Ae:g ≠ k):B3 (w.setCell ⟨k,i,none⟩ v) g t x y z:=(heap_setCell_other w ⟨k,i,none⟩ g v Ae).trans h
theorem aEw (w:World)(k i:Nat)(v:Value):w.grownBy (w.setCell ⟨k,i,none⟩ v) (some k):=
 ⟨rfl,rfl,rfl,by simp,fun j hj Ae=>heap_setCell_other w ⟨k,i,none⟩ j v (fun e=>Ae A86)⟩
theorem Own.other{k:Nat}{u:Value}{n:Nat}{l:List Int}(h:Own w base v n l)(Ae:v.ownBlock ≠ some k):Own (w.setCell ⟨k,i,none⟩ u) base v n l:=
 h.kept (aEw w k i u) (.inr Ae)
end
section
variable{g:Nat}{t:TypeId}{w:World}
def Fd.len:Fd->Nat
 | .b l=>l.length| .n _=>0
def D3.len (d:D3):Nat:=d.x.len+d.y.len+d.z.len
def aGa:List D3->Nat
 | []=>0| d :: l=>d.len+aGa l
theorem pK{ds:List D3}{d:D3}(h:d ∈ ds):d.len<=aGa ds:=by
 induction ds with
 | nil=>simp at h| cons x l ih=>
  rcases zG3.1 h with rfl|h
  .
   simp[aGa]
  .
   have:=ih h;simp[aGa];omega
structure ObL where
 name:List Int
 ex:List D3
 im:List D3
 data:Int
 code:List Int
structure O5 where
 x:Value
 e:Value
 i:Value
 d:Value
 c:Value
def isE (d:D3):Prop:=∃l p q,d=(⟨.b l,.n p,.n q⟩:D3)
def isM (d:D3):Prop:=∃l l2 p,d=(⟨.b l,.b l2,.n p⟩:D3)
def DV (w:World)(v:Value)(ds:List D3):Prop:=∃a c,v=.slice a ds.length c/\jH w a ds.length ds/\ds.length<=c/\c<=maxLen/\(a=none->c=0)
theorem DV.below {w w':World}{v:Value}{ds:List D3}(h:DV w v ds)(hb:Below w.heap.size w w'):DV w' v ds:=by
 obtain⟨a,c,e,hr,r⟩:=h;exact⟨a,c,e,hr.below hb,r⟩
structure vV (w:World) (o:O5) (b:ObL):Prop where
 nm:(Fd.b b.name).Read w o.x
 ex:DV w o.e b.ex
 im:DV w o.i b.im
 dt:o.d=.int .i64 b.data
 cd:(Fd.b b.code).Read w o.c
 exs:∀d ∈ b.ex,isE d
 ims:∀d ∈ b.im,isM d
theorem vV.below {w w':World}{o:O5}{b:ObL}(h:vV w o b)(hb:Below w.heap.size w w'):vV w' o b:=
 ⟨h.nm.below hb,h.ex.below hb,h.im.below hb,h.dt,h.cd.below hb,h.exs,h.ims⟩
theorem vV.shape{o:O5}{b:ObL}(h:vV w o b):∃a1 c1 a2 c2 a3 c3 a4 c4,o=⟨.slice a1 b.name.length c1,.slice a2 b.ex.length c2,.slice a3 b.im.length c3,.int .i64 b.data,.slice a4 b.code.length c4⟩:=by
 obtain⟨x,e,i,d,c⟩:=o;obtain⟨⟨a1,c1,h1,_⟩,⟨a2,c2,h2,_⟩,⟨a3,c3,h3,_⟩,h4,⟨a4,c4,h5,_⟩,_,_⟩:=h;simp only at h1 h2 h3 h4 h5;exact⟨a1,c1,a2,c2,a3,c3,a4,c4,by rw[h1,h2,h3,h4,h5]⟩
def osz (b:ObL):Nat:=b.name.length+(b.ex.length+aGa b.ex)+(b.im.length+aGa b.im)+b.code.length
theorem aJ1{b:ObL}(h:osz b<=1048576)(hs:∀d ∈ b.ex,isE d):∀d ∈ b.ex,∃l p q,d=(⟨.b l,.n p,.n q⟩:D3)/\l.length<=1048576:=by
 intro d hd;obtain⟨l,p,q,rfl⟩:=hs d hd;have:=pK hd;simp only[D3.len,Fd.len]at this;unfold osz at h;exact⟨l,p,q,rfl,by omega⟩
theorem aJ0{b:ObL}(h:osz b<=1048576)(hs:∀d ∈ b.im,isM d):∀d ∈ b.im,∃l l2 p,d=(⟨.b l,.b l2,.n p⟩:D3)/\l.length<=1048576/\l2.length<=1048576:=by
 intro d hd;obtain⟨l,l2,p,rfl⟩:=hs d hd;have:=pK hd;simp only[D3.len,Fd.len]at this;unfold osz at h;exact⟨l,l2,p,rfl,by omega,by omega⟩
def B5 (w:World)(g:Nat)(t:TypeId)(o:O5):Prop:=w.heap[g]?=some (.cells #[o.x,o.e,o.i,o.d,o.c] t (0,0))
theorem B5.facts{o:O5}(h:B5 w g t o):
  w.cell? ⟨g,0,none⟩=some o.x/\w.cell? ⟨g,1,none⟩=some o.e/\w.cell? ⟨g,2,none⟩=some o.i/\w.cell? ⟨g,3,none⟩=some o.d/\w.cell? ⟨g,4,none⟩=some o.c:=
 ⟨by rw[cell_of_row w g 0 _ _ (0,0) h];rfl,by rw[cell_of_row w g 1 _ _ (0,0) h];rfl,by rw[cell_of_row w g 2 _ _ (0,0) h];rfl,by rw[cell_of_row w g 3 _ _ (0,0) h];rfl,by rw[cell_of_row w g 4 _ _ (0,0) h];rfl⟩
theorem B5.below{w':World}{B:Nat}{o:O5}(h:B5 w g t o)(hb:Below B w w')(hg:g<B):B5 w' g t o:=(hb.block g hg).trans h
theorem B5.lt{o:O5}(h:B5 w g t o):g<w.heap.size:=(zI3.1 h).1
theorem B5.new (w:World)(t:TypeId)(o:O5):B5 (w.alloc (.cells #[o.x,o.e,o.i,o.d,o.c] t (0,0))) w.heap.size t o:=zJ0 w _
theorem B5.old{o:O5}{ob:Obj}(h:B5 w g t o):B5 (w.alloc ob) g t o:=
 ((((zD2 w.heap.size w).alloc (zB0 _) ob).block g (zI3.1 h).1)).trans h
theorem B5.other{k i:Nat}{o:O5}{v:Value}(h:B5 w g t o)(Ae:g ≠ k):B5 (w.setCell ⟨k,i,none⟩ v) g t o:=(heap_setCell_other w ⟨k,i,none⟩ g v Ae).trans h
end
section
variable{p:Int}{ds:List D3}{l:List Int}{j:Nat}{f:Nat->Bool}
def D3.nm (d:D3):List Int:=match d.x with
 | .b l=>l| .n _=>[]
def dup (ds:List D3)(l:List Int):Bool:=ds.any (fun d=>decide (d.nm=l))
def jY (n lo hi:Int):Bool:=decide (lo<=n) && decide (n<=hi)
def aT6 (d:D3):Bool:=match d with
 | ⟨.b l,.n p,.n q⟩=>aO l false && jY p 0 2147483647 && jY q 0 4000| _=>false
def aTm (d:D3):Bool:=match d with
 | ⟨.b l,.b l2,.n p⟩=>aO l true && aO l2 false && jY p 0 2147483647| _=>false
def aCm (ds:List D3)(i:Nat):Bool:=match ds[i]? with
 | some d=>aT6 d && !dup (ds.take i) d.nm| none=>true
def aIb (ds:List D3)(i:Nat):Bool:=match ds[i]? with
 | some d=>aTm d| none=>true
def jA (ds:List D3):Bool:=decide (ds.length<=8) && (List.range ds.length).all (aCm ds)
def iE (ds:List D3):Bool:=decide (ds.length<=8) && (List.range ds.length).all (aIb ds)
def dF (b:ObL):Bool:=aO b.name true && jA b.ex && iE b.im && jY b.data 0 200 && decide (b.code.length<=9000)
theorem yZ{n:Nat}(h:j<n)(hb:f j=false):(List.range n).all f=false:=by
 exact QA133
theorem uA{n:Nat}(h:∀j<n,f j=true):(List.range n).all f=true:=zF3.2 fun j hj=>h j (List.mem_range.1 hj)
theorem rD(h:8<ds.length):jA ds=false:=by unfold jA;rw[zC2 (by omega:¬ds.length<=8)];rfl
theorem qZ(h:8<ds.length):iE ds=false:=by unfold iE;rw[zC2 (by omega:¬ds.length<=8)];rfl
theorem gJ(h:j<ds.length)(hb:aCm ds j=false):jA ds=false:=by unfold jA;rw[yZ h hb];simp
theorem kZ(h:j<ds.length)(hb:aIb ds j=false):iE ds=false:=by unfold iE;rw[yZ h hb];simp
theorem pW(h8:ds.length<=8)(h:∀j<ds.length,aCm ds j=true):jA ds=true:=by unfold jA;rw[uA h,zB3 h8];rfl
theorem pP(h8:ds.length<=8)(h:∀j<ds.length,aIb ds j=true):iE ds=true:=by unfold iE;rw[uA h,zB3 h8];rfl
theorem sS{q:Int}(h:ds[j]?=some ⟨.b l,.n p,.n q⟩):aCm ds j=(aO l false && jY p 0 2147483647 && jY q 0 4000 && !dup (ds.take j) l):=by
 unfold aCm;rw[h];rfl
theorem aEp{l2:List Int}(h:ds[j]?=some ⟨.b l,.b l2,.n p⟩):aIb ds j=(aO l true && aO l2 false && jY p 0 2147483647):=by
 unfold aIb;rw[h];rfl
theorem aAv{k:Nat}{d:D3}(h:ds[k]?=some d):dup (ds.take (k+1)) l=(dup (ds.take k) l || decide (d.nm=l)):=by
 obtain⟨hk,rfl⟩:=zC1.1 h;unfold dup;rw[zF1 hk,List.any_append];simp
theorem sU{k:Nat}{d:D3}(h:ds[k]?=some d)(e:d.nm=l):dup ds l=true:=by
 unfold dup;rw[List.any_eq_true];exact⟨d,zA3 h,by simp[e]⟩
theorem jH.take {w:World}{a:Option Addr}{n i:Nat}{ds:List D3}(h:jH w a n ds)(hi:i<=n):jH w a i (ds.take i):=by
 obtain⟨hl,l,hr,hd⟩:=h;refine⟨by rw[List.length_take,hl,Nat.min_eq_left hi],l.take i,⟨by rw[List.length_take,hr.1,Nat.min_eq_left hi],fun hp=>?_⟩,fun j r d h1 h2=>?_⟩
 .
  obtain⟨b,off,e,hc⟩:=hr.2 A0;refine⟨b,off,e,fun k v hv=>hc k v ?_⟩;have:=vF (l.take i) (l.drop i);rw[List.take_append_drop]at this;rw[this,List.getElem?_append_left (zC1.1 hv).1];exact hv
 .
  have g1:j<i:=by have:=(zC1.1 h1).1;simp at this;omega
  rw[List.getElem?_take,if_pos g1]at h1 h2;exact hd j r d h1 h2
end
section
variable{T j:Nat}{w w1 w2:World}
theorem Blk.setAll {g:Nat}{T:TypeId}:∀(us:List Value) {W:World} {pre old post:List Value},Blk W g T (pre++old++post)->old.length=us.length->Blk (setAll W g pre.length us) g T (pre++us++post):=by
 intro us;induction us with
 | nil=>intro W pre old post h hl;have:old=[]:=zE0 hl;subst this;exact h| cons u us ih=>
  intro W pre old post h hl;cases old with
  | nil=>simp at hl| cons x old=>
   have h1:=h.set (i:=pre.length) u;have e:(pre++x :: old++post).set pre.length u=(pre++[u])++old++post:=by simp
   rw[e]at h1;have h2:=ih h1 (by simpa using hl);have e2:(pre++[u]).length=pre.length+1:=by simp
   rw[e2]at h2;simpa [Go.Proofs.YtcbhdhmhidpdgaaGreat.setAll] using h2
structure TL (w wr:World) (T K n j:Nat) (rs:List (List Fl)) (vs rest:List Value):Prop where
 len:rest.length=(n-j)*K
 blk:Blk wr w.heap.size T (vs++rest)
 has:bF wr K (w.heap.size+1) wr.heap.size (rs.take j) vs
 lenr:rs.length=n
 leqj:j<=n
 below:Below w.heap.size w wr
theorem TL.start{wr:World}{K n:Nat}{rs:List (List Fl)}{xs:List Value}(hn:rs.length=n)(h:wr.ownsRow w.heap.size T K (.slice (some ⟨w.heap.size,0,none⟩) n n) n xs)(hg:w.grownBy wr none):∃vs rest,TL w wr T K n 0 rs vs rest:=by
 have hl:=h.1;rcases h.2 with⟨h',_⟩|⟨g',cap,cur,h',_,Et,_,_,hs,ht⟩
 .
  simp at h'
 .
  simp only[Value.slice.injEq,zG2,Addr.mk.injEq,and_true,true_and]at h';obtain⟨rfl,rfl⟩:=h';rw[zD3 A12]at ht;refine⟨[],xs,by simpa using hl, ?_, ?_,hn,zD1 _,(zD2 _ _).grown hg (zB0 _) (by intro k hk;cases hk)⟩
  .
   show wr.heap[w.heap.size]?=_
   rw[Et,<-ht];simp
  .
   rw[List.take_zero];unfold bF;rfl
theorem TL.vlen{wr:World}{K n:Nat}{rs:List (List Fl)}{vs rest:List Value}(h:TL w wr T K n j rs vs rest):vs.length=j*K:=by
 rw[h.has.len,List.length_take,h.lenr,Nat.min_eq_left h.leqj]
theorem TL.call{K n:Nat}{rs:List (List Fl)}{vs rest:List Value}(h:TL w w1 T K n j rs vs rest)(hb:Below w1.heap.size w1 w2):TL w w2 T K n j rs vs rest:=
 ⟨h.len,h.blk.below hb h.blk.lt,(h.has.stays (fH.of hb (zB0 _))).wide (zB0 _) hb.size,h.lenr,h.leqj,h.below.trans (hb.mono h.below.size)⟩
theorem TL.cells{wr:World}{K n:Nat}{rs:List (List Fl)}{vs rest:List Value}(h:TL w wr T K n j rs vs rest)(hj:j<n):∀i,i<K->∃v,wr.cell? ⟨w.heap.size,j*K+i,none⟩=some v:=by
 intro i hi;have hv:=h.vlen;have hr:=h.len;have hp:K<=(n-j)*K:=Nat.le_mul_of_pos_left K A0;have Ad:i<rest.length:=A0;refine⟨rest[i],h.blk.cell ?_⟩;rw[List.getElem?_append_right A0,hv,Nat.add_sub_cancel_left];exact zA0 Ad
theorem TL.step{K n:Nat}{rs:List (List Fl)}{vs rest us:List Value}{r:List Fl}(h:TL w w1 T K n j rs vs rest)(hj:j<n)(hb:Below w1.heap.size w1 w2)(hr:rs[j]?=some r)(hl:us.length=K)(hh:bT w2 w1.heap.size w2.heap.size r us):
  TL w (setAll w2 w.heap.size (j*K) us) T K n (j+1) rs (vs++us) (rest.drop K):=by
 have h2:=h.call hb;have hv:=h.vlen;have hp:K<=(n-j)*K:=Nat.le_mul_of_pos_left K A0;have Qt:=h.len;have hb1:Blk (setAll w2 w.heap.size (j*K) us) w.heap.size T ((vs++us)++rest.drop K):=by
  have e:vs++rest=vs++rest.take K++rest.drop K:=by rw[zD0,List.take_append_drop]
  have:=h2.blk;rw[e]at this;have h3:=this.setAll us (by rw[List.length_take,hl];omega);rw[hv]at h3;exact h3
 have hlt1:=h.blk.lt;have An:bF w2 K (w.heap.size+1) w2.heap.size (rs.take (j+1)) (vs++us):=by
  obtain⟨hk,e⟩:=zC1.1 hr;rw[zF1 hk,e];exact(h.has.stays (fH.of hb (zB0 _))).snoc hh hl A0 hb.size
 have Cd:∀(l:List Value) (W:World) (i:Nat),Below w.heap.size w W->bF W K (w.heap.size+1) w2.heap.size (rs.take (j+1)) (vs++us)->Below w.heap.size w (setAll W w.heap.size i l)/\bF (setAll W w.heap.size i l) K (w.heap.size+1) w2.heap.size (rs.take (j+1)) (vs++us):=by
  intro l;induction l with
  | nil=>intro W i a b;exact⟨a,b⟩| cons v l ih=>intro W i a b;exact ih _ _ (a.setCell A9 v) (b.stays (fH.put (.inl A0)))
 obtain⟨k1,k2⟩:=Cd us w2 (j*K) h2.below An;refine⟨?_,hb1, ?_,h.lenr,by omega,k1⟩
 .
  rw[List.length_drop,Qt];have:n-j=(n-(j+1))+1:=A0;rw[this,Nat.add_mul];omega
 .
  rw[wJ];exact k2
theorem bT.st:∀{r:List Fl} {lo hi:Nat} {us:List Value},bT w lo hi r us->∀(i:Nat) (u:Value),us[i]?=some u->∀(W:World) (a:Addr) (m:Mode),(store a u m).run Tryz.prog W=stored Tryz.prog W a u m:=by
 intro r;induction r with
 | nil=>intro lo hi us h i u hu;unfold bT at h;subst h;simp at hu| cons f r ih=>
  intro lo hi us h i u hu;unfold bT at h;obtain⟨x,us',mid,rfl,_,_,hf,hr⟩:=h;cases i with
  | succ i=>exact ih hr i u (by simpa using hu)
  | zero=>
   simp only[List.getElem?_cons_zero,zG2]at hu;subst hu;intro W a m;cases f <;> unfold Fl.Has at hf
   .
    obtain⟨g,rfl,_⟩:=hf;exact run_store_slice ..
   .
    obtain⟨g,rfl,_⟩:=hf;exact run_store_slice ..
   .
    subst hf;exact run_store_int ..
   .
    subst hf;exact run_store_bool ..
   .
    obtain⟨g,vs,T,rfl,_⟩:=hf;exact run_store_slice ..
theorem ToV.on{F:Nat}{f:Fl}{v:Value}(h:ToV w F f v)(hb:Below w.heap.size w w1):ToV w1 F f v:=
 fun w2 hb2=>h w2 (hb.trans (hb2.mono hb.size))
end
section
variable{l:List Oj}{j:Nat}{x:Oj}{v:Value}{w:World}
def Xp.d (x:Xp):D3:=⟨.b x.name,.n x.print,.n x.pos⟩
def Ip.d (x:Ip):D3:=⟨.b x.mod,.b x.name,.n x.print⟩
def Oj.ob (x:Oj):ObL:=⟨x.name,x.ex.map Xp.d,x.im.map Ip.d,x.data,x.code⟩
def Fd.fl:Fd->Fl
 | .b l=>.b l| .n x=>.n x
def D3.fl (d:D3):List Fl:=[d.x.fl,d.y.fl,d.z.fl]
theorem Fd.of{f:Fd}(h:f.fl.Rd w v):f.Read w v:=by
 cases f with
 | b l=>exact h| n x=>exact h
theorem aSq{b:Nat}:∀{ds:List D3} {off:Nat},dG w b 3 off (ds.map D3.fl)->∃l:List R3,l.length=ds.length/\(∀k v,(jG l)[k]?=some v->w.cell? ⟨b,off+k,none⟩=some v)/\∀(i:Nat) (r:R3) (d:D3),l[i]?=some r->ds[i]?=some d->Rd w r d:=by
 intro ds;induction ds with
 | nil=>intro off _;exact⟨[],rfl,by simp[jG],by simp⟩
 | cons d ds ih=>
  intro off h;obtain⟨⟨⟨vx,cx,hx⟩,⟨vy,cy,hy⟩,⟨vz,cz,hz⟩,_⟩,h2⟩:=h;obtain⟨l,hl,hc,hr⟩:=ih h2;refine⟨⟨vx,vy,vz⟩ :: l,by simp[hl],fun k v hv=>?_,fun i r d' h1 h2=>?_⟩
  .
   match k,hv with
   | 0,hv=>simp[jG,R3.vals]at hv;subst hv;exact cx| 1,hv=>simp[jG,R3.vals]at hv;subst hv;exact cy| 2,hv=>simp[jG,R3.vals]at hv;subst hv;exact cz| k+3,hv=>
    have:=hc k v (by simpa [jG,R3.vals] using hv);rw[show off+(k+3)=off+3+k by omega];exact this
  .
   cases i with
   | zero=>simp at h1 h2;subst h1;subst h2;exact⟨Fd.of hx,Fd.of hy,Fd.of hz⟩| succ i=>exact hr i r d' (by simpa using h1) (by simpa using h2)
theorem aQz{ds:List D3}(h:(Fl.l 3 (ds.map D3.fl)).Rd w v):DV w v ds:=by
 obtain⟨a,c,rfl,h1,h2,h3,h4⟩:=h;simp only[zB2]at h1 h4 ⊢;refine⟨a,c,rfl,⟨rfl, ?_⟩,h1,h2,h3⟩;rcases zG0 ds.length with h0|hp
 .
  exact⟨[],⟨by simp[h0],fun h=>by omega⟩,by simp⟩
 .
  obtain⟨b,off,e,hr⟩:=h4 hp;obtain⟨l,hl,hc,hd⟩:=aSq hr;exact⟨l,⟨hl,fun _=>⟨b,off,e,hc⟩⟩,hd⟩
theorem aVn (l:List Xp):(l.map Xp.d).map D3.fl=l.map Xp.fl:=by rw[List.map_map];rfl
theorem aWo (l:List Ip):(l.map Ip.d).map D3.fl=l.map Ip.fl:=by rw[List.map_map];rfl
theorem zH{v0 v1 v2 v3 v4:Value}(h:aL w x.fl [v0,v1,v2,v3,v4]):vV w ⟨v0,v1,v2,v3,v4⟩ x.ob:=by
 obtain⟨y0,_,e0,h0,y1,_,e1,h1,y2,_,e2,h2,y3,_,e3,h3,y4,_,e4,h4,e5⟩:=h;simp only[zJ3]at e0;obtain⟨rfl,rfl⟩:=e0;simp only[zJ3]at e1;obtain⟨rfl,rfl⟩:=e1;simp only[zJ3]at e2;obtain⟨rfl,rfl⟩:=e2;simp only[zJ3]at e3;obtain⟨rfl,rfl⟩:=e3;simp only[zJ3]at e4;obtain⟨rfl,rfl⟩:=e4;refine⟨h0,aQz (by rw[show x.ob.ex=x.ex.map Xp.d from rfl,aVn];exact h1),aQz (by rw[show x.ob.im=x.im.map Ip.d from rfl,aWo];exact h2),h3,h4, ?_, ?_⟩
 .
  intro d hd;obtain⟨q,_,rfl⟩:=zE1.1 hd;exact⟨_,_,_,rfl⟩
 .
  intro d hd;obtain⟨q,_,rfl⟩:=zE1.1 hd;exact⟨_,_,_,rfl⟩
theorem aNi (l:List Xp):aGa (l.map Xp.d)=aG (l.map Xp.fl):=by
 induction l with
 | nil=>rfl| cons x l ih=>simp[aGa,aG,ih,Xp.d,Xp.fl,D3.len,Fd.len,aP,Fl.len]
theorem aNj (l:List Ip):aGa (l.map Ip.d)=aG (l.map Ip.fl):=by
 induction l with
 | nil=>rfl| cons x l ih=>simp[aGa,aG,ih,Ip.d,Ip.fl,D3.len,Fd.len,aP,Fl.len]
theorem aJz (x:Oj):osz x.ob=aP x.fl:=by
 simp[osz,Oj.ob,aNi,aNj,Oj.fl,aP,Fl.len];omega
theorem cP(h:dF x.ob=true):x.ex.length<=8/\x.im.length<=8/\0<=x.data/\x.data<=200/\x.code.length<=9000/\(∀(i:Nat) (y:Xp),x.ex[i]?=some y->∀(j:Nat) (z:Xp),j<i->x.ex[j]?=some z->z.name ≠ y.name)/\(∀y ∈ x.ex,0<=y.pos/\y.pos<=4000):=by
 simp only[dF,Oj.ob,jA,iE,jY,zC0,zE3,zB2]at h;obtain⟨⟨⟨⟨_,h1,h2⟩,h3,_⟩,h4,h5⟩,h6⟩:=h;have Xu:∀(i:Nat) (y:Xp),x.ex[i]?=some y->aCm (x.ex.map Xp.d) i=true:=fun i y hy=>
  zF3.1 h2 i (List.mem_range.2 (by have:=(zC1.1 hy).1;simpa using this))
 refine⟨h1,h3,of_decide_eq_true h4,of_decide_eq_true h5,of_decide_eq_true h6,fun i y hy j z hj hz e=>?_,fun y hy=>?_⟩
 .
  have:=Xu i y hy;rw[sS (l:=y.name) (p:=y.print) (q:=y.pos) (by rw[zA2,hy];rfl)]at this;simp only[zC0,Bool.not_eq_true']at this;have hd:=this.2;have Cn:dup ((x.ex.map Xp.d).take i) y.name=true:=by
   refine sU (k:=j) (d:=z.d) ?_ e;rw[List.getElem?_take,if_pos hj,zA2,hz];rfl
  rw[Cn]at hd;cases hd
 .
  obtain⟨i,hi,rfl⟩:=List.mem_iff_getElem.1 hy;have:=Xu i x.ex[i] (zA0 hi);rw[sS (l:=x.ex[i].name) (p:=x.ex[i].print) (q:=x.ex[i].pos) (by rw[zA2,zA0 hi];rfl)]at this;simp only[zC0,jY,zE3]at this;exact this.1.2
def qY:Option Nat->Int
 | some j=>(j:Int)| none=>-1
def aCl (l:List Oj)(m:List Int):Option Nat:=l.findIdx? fun o=>decide (o.name=m)
def iZ (o:Oj)(n:List Int)(p:Int):Option Nat:=o.ex.findIdx? fun x=>decide (x.name=n) && decide (x.print=p)
def aM9 (o:Oj)(n:List Int):Option Nat:=o.ex.findIdx? fun x=>decide (x.name=n)
theorem mI{α:Type}{p:α->Bool}{l:List α}{x:α}(hx:l[j]?=some x)(hp:p x=true)(Aj:∀(i:Nat) (y:α),i<j->l[i]?=some y->p y=false):l.findIdx? p=some j:=by
 rw[List.findIdx?_eq_some_iff_getElem];obtain⟨hj,e⟩:=zC1.1 hx;refine⟨hj,by rw[e];exact hp,fun i hi=>?_⟩;have:=Aj i l[i] hi (zA0 A0);simpa using this
theorem sP{α:Type}{p:α->Bool}{l:List α}(Aj:∀(i:Nat) (y:α),l[i]?=some y->p y=false):l.findIdx? p=none:=by
 rw[List.findIdx?_eq_none_iff];intro x hx;obtain⟨i,hi,rfl⟩:=List.mem_iff_getElem.1 hx;simpa using Aj i l[i] (zA0 hi)
theorem dW{α:Type}{p:α->Bool}{l:List α}(h:l.findIdx? p=some j):∃x,l[j]?=some x/\p x=true/\∀(i:Nat) (y:α),i<j->l[i]?=some y->p y=false:=by
 rw[List.findIdx?_eq_some_iff_getElem]at h;obtain⟨hj,h1,h2⟩:=h;refine⟨l[j],zA0 hj,h1,fun i y hi hy=>?_⟩;obtain⟨hi',rfl⟩:=zC1.1 hy;simpa using h2 i hi
theorem vI{α:Type}{p:α->Bool}{l:List α}(h:l.findIdx? p=none):∀(i:Nat) (y:α),l[i]?=some y->p y=false:=by
 intro i y hy;rw[List.findIdx?_eq_none_iff]at h;simpa using h y (zA3 hy)
theorem aIp{o:Oj}(hu:∀(i:Nat) (y:Xp),o.ex[i]?=some y->∀(j:Nat) (z:Xp),j<i->o.ex[j]?=some z->z.name ≠ y.name)(n:List Int)(p:Int):
  iZ o n p=match aM9 o n with
   | none=>none| some j=>if (o.ex[j]?.map Xp.print).getD 0=p then some j else none:=by
 cases h:aM9 o n with
 | none=>
  refine sP fun i y hy=>?_;have:=vI h i y hy;simp only[zH0]at this;simp[this]
 | some j=>
  obtain⟨x,hx,hp,Aj⟩:=dW h;have hpx:x.name=n:=by simpa using hp
  simp only[hx,Option.map_some,zI0];split
  .
   rename_i he;refine mI hx (by simp[hpx,he]) fun i y hi hy=>?_;have:=Aj i y hi hy;simp only[zH0]at this;simp[this]
  .
   rename_i he;refine sP fun i y hy=>?_;by_cases e:y.name=n
   .
    rcases Nat.lt_trichotomy i j with hl|rfl|hl
    .
     exact absurd (e.trans hpx.symm) (hu j x hx i y hl hy)
    .
     rw[hx]at hy;cases hy;simp[he]
    .
     exact absurd (hpx.trans e.symm) (hu i y hy j x hl hx)
   .
    simp[e]
def cQ:Wo:=⟨false,0,0,0,0,0,0⟩
def qK (f x:Nat):Wo:=⟨true,0,0,0,(x:Int),16,(f:Int)+1⟩
def aEo (pre:List Oj)(i:Ip):Option Wo:=match aCl pre i.mod with
 | none=>none| some f=>match iZ (pre[f]?.getD ⟨[],[],[],0,[]⟩) i.name i.print with
  | none=>none| some x=>some (qK f x)
def kT (l:List Oj)(j:Nat):Oj:=l[j]?.getD ⟨[],[],[],0,[]⟩
def dO (l:List Oj)(j:Nat):List Wo:=(kT l j).im.map fun i=>(aEo (l.take j) i).getD cQ
def jV (l:List Oj)(j:Nat):List Wo:=List.replicate (kT l j).data.toNat cQ
def aM (l:List Oj):Nat->List Wo
 | 0=>List.replicate 600 cQ| j+1=>aM l j++(dO l j++jV l j)
def eD (l:List Oj):Nat->List Rg
 | 0=>[]| j+1=>eD l j++[⟨((aM l j).length:Int),((aM l (j+1)).length:Int),((kT l j).im.length:Int),(kT l j).code⟩]
def fV (l:List Oj)(n:Nat):Prop:=∀j,j<n->∀i ∈ (kT l j).im,aEo (l.take j) i ≠ none
def nV:List Int:=[109,97,105,110]
def oP:Ig:=⟨[],[],0⟩
def jF (l:List Oj):Prop:=(1<=l.length/\l.length<=8)/\∀o ∈ l,dF o.ob=true
def aF8 (l:List Oj):Prop:=∀j,j<l.length->aCl l (kT l j).name=some j
inductive Lk (fm:Int) (l:List Oj):Ig->Int->Prop
 | form:¬jF l->Lk fm l oP 1| name:jF l->¬aF8 l->Lk fm l oP 2| missing:jF l->aF8 l->¬fV l l.length->Lk fm l oP 3| main:jF l->aF8 l->fV l l.length->iZ (kT l (l.length-1)) nV fm=none->Lk fm l oP 4| well (x:Nat):jF l->aF8 l->fV l l.length->iZ (kT l (l.length-1)) nV fm=some x->Lk fm l ⟨eD l l.length,aM l l.length,(((kT l (l.length-1)).ex[x]?.map Xp.pos).getD 0)⟩ 0
theorem Lk.same{fm:Int}{a b:Ig}{c d:Int}(h:Lk fm l a c)(k:Lk fm l b d):a=b/\c=d:=by
 cases h <;> cases k <;> first|exact⟨rfl,rfl⟩|contradiction|skip
 all_goals rename_i h1 h2 h3 h4
 all_goals simp_all
theorem cH{o:Oj}(h:l[j]?=some o):kT l j=o:=by unfold kT;rw[h];rfl
theorem jL (l:List Oj)(h:∀o ∈ l,o.im.length<=8/\o.data<=200):∀j,j<=l.length->(aM l j).length<=600+j*208:=by
 intro j;induction j with
 | zero=>intro _;simp only[aM,List.length_replicate];omega| succ j ih=>
  intro hj;have h1:=ih A0;have h2:=h (l[j]' A0) (List.getElem_mem _);have h3:kT l j=l[j]' A0:=cH (zA0 _);simp only[aM,zA1,dO,jV,zB2,List.length_replicate,h3];omega
end
theorem A6{p:Prop}(h:p:=by decide):p:=h
theorem A13{p:Prop}(h:p:=by unfold maxLen;omega):p:=h
theorem QA24{p:Prop}(h:p:=by
 intro j u hu
 have hp:0<(l2.map (Value.int .u8)).length:=Nat.lt_of_le_of_lt (zD1 j) (zC1.1 hu).1
 obtain⟨ad',e,hc⟩:=hr.pos hp
 cases e
 exact hc j u hu):p:=h
theorem QA73{p:Prop}(h:p:=by
 intro v' w' ho' hg' _
 exact h v' w' ⟨by simpa using ho',Bu⟩ hg'):p:=h
theorem M956{p q:Prop}(k:q)(h:Kx q->p:=by
 intro kQ
 obtain⟨i0,hi,Dc,De,Db⟩:=info_parts uS
 have Bu:∀x ∈ l++l2,0<=x/\x<=255:=fun x hx=>(List.mem_append.1 hx).elim (Ak.2 x) (hr.2.1 x)
 revert Bu;revert Db;revert De;revert Dc;revert hi;revert i0
 exact kQ.o):p:=h ⟨k⟩
theorem cC {w:World}{ops:Array Oper}{rest:List Oper}{o:Oper}{a:Act}{Q:Exit->Act->World->Prop}(Lq:o.guard=none)(s x:Operand)
  (ho:o.op=.call { callee:=.builtin .append,args:=#[s,x],argTypes:=#[22,22] })
  (base:Nat) (v:Value) (n:Nat) (l:List Int) (hs:a.eval s=v) (Ak:Own w base v n l)
  (ao:Option Addr) (m c:Nat) (l2:List Int) (hx:a.eval x=.slice ao m c) (hr:aV w ao m l2) (Ej:ao=none->c=0)
  (Bg:n+m<=1099511627776) (Ca:base<=w.heap.size)
  (h:∀v' w',Own w' base v' (n+m) (l++l2)->w.grownBy w' v.ownBlock->wpList Tryz.prog ops Q rest (a.put o.dst v') w'):wpList Tryz.prog ops Q (o :: rest) a w:=by
 refine M956 ?_;intro i0 hi Dc De Db Bu;cases ao with
 | none=>
  obtain rfl:=Ej rfl;have hm:m=0:=by
   rcases zG0 m with h0|hp
   .
    exact h0
   .
    obtain⟨b,off,e,_⟩:=hr.2.2 hp;cases e
  subst hm;obtain rfl:l2=[]:=zE0 hr.1;refine wpList_append_own_none Lq s x 22 ho base 5 i0 1 Tryz.underlying22 hi v n _ hs Ak.1 hx ?_;exact h v w (by simpa using Ak) (World.grownBy.refl _ _)
 | some ad=>
  refine wpList_append_own w Lq s x 22 ho base 5 i0 (.int .u8 0) 1 1 Tryz.underlying22 hi Dc De Db rfl A6 v n _ hs Ak.1 ad m c (l2.map (Value.int .u8)) hx (by simp[hr.1]) ?_ (ints_oneCell _ _) A13 A0 Ca ?_
  .
   exact QA24
  .
   exact QA73
theorem oY (w:World)(x:Int)(h0:0<=x)(h1:x<=255):aV (w.alloc (.cells #[.int .u8 x] 5)) (some ⟨w.heap.size,0,none⟩) 1 [x]:=by
 refine⟨rfl,by simp;omega,fun _=>⟨w.heap.size,0,rfl,fun i hi=>?_⟩⟩;obtain rfl:i=0:=A0;simp
theorem lX (w:World):Own (w.alloc (.cells #[] 5)) w.heap.size (.slice (some ⟨w.heap.size,0,none⟩) 0 0) 0 []:=
 ⟨World.ownsRow_made w #[] 0 (zB0 _) A13 rfl,by simp⟩
theorem gZ (w:World):Below w.heap.size w (w.alloc (.cells #[] 5)):=(zD2 _ _).alloc (zB0 _) _
theorem Own.alloc {w:World}{base:Nat}{v:Value}{n:Nat}{l:List Int}(h:Own w base v n l)(o:Obj):Own (w.alloc o) base v n l:=⟨h.1.alloc o,h.2⟩
theorem Own.grown {w w' wx:World}{base:Nat}{v:Value}{n:Nat}{l:List Int}(h:Own w base v n l)(hg:w.grownBy w' v.ownBlock)(hb:Below base wx w)(hB:base<=w.heap.size):Below base wx w':=
 hb.grown hg hB (fun k hk=>(h.1.lt k hk).1)
section
theorem A1{p:Prop}(h:p:=by kernel_rfl):p:=h
theorem QA92{p:Prop}(h:p:=by
 obtain⟨a,c,rfl,h1,h2,h3,_⟩:=aH h.own
 exact⟨a,c,rfl,Own.row (base:=lo) ⟨h.own,hb⟩,h1,h2,h3⟩):p:=h
theorem QA109{p:Prop}(h:p:=by
 intro v' w' ho' hg' _
 exact h v' w' ho' hg'):p:=h
variable{a:Act}{Q:Exit->Act->World->Prop}{xs:List Value}{T U base g h2 hi hi' i lo lo':Nat}{v wv:Value}{w w' w1:World}
theorem eN{n k:Nat}(h:w.ownsRow base T k v n xs)(hg:v.ownBlock=some g):∃cur,w.heap[g]?=some (.cells cur T (0,0)):=by
 rcases h.2 with⟨e,_⟩|⟨g',cap,cur,hv,_,hh,_⟩
 .
  rw[e]at hg;cases hg
 .
  rw[hv]at hg;simp only[Value.ownBlock,zG2]at hg;subst hg;exact⟨cur,hh⟩
theorem bW{n k:Nat}(h:w.ownsRow base T k v n xs)(hs:∀g,v.ownBlock=some g->w'.heap[g]?=w.heap[g]?):w'.ownsRow base T k v n xs:=by
 refine⟨h.1, ?_⟩;rcases h.2 with hn|⟨g,cap,cur,hv,hg,hh,r⟩
 .
  exact .inl hn
 .
  exact .inr ⟨g,cap,cur,hv,hg,by rw[hs g (by rw[hv];rfl)];exact hh,r⟩
theorem kG{Cm n k:Nat}(h:w.ownsRow base T k v n xs)(hb:Cm<=base):w.ownsRow Cm T k v n xs:=by
 refine⟨h.1, ?_⟩;rcases h.2 with hn|⟨g,cap,cur,hv,hg,r⟩
 .
  exact .inl hn
 .
  exact .inr ⟨g,cap,cur,hv,by omega,r⟩
theorem aH{n k:Nat}(h:w.ownsRow base T k v n xs):∃a c,v=.slice a n c/\n<=c/\c<=maxLen/\(a=none->c=0)/\(0<n->∃g,a=some ⟨g,0,none⟩):=by
 rcases h.2 with⟨rfl,rfl⟩|⟨g,cap,cur,rfl,hg,hh,Fu,Pd,hs,ht⟩
 .
  exact⟨none,0,rfl,by omega,by simp,fun _=>rfl,by omega⟩
 .
  exact⟨_,cap,rfl,Fu,Pd,by simp,fun _=>⟨g,rfl⟩⟩
theorem cM{n k c:Nat}(h:w.ownsRow base T k (.slice (some ⟨g,0,none⟩) n c) n xs):∀i v,xs[i]?=some v->w.cell? ⟨g,i,none⟩=some v:=by
 intro i v hv;have hi:=(zC1.1 hv).1;rw[h.cellAt i (by have:=h.1;omega)];exact hv
structure Pc (w:World) (T:TypeId) (k lo hi:Nat) (v:Value) (n:Nat) (xs:List Value):Prop where
 own:w.ownsRow lo T k v n xs
 lt:∀g,v.ownBlock=some g->g<hi
theorem Pc.stays{k n:Nat}(h:Pc w T k lo hi v n xs)(hs:∀g,lo<=g->g<hi->(∃cur,w.heap[g]?=some (.cells cur T (0,0)))->w'.heap[g]?=w.heap[g]?):Pc w' T k lo hi v n xs:=
 ⟨bW h.own fun g hg=>hs g (h.own.lt g hg).1 (h.lt g hg) (eN h.own hg),h.lt⟩
theorem Pc.wide{k n:Nat}(h:Pc w T k lo hi v n xs)(a:lo'<=lo)(b:hi<=hi'):Pc w T k lo' hi' v n xs:=
 ⟨kG h.own a,fun g hg=>Nat.lt_of_lt_of_le (h.lt g hg) b⟩
def bVL (l:List Int):List Value:=l.map (Value.int .u8)
def aKd (l:List Int):Prop:=∀x ∈ l,0<=x/\x<=255
def Wo.vals (x:Wo):List Value:=[.bool x.t,.int .i64 x.n,.int .i64 x.l,.int .i64 x.h,.int .i64 x.a,.int .i64 x.p,.int .i64 x.s]
def cL:List Wo->List Value
 | []=>[]| x :: l=>x.vals++cL l
def Rg.vals (c:Value)(r:Rg):List Value:=[.int .i64 r.lo,.int .i64 r.hi,.int .i64 r.own,c]
def lF:List (Value × Rg)->List Value
 | []=>[]| x :: l=>x.2.vals x.1++lF l
theorem iQ (l m:List Wo):cL (l++m)=cL l++cL m:=by
 induction l with
 | nil=>rfl| cons x l ih=>simp[cL,ih]
theorem vE (l m:List (Value × Rg)):lF (l++m)=lF l++lF m:=by
 induction l with
 | nil=>rfl| cons x l ih=>simp[lF,ih]
theorem gU (l:List Wo):(cL l).length=l.length*7:=by
 induction l with
 | nil=>rfl| cons x l ih=>simp[cL,Wo.vals,ih];omega
theorem sN{l:List Wo}{j:Nat}{x:Wo}(hi:i<7)(h:l[j]?=some x):(cL l)[j*7+i]?=x.vals[i]?:=by
 induction l generalizing j with
 | nil=>simp at h| cons y l ih=>
  cases j with
  | zero=>
   simp only[List.getElem?_cons_zero,zG2]at h;subst h;rw[cL,Nat.zero_mul,zJ1,List.getElem?_append_left (by simpa [Wo.vals] using hi)]
  | succ j=>
   rw[List.getElem?_cons_succ]at h;have e:(j+1)*7+i=y.vals.length+(j*7+i):=by simp[Wo.vals];omega
   rw[cL,e,List.getElem?_append_right A0,Nat.add_sub_cancel_left];exact ih h
theorem aIi {l:List (Value × Rg)}{j i:Nat}{x:Value × Rg}(hi:i<4)(h:l[j]?=some x):(lF l)[j*4+i]?=(x.2.vals x.1)[i]?:=by
 induction l generalizing j with
 | nil=>simp at h| cons y l ih=>
  cases j with
  | zero=>
   simp only[List.getElem?_cons_zero,zG2]at h;subst h;rw[lF,Nat.zero_mul,zJ1,List.getElem?_append_left (by simpa [Rg.vals] using hi)]
  | succ j=>
   rw[List.getElem?_cons_succ]at h;have e:(j+1)*4+i=(y.2.vals y.1).length+(j*4+i):=by simp[Rg.vals];omega
   rw[lF,e,List.getElem?_append_right A0,Nat.add_sub_cancel_left];exact ih h
theorem pS (l:List Wo):∀v ∈ cL l,v.oneCell'=true:=by
 induction l with
 | nil=>simp[cL]| cons x l ih=>
  intro v hv;rw[cL,List.mem_append]at hv;rcases hv with hv|hv
  .
   simp only[Wo.vals,zG3,List.not_mem_nil,or_false]at hv;rcases hv with h|h|h|h|h|h|h <;> (rw[h];rfl)
  .
   exact ih v hv
def Cds (w:World):Nat->Nat->List (Value × Rg)->Prop
 | lo,hi,[]=>True| lo,hi,x :: l=>∃m,lo<=m/\m<=hi/\Pc w 5 1 lo m x.1 x.2.code.length (bVL x.2.code)/\aKd x.2.code/\Cds w m hi l
def qC (lo hi:Nat)(w w':World):Prop:=∀g,lo<=g->g<hi->(∃cur,w.heap[g]?=some (.cells cur 5 (0,0)))->w'.heap[g]?=w.heap[g]?
theorem qC.mono(h:qC lo hi w w')(a:lo<=lo')(b:hi'<=hi):qC lo' hi' w w':=fun g h1 h2 h3=>h g A0 A0 h3
theorem qC.of(h:fH lo hi w w'):qC lo hi w w':=fun g h1 h2 _=>h g h1 h2
theorem Cds.stays {w w':World}:∀{l:List (Value × Rg)} {lo hi:Nat},Cds w lo hi l->qC lo hi w w'->Cds w' lo hi l:=by
 intro l;induction l with
 | nil=>intro lo hi _ _;exact trivial| cons x l ih=>
  intro lo hi h hs;obtain⟨m,a,b,h1,hb,h2⟩:=h;exact⟨m,a,b,h1.stays (fun g p q r=>hs g p A0 r),hb,ih h2 (hs.mono a (zB0 _))⟩
theorem Cds.wide {w:World}:∀{l:List (Value × Rg)} {lo hi lo' hi':Nat},Cds w lo hi l->lo'<=lo->hi<=hi'->Cds w lo' hi' l:=by
 intro l;induction l with
 | nil=>intro lo hi lo' hi' _ _ _;exact trivial| cons x l ih=>
  intro lo hi lo' hi' h p q;obtain⟨m,a,b,h1,hb,h2⟩:=h;exact⟨m,by omega,by omega,h1.wide p (zB0 _),hb,ih h2 (zB0 _) q⟩
theorem Cds.snoc:∀{l:List (Value × Rg)} {lo mid hi:Nat} {x:Value × Rg},Cds w lo mid l->lo<=mid->mid<=hi->Pc w 5 1 mid hi x.1 x.2.code.length (bVL x.2.code)->aKd x.2.code->Cds w lo hi (l++[x]):=by
 intro l;induction l with
 | nil=>
  intro lo mid hi x h p q h1 hb;exact⟨hi,by omega,zB0 _,h1.wide p (zB0 _),hb,trivial⟩
 | cons y l ih=>
  intro lo mid hi x h p q h1 hb;obtain⟨m,a,b,e1,eb,e2⟩:=h;exact⟨m,a,by omega,e1,eb,ih e2 b q h1 hb⟩
theorem Pc.brow{l:List Int}(h:Pc w 5 1 lo hi v l.length (bVL l))(hb:aKd l):(Fl.b l).Rd w v:=by
 exact QA92
theorem Cds.rows:∀{l:List (Value × Rg)} {lo hi off:Nat},Cds w lo hi l->(∀i v,(lF l)[i]?=some v->w.cell? ⟨g,off+i,none⟩=some v)->dG w g 4 off (l.map fun x=>x.2.fl):=by
 intro l;induction l with
 | nil=>intro lo hi off h _;exact trivial| cons x l ih=>
  intro lo hi off h hc;obtain⟨m,a,b,h1,hb,h2⟩:=h;refine⟨⟨⟨_,hc 0 _ rfl,rfl⟩,⟨_,hc 1 _ rfl,rfl⟩,⟨_,hc 2 _ rfl,rfl⟩,⟨_,hc 3 _ rfl,h1.brow hb⟩,trivial⟩,ih h2 fun i v hv=>?_⟩;have:=hc (i+4) v (by simpa [lF,Rg.vals] using hv);rw[show off+(i+4)=off+4+i by omega]at this;exact this
theorem aR0:∀{l:List Wo} {off:Nat},(∀i v,(cL l)[i]?=some v->w.cell? ⟨g,off+i,none⟩=some v)->dG w g 7 off (l.map Wo.fl):=by
 intro l;induction l with
 | nil=>intro off _;exact trivial| cons x l ih=>
  intro off hc;refine⟨⟨⟨_,hc 0 _ rfl,rfl⟩,⟨_,hc 1 _ rfl,rfl⟩,⟨_,hc 2 _ rfl,rfl⟩,⟨_,hc 3 _ rfl,rfl⟩,⟨_,hc 4 _ rfl,rfl⟩,⟨_,hc 5 _ rfl,rfl⟩,⟨_,hc 6 _ rfl,rfl⟩,trivial⟩,ih fun i v hv=>?_⟩;have:=hc (i+7) v (by simpa [cL,Wo.vals] using hv);rw[show off+(i+7)=off+7+i by omega]at this;exact this
structure Im (w:World) (lo hi h2:Nat) (mv wv:Value) (l:List (Value × Rg)) (ws:List Wo):Prop where
 codes:Cds w lo hi l
 mrow:Pc w 32 4 lo hi mv l.length (lF l)
 wrow:Pc w 39 7 lo h2 wv ws.length (cL ws)
theorem Im.keep{mv:Value}{l:List (Value × Rg)}{ws:List Wo}(h:Im w lo hi h2 mv wv l ws)
  (hs:∀g T,lo<=g->(∃cur,w.heap[g]?=some (.cells cur T (0,0)))->(T=5/\g<hi\/T=32/\g<hi\/T=39/\g<h2)->w'.heap[g]?=w.heap[g]?):Im w' lo hi h2 mv wv l ws:=
 ⟨h.codes.stays (fun g a b r=>hs g _ a r (.inl ⟨rfl,b⟩)),h.mrow.stays (fun g a b r=>hs g _ a r (.inr (.inl ⟨rfl,b⟩))),h.wrow.stays (fun g a b r=>hs g _ a r (.inr (.inr ⟨rfl,b⟩)))⟩
theorem Im.wide {w:World}{lo hi h2 lo' hi' Xw:Nat}{mv wv:Value}{l:List (Value × Rg)}{ws:List Wo}(h:Im w lo hi h2 mv wv l ws)(a:lo'<=lo)(b:hi<=hi')(c:h2<=Xw):Im w lo' hi' Xw mv wv l ws:=
 ⟨h.codes.wide a b,h.mrow.wide a b,h.wrow.wide a c⟩
theorem Im.below{mv:Value}{l:List (Value × Rg)}{ws:List Wo}(h:Im w lo hi h2 mv wv l ws)(hb:Below w.heap.size w w'):Im w' lo hi h2 mv wv l ws:=h.keep fun g T _ ⟨c,hc⟩ _=>hb.block g (zI3.1 hc).1
theorem Im.stays{mv:Value}{l:List (Value × Rg)}{ws:List Wo}(h:Im w lo hi hi mv wv l ws)(hs:fH lo hi w w'):Im w' lo hi hi mv wv l ws:=h.keep fun g T a _ hb=>hs g a (by rcases hb with hb|hb|hb <;> exact hb.2)
theorem lV{c d:Array Value}(h:w.heap[g]?=some (.cells c T (0,0)))(k:w.heap[g]?=some (.cells d U (0,0))):T=U:=by
 rw[h]at k;simp only[zG2,Obj.cells.injEq]at k;exact k.2.1
theorem dU{n k:Nat}(h:w.ownsRow base T k v n xs)(hg:w.grownBy w' v.ownBlock){g U:Nat}(Ae:U ≠ T)(hu:∃cur,w.heap[g]?=some (.cells cur U (0,0))):w'.heap[g]?=w.heap[g]?:=by
 obtain⟨c,hc⟩:=hu;refine hg.block g (zI3.1 hc).1 fun e=>?_;obtain⟨d,hd⟩:=eN h e.symm;exact Ae (lV hc hd)
theorem aFs{vs:List Value}(h:Blk w g T vs)(hu:∃cur,w.heap[g]?=some (.cells cur U (0,0))):U=T:=by
 obtain⟨c,hc⟩:=hu;exact lV hc h
theorem Im.put{T:TypeId}{mv:Value}{l:List (Value × Rg)}{ws:List Wo}{vs:List Value}(h:Im w lo hi h2 mv wv l ws)(hb:Blk w g T vs)(hu:T ≠ 5)(hw:T ≠ 39)(hr:T ≠ 32\/hi<=g):Im (w.setCell ⟨g,i,none⟩ v) lo hi h2 mv wv l ws:=by
 refine h.keep fun g' U _ hc hU=>heap_setCell_other w ⟨g,i,none⟩ g' v fun e=>?_;have e':g'=g:=e;subst e';have hT:=aFs hb hc;subst hT;rcases hU with⟨rfl,_⟩|⟨rfl,k⟩|⟨rfl,_⟩
 .
  exact hu rfl
 .
  rcases hr with hr|hr
  .
   exact hr rfl
  .
   omega
 .
  exact hw rfl
theorem Im.words{n:Nat}{mv Mx:Value}{l:List (Value × Rg)}{ws us:List Wo}(h:Im w lo hi h2 mv wv l ws)
  (hn:us.length=n) (hr:w1.ownsRow lo 39 7 Mx (ws.length+n) (cL ws++cL us)) (hg:w.grownBy w1 wv.ownBlock):Im w1 lo hi w1.heap.size mv Mx l (ws++us):=by
 refine⟨?_, ?_, ?_⟩
 .
  exact h.codes.stays (fun g _ _ r=>dU h.wrow.own hg A6 r)
 .
  exact h.mrow.stays (fun g _ _ r=>dU h.wrow.own hg A6 r)
 .
  refine⟨?_,fun g hg=>(hr.lt g hg).2⟩;rw[zA1,hn,iQ];exact hr
theorem Im.wblk{T:TypeId}{mv:Value}{l:List (Value × Rg)}{ws:List Wo}{vs:List Value}(h:Im w lo hi h2 mv wv l ws)(hg:w.grownBy w1 wv.ownBlock)(hb:Blk w g T vs)(hT:T ≠ 39):Blk w1 g T vs:=
 (dU h.wrow.own hg hT ⟨_,hb⟩).trans hb
theorem Im.mblk{T:TypeId}{mv:Value}{l:List (Value × Rg)}{ws:List Wo}{vs:List Value}(h:Im w lo hi h2 mv wv l ws)(hg:w.grownBy w1 mv.ownBlock)(hb:Blk w g T vs)(hT:T ≠ 32):Blk w1 g T vs:=
 (dU h.mrow.own hg hT ⟨_,hb⟩).trans hb
theorem Im.mods{c0:Nat}{mv Xd c:Value}{l:List (Value × Rg)}{ws:List Wo}{r:Rg}(h:Im w lo hi h2 mv wv l ws)(Lm:lo<=hi)(Iu:hi<=c0)(hc:Pc w 5 1 c0 w.heap.size c r.code.length (bVL r.code))(hcb:aKd r.code)(Kv:c0<=w.heap.size)
  (hr:w1.ownsRow lo 32 4 Xd (l.length+1) (lF l++r.vals c)) (hg:w.grownBy w1 mv.ownBlock):Im w1 lo w1.heap.size h2 Xd wv (l++[(c,r)]) ws:=by
 have s1:=hg.size;have k3:∀A B,qC A B w w1:=fun A B g _ _ r=>dU h.mrow.own hg A6 r;refine⟨?_, ?_, ?_⟩
 .
  exact((h.codes.stays (k3 _ _)).wide (zB0 _) Iu |>.snoc (x:=(c,r)) A0 Kv (hc.stays (fun g p q r=>k3 _ _ g p q r)) hcb).wide (zB0 _) s1
 .
  refine⟨?_,fun g hg=>(hr.lt g hg).2⟩;rw[zA1,vE];simpa [lF] using hr
 .
  exact h.wrow.stays (fun g _ _ r=>dU h.mrow.own hg A6 r)
def uK (l:List (Value × Rg))(ws:List Wo)(s:Int):Ig:=⟨l.map fun x=>x.2,ws,s⟩
theorem Im.vals{mv:Value}{l:List (Value × Rg)}{ws:List Wo}(h:Im w lo hi h2 mv wv l ws)(s:Int):aL w (uK l ws s).fl [mv,wv,.int .i64 s]:=by
 refine⟨mv,_,rfl, ?_,wv,_,rfl, ?_,_,_,rfl,rfl,rfl⟩
 .
  have hr:=h.mrow.own;obtain⟨a,c,rfl,h1,h2,h3,h4⟩:=aH hr;refine⟨a,c,by simp[uK],by simpa [uK] using h1,h2,h3,fun hp=>?_⟩;obtain⟨g,rfl⟩:=h4 (by simpa [uK] using hp);refine⟨g,0,rfl, ?_⟩;have:=h.codes.rows (g:=g) (off:=0) fun i v hv=>by rw[zJ1];exact cM hr i v hv
  show dG w g 4 0 ((l.map fun x=>x.2).map Rg.fl)
  rw[List.map_map];exact this
 .
  have hr:=h.wrow.own;obtain⟨a,c,rfl,h1,h2,h3,h4⟩:=aH hr;refine⟨a,c,by simp[uK],by simpa [uK] using h1,h2,h3,fun hp=>?_⟩;obtain⟨g,rfl⟩:=h4 (by simpa [uK] using hp);exact⟨g,0,rfl,aR0 fun i v hv=>by rw[zJ1];exact cM hr i v hv⟩
theorem Im.zero (w:World)(lo:Nat):Im w lo w.heap.size w.heap.size (.slice none 0 0) (.slice none 0 0) [] []:=
 ⟨trivial,⟨World.ownsRow_nil _ _ _ _,fun g hg=>by cases hg⟩,⟨World.ownsRow_nil _ _ _ _,fun g hg=>by cases hg⟩⟩
theorem nT{P:Program}(base:Nat)(t ti ty e:TypeId)(i:TypeInfo)(z:Value)(size bytes:Nat)(ht:P.underlying t=some (.slice e))(hti:P.underlying ti=some (.int .i64))(hi:P.info? e=some i)(hz:i.zero=some z)
  (hsize:i.size=size) (Bu:i.bytes=bytes) (hzs:z.cells.size=size) (Bg:0<size) (g n cap:Nat) (xs:List Value) (Ak:w.ownsRow base e size (.slice (some ⟨g,0,none⟩) n cap) n xs) (m:Nat) (Bo:List Value) (Db:Builtin.zeroCells z.cells m=Bo.toArray) (h1:∀u ∈ Bo,u.oneCell'=true)
  (h63:n+m<=1048576) (hb:bytes<=64) (Ca:base<=w.heap.size):
  ∃v' w',(Builtin.append_ #[t,ti] ty #[.slice (some ⟨g,0,none⟩) n cap,.int .i64 (m:Int)]).run P w=.ok v' w'/\w'.ownsRow base e size v' (n+m) (xs++Bo)/\w.grownBy w' (some g):=by
 subst hsize;subst Bu;have hl:Bo.length=m*i.size:=by
  have:=congrArg Array.size Db;rw[size_zeroCells,hzs]at this;simpa using this.symm
 have Af:(xs++Bo).length=(n+m)*i.size:=by rw[zA1,Ak.1,hl,Nat.add_mul]
 have hw:IntKind.i64.wrap (m:Int)=(m:Int):=by rw[IntKind.wrap];simp[IntKind.min,IntKind.max,IntKind.bits,IntKind.signed];omega
 have h48:¬((281474976710656:Int)<(m:Int)*(i.bytes:Int)):=by
  have:m*i.bytes<=1048576*64:=Nat.mul_le_mul A0 hb;have h2:((m*i.bytes:Nat):Int)<=67108864:=A0;rw[Int.natCast_mul]at h2;omega
 rcases Ak.2 with⟨hh,_⟩|⟨g',cap',cur,hv,Lr,hg,Fu,Pd,Kv,htake⟩
 .
  cases hh
 .
  simp only[Value.slice.injEq,zG2,Addr.mk.injEq,and_true,true_and]at hv;obtain⟨rfl,rfl⟩:=hv;by_cases Ft:n+m<=cap
  .
   have Ke:n*i.size+Bo.length<=cur.size:=by rw[hl,Kv,<-Nat.add_mul];exact Nat.mul_le_mul_right _ Ft
   have hst:=run_storeCells_at P g (n*i.size) e Bo 0 cur w hg (by simpa using Ke) h1;simp only[zG1]at hst;refine⟨.slice (some ⟨g,0,none⟩) (n+m) cap,w.setRow g (cur.toList.take (n*i.size)++Bo++cur.toList.drop (n*i.size+Bo.length)).toArray, ?_,⟨Af,.inr ⟨g,cap,_,rfl,Lr,setRow_heap w g cur _ e _ hg,Ft,Pd, ?_, ?_⟩⟩,⟨rfl,rfl,rfl,by simp,fun k _ hk=>setRow_other w g k _ (fun e=>hk (by simp[e]))⟩⟩
   .
    have Yv:¬((m:Int)<0):=A0;by_cases h0:m*i.size=0
    .
     have hn:Bo=[]:=zE0 A0;subst hn;simp[Builtin.append_,run_underlying ht,run_underlying hti,sizeOf,typeInfo,zeroValue,hi,hz,asInt,asIntOf,hw,Yv,h48,Ft,h0,Addr.add_lit,hst]
    .
     simp[Builtin.append_,run_underlying ht,run_underlying hti,sizeOf,typeInfo,zeroValue,hi,hz,asInt,asIntOf,hw,Yv,h48,Ft,h0,Db,Addr.add_lit,hst]
   .
    simp only[List.size_toArray,zA1,List.length_take,List.length_drop,Array.length_toList];omega
   .
    rw[htake,<-Af];exact List.take_left
  .
   have holds:∀j u,xs[j]?=some u->w.cell? ((⟨g,0,none⟩:Addr).add j)=some u:=Ak.cells (g:=g) rfl;have Yy:=grownCap_ge w (n+m) cap e;have hcm2:grownCap w (n+m) cap e<=maxLen:=grownCap_le_maxLen w (n+m) cap e A13;have Yv:¬((m:Int)<0):=A0;have h63':¬(9223372036854775807<((n:Int)+(m:Int))):=A0;have Ke:=growslice_fits (bytes:=i.bytes) (show cap<n+m by omega) (by
    have:(n+m)*i.bytes<=1048576*64:=Nat.mul_le_mul A0 hb;omega)
   have h48':¬(281474976710656<Builtin.nextslicecap (n+m) cap*i.bytes):=A0;have hfo:=run_firstCells_some (P:=P) w.drew i.size n ⟨g,0,none⟩ n cap xs Ak.1 (by simpa using holds);have h0:¬(m*i.size=0):=by
    have:0<m*i.size:=Nat.mul_pos A0 Bg;omega
   refine⟨.slice (some ⟨w.heap.size,0,none⟩) (n+m) (grownCap w (n+m) cap e),w.drew.alloc (.cells (xs.toArray++Bo.toArray++Builtin.zeroCells z.cells (grownCap w (n+m) cap e-(n+m))) e), ?_,⟨Af,.inr ⟨w.heap.size,_,_,rfl,Ca,zJ0 w.drew _,Yy,hcm2, ?_, ?_⟩⟩,⟨rfl,rfl,rfl,by simp,fun k hk _=>((zD2 w.drew.heap.size w.drew).alloc (zB0 _) _).block k hk⟩⟩
   .
    simp[Builtin.append_,run_underlying ht,run_underlying hti,sizeOf,typeInfo,zeroValue,hi,hz,asInt,asIntOf,hw,Yv,h48,Ft,h63',h48',h0,Db,Question.forced,hfo,newRow,grownCap];congr 2;apply Array.ext';simp[zD0]
   .
    simp only[Array.size_append,List.size_toArray,size_zeroCells,hzs,Ak.1,hl,<-Nat.add_mul];congr 1;omega
   .
    simp only[Array.toList_append,zD0];rw[<-zD0,<-Af];exact List.take_left
theorem aBe (m:Nat):Builtin.zeroCells (Value.cells (.agg #[.bool false,.int .i64 0,.int .i64 0,.int .i64 0,.int .i64 0,.int .i64 0,.int .i64 0])) m=(cL (List.replicate m cQ)).toArray:=by
 apply Array.ext
 .
  rw[size_zeroCells];show m*7=(cL (List.replicate m cQ)).length
  rw[gU,List.length_replicate]
 .
  intro k h1 h2;rw[size_zeroCells]at h1;have La:k<m*7:=h1;have hj:k / 7<m:=A0;have hk:k % 7<7:=Nat.mod_lt _ A0;have e:=sN (l:=List.replicate m cQ) (j:=k / 7) hk (x:=cQ) (by rw[List.getElem?_replicate,if_pos hj]);rw[show k / 7*7+k % 7=k by omega]at e;have e2:(cL (List.replicate m cQ)).toArray[k]?=cQ.vals[k % 7]?:=by rw[List.getElem?_toArray];exact e
  rw[Array.getElem?_eq_getElem h2]at e2;have e3:(Builtin.zeroCells (Value.cells (.agg #[.bool false,.int .i64 0,.int .i64 0,.int .i64 0,.int .i64 0,.int .i64 0,.int .i64 0])) m)[k]'(by rw[size_zeroCells];exact h1)=(#[.bool false,.int .i64 0,.int .i64 0,.int .i64 0,.int .i64 0,.int .i64 0,.int .i64 0]:Array Value)[k % 7]!:=by simp[Builtin.zeroCells,Value.cells]
  rw[e3];obtain⟨r,hr⟩:=zx (k % 7);rw[<-hr]at hk e2 ⊢
  match r,hk with
  | 0,_=>simpa [cQ,Wo.vals] using e2.symm| 1,_=>simpa [cQ,Wo.vals] using e2.symm| 2,_=>simpa [cQ,Wo.vals] using e2.symm| 3,_=>simpa [cQ,Wo.vals] using e2.symm| 4,_=>simpa [cQ,Wo.vals] using e2.symm| 5,_=>simpa [cQ,Wo.vals] using e2.symm| 6,_=>simpa [cQ,Wo.vals] using e2.symm
theorem aAg:(Tryz.prog.info? 39).map (fun i=>(i.zero,i.size,i.bytes))=some (some (.agg #[.bool false,.int .i64 0,.int .i64 0,.int .i64 0,.int .i64 0,.int .i64 0,.int .i64 0]),7,56):=by kernel_rfl
theorem aQi:(Tryz.prog.info? 32).map (fun i=>(i.zero,i.size,i.bytes))=some (some (.agg #[.int .i64 0,.int .i64 0,.int .i64 0,.slice none 0 0]),4,48):=by kernel_rfl
theorem qE{ops:Array Oper}{rest:List Oper}{o:Oper}(Lq:o.guard=none)(s x:Operand)
  (ho:o.op=.call { callee:=.builtin .append,args:=#[s,x],argTypes:=#[26,3] })
  (base g n cap:Nat) (ws:List Wo) (hs:a.eval s=.slice (some ⟨g,0,none⟩) n cap) (Ak:w.ownsRow base 39 7 (.slice (some ⟨g,0,none⟩) n cap) n (cL ws)) (m:Nat) (hx:a.eval x=.int .i64 (m:Int)) (Bg:n+m<=1048576) (Ca:base<=w.heap.size)
  (h:∀v' w',w'.ownsRow base 39 7 v' (n+m) (cL ws++cL (List.replicate m cQ))->w.grownBy w' (some g)->wpList Tryz.prog ops Q rest (a.put o.dst v') w'):wpList Tryz.prog ops Q (o :: rest) a w:=by
 refine wpList_plain Lq fun K hK=>?_;obtain⟨i0,hi,Dc,De,Db⟩:=info_parts aAg;obtain⟨v',w',hr,h2,h3⟩:=nT (P:=Tryz.prog) (w:=w) base 26 3 o.type 39 i0 _ 7 56 Tryz.underlying26 A1 hi Dc De Db rfl A6 g n cap (cL ws) Ak m _ (aBe m) (pS _) Bg A6 Ca;unfold Oper.wp execOp;simp only[ho,resolve,invoke,builtin,Sem.run_bind,Sem.run_pure,Result.andThen_ok,List.map_toArray,zH2,List.map_nil,hs,hx,hr];exact hK _ _ (h v' w' h2 h3)
def WAt (w:World)(a:Option Addr)(us:List Wo):Prop:=0<us.length->∃b off,a=some ⟨b,off,none⟩/\∀i v,(cL us)[i]?=some v->w.cell? ⟨b,off+i,none⟩=some v
theorem WAt.below{a:Option Addr}{us:List Wo}(h:WAt w a us)(hb:Below w.heap.size w w'):WAt w' a us:=fun hp=>by
 obtain⟨b,off,e,hc⟩:=h hp;exact⟨b,off,e,fun i v hv=>aB (hc i v hv) hb⟩
theorem vZ{o:Oper}{K:Act->World->Prop}(s x:Operand)
  (ho:o.op=.call { callee:=.builtin .append,args:=#[s,x],argTypes:=#[26,26] })
  (base:Nat) (v:Value) (n:Nat) (ws:List Wo) (hs:a.eval s=v) (Ak:w.ownsRow base 39 7 v n (cL ws))
  (ao:Option Addr) (m c:Nat) (us:List Wo) (hx:a.eval x=.slice ao m c) (hm:us.length=m) (hr:WAt w ao us) (Ej:ao=none->c=0) (Bg:n+m<=1048576) (Ca:base<=w.heap.size)
  (h:∀v' w',w'.ownsRow base 39 7 v' (n+m) (cL ws++cL us)->w.grownBy w' v.ownBlock->K (a.put o.dst v') w'):Oper.wp Tryz.prog o a w K Q:=by
 obtain⟨i0,hi,Dc,De,Db⟩:=info_parts aAg;cases ao with
 | none=>
  obtain rfl:=Ej rfl;have Cu:m=0:=by
   rcases zG0 m with h0|hp
   .
    exact h0
   .
    obtain⟨b,off,e,_⟩:=hr A0;cases e
  subst Cu;obtain rfl:us=[]:=zE0 hm;have hrun:=run_append_owned_none (P:=Tryz.prog) (w:=w) base 26 o.type 39 i0 7 Tryz.underlying26 hi v n _ Ak;unfold Oper.wp execOp;simp only[ho,resolve,invoke,builtin,Sem.run_bind,Sem.run_pure,Result.andThen_ok,List.map_toArray,zH2,List.map_nil,hs,hx,hrun];exact h v w (by simpa [cL] using Ak) (World.grownBy.refl _ _)
 | some ad=>
  refine wp_append_own w s x 26 ho base 39 i0 _ 7 56 Tryz.underlying26 hi Dc De Db rfl A6 v n _ hs Ak ad m c (cL us) hx (by rw[gU,hm]) ?_ (pS _) A13 A0 Ca ?_
  .
   intro j u hu;have hp:0<us.length:=by
    have:=(zC1.1 hu).1;rw[gU]at this;omega
   obtain⟨b,off,e,hc⟩:=hr hp;cases e;rw[Addr.add_lit];exact hc j u hu
  .
   exact QA109
theorem lI{o:Oper}{K:Act->World->Prop}(s x:Operand)
  (ho:o.op=.call { callee:=.builtin .append,args:=#[s,x],argTypes:=#[25,25] })
  (base:Nat) (v:Value) (n:Nat) (l:List (Value × Rg)) (hs:a.eval s=v) (Ak:w.ownsRow base 32 4 v n (lF l))
  (g:Nat) (c:Value) (r:Rg) (hx:a.eval x=.slice (some ⟨g,0,none⟩) 1 1) (hr:Blk w g 32 (r.vals c)) (h1:c.oneCell'=true) (Bg:n<=1000) (Ca:base<=w.heap.size)
  (h:∀v' w',w'.ownsRow base 32 4 v' (n+1) (lF l++r.vals c)->w.grownBy w' v.ownBlock->K (a.put o.dst v') w'):Oper.wp Tryz.prog o a w K Q:=by
 obtain⟨i0,hi,Dc,De,Db⟩:=info_parts aQi;refine wp_append_own w s x 25 ho base 32 i0 _ 4 48 Tryz.underlying25 hi Dc De Db rfl A6 v n _ hs Ak ⟨g,0,none⟩ 1 1 (r.vals c) hx rfl ?_ ?_ A13 A0 Ca ?_
 .
  intro j u hu;rw[Addr.add_lit,zJ1];exact hr.cell hu
 .
  intro u hu;simp only[Rg.vals,zG3,List.not_mem_nil,or_false]at hu;rcases hu with e|e|e|e
  .
   rw[e];rfl
  .
   rw[e];rfl
  .
   rw[e];rfl
  .
   rw[e];exact h1
 .
  exact QA109
end
section
theorem QA120{p:Prop}(h:p:=by
 rcases zG0 n with h0|hp
 .
  exact h0
 .
  obtain⟨b,off,e,_⟩:=h.2.2 hp;cases e):p:=h
variable{l m:List Int}
theorem aT{w:World}{a:Option Addr}{n:Nat}(c:Nat)(h:aV w a n l):(convert 22 9 (.slice a n c)).run Tryz.prog w=.ok (.string (strOfNums l)) w:=by
 cases a with
 | none=>
  have hn:n=0:=by
   exact QA120
  have hl:=zE0 (h.1.trans hn);rw[run_convert_bytes_nil (P:=Tryz.prog) w 22 5 Tryz.underlying22 Tryz.underlying5 n c 9 Tryz.underlying9,hl];rfl
 | some ad=>
  rcases zG0 n with h0|hp
  .
   have hl:=zE0 (h.1.trans h0);subst h0;rw[run_convert_bytes_string w 22 9 5 _ 0 c Tryz.underlying22 Tryz.underlying5 Tryz.underlying9,run_bytesToString w ad 0 c [] (by simpa using run_loadCells_list (P:=Tryz.prog) w ad [] A9),hl];rfl
  .
   obtain⟨b,off,e,hc⟩:=h.2.2 hp;cases e;exact run_convert_bytes_arg (P:=Tryz.prog) w 22 5 Tryz.underlying22 Tryz.underlying5 b off n c l h.1 (fun i hi=>by rw[hc i hi];simp[List.getD]) 9 Tryz.underlying9
theorem aK7(hl:∀x ∈ l,0<=x/\x<=255)(hm:∀x ∈ m,0<=x/\x<=255):strOfNums l=strOfNums m ↔ l=m:=by
 refine⟨fun h=>?_,fun h=>by rw[h]⟩;have e:l.map (fun n=>UInt8.ofNat n.toNat)=m.map (fun n=>UInt8.ofNat n.toNat):=by
  have:=congrArg (fun s:ByteArray=>s.data.toList) h;simpa [strOfNums_data] using this
 have Af:l.length=m.length:=by simpa using congrArg List.length e
 apply List.ext_getElem Af;intro i h1 h2;have:=congrArg (fun s:List UInt8=>s[i]?) e;simp only[zA2,zA0 h1,zA0 h2,Option.map_some,zG2]at this;have b1:=hl _ (List.getElem_mem h1);have b2:=hm _ (List.getElem_mem h2);have t:=congrArg UInt8.toNat this;simp only[UInt8.toNat_ofNat']at t;omega
theorem jM(hl:∀x ∈ l,0<=x/\x<=255)(hm:∀x ∈ m,0<=x/\x<=255):((strOfNums l).toList == (strOfNums m).toList)=decide (l=m):=by
 rw[ByteArray.toList_eq,ByteArray.toList_eq];have h:=aK7 hl hm;by_cases e:l=m
 .
  subst e;simp
 .
  rw[zC2 e];have:(strOfNums l).data.toList ≠ (strOfNums m).data.toList:=fun k=>e (h.1 (by
   cases hx:strOfNums l;cases hy:strOfNums m;rw[hx,hy]at k;simpa using k))
  simpa using this
theorem jS (a1:Option Addr)(n1 c1:Nat)(l1:List Int)(a2:Option Addr)(n2 c2:Nat)(l2:List Int)(w:World)(h1:aV w a1 n1 l1)(h2:aV w a2 n2 l2):
  Calls Tryz.prog 34 #[.slice a1 n1 c1,.slice a2 n2 c2] w fun e w'=>e=.returned (.bool (decide (l1=l2)))/\w'=w:=by
 have k1:=aT c1 h1;have k2:=aT c2 h2;have hi:=hid (jM h1.2.1 h2.2.1);clear h1 h2;go_enter Tryz.func34,Tryz.ntmps34;go_wp2;go_ret;exact⟨aF hi.out,rfl⟩
end
theorem aX.len9 {w:World}{a:Option Addr}{c k:Nat}{rs:List (List Fl)}(h:aX w a c k rs):rs.length<=9223372036854775807:=by have h1:=h.cap;have h2:=h.most;unfold maxLen at h2;omega
section
section
variable {P:Program} {ops:Array Oper} {Q:Exit->Act->World->Prop} {md:Region.Mode} {S:World->Prop} {L:Nat}
def cW (P:Program)(md:Region.Mode)(ops:Array Oper)(Q:Exit->Act->World->Prop)(S:World->Prop)(L:Nat):Nat->Array Bool->Act->World->Prop
 | 0,listed,a,w=>Region.ready md ops listed=[]/\Q .normal a w| fuel+1,listed,a,w=>(Region.ready md ops listed=[]->Q .normal a w)/\∀i ∈ Region.ready md ops listed,wpOp P ops Q i (fun a' w'=>(i=L\/S w')/\cW P md ops Q S L fuel (listed.setIfInBounds i true) a' w') a w
theorem qN:∀(fuel:Nat) (listed:Array Bool)(a:Act)(w:World),cW P md ops Q S L fuel listed a w->wpAny P md ops Q fuel listed a w
 | 0,_,_,_,h=>h| fuel+1,_,_,_,h=>⟨h.1,fun i hi=>wpOp_mono (fun a' w' h'=>qN fuel _ a' w' h'.2) (h.2 i hi)⟩
def wF (md:Region.Mode)(ops:Array Oper)(L i:Nat):Bool:=match ops[L]? with
 | none=>false| some o=>o.after.any fun e=>Region.binds md e && e.on == i
theorem tE {i:Nat}{oi:Oper}{v:Value}(hi:ops[i]?=some oi)(hsel:∀(j:Nat) (o:Oper) cs b,ops[j]?=some o->o.op ≠ .select cs b)(hL:wF md ops L i=true)
  (hQ:∀c a w,Q (.panic c) (a.put oi.dst v) w->Q (.panic c) a w):
  ∀(fuel:Nat) (listed:Array Bool) (a:Act) (w:World),
   (∀j oj,ops[j]?=some oj->j ≠ i->listed.getD j true=false->(∀e ∈ oj.after,Region.binds md e=true->e.on ≠ i)->oi.apart ops oj=true) →
   i ∈ Region.ready md ops listed->YieldsIf P ops S oi v a->S w →
   cW P md ops Q S L fuel (listed.setIfInBounds i true) (a.put oi.dst v) w->cW P md ops Q S L (fuel+1) listed a w:=by
 intro fuel;induction fuel with
 | zero=>
  intro listed a w _ hr hy hS H;refine⟨fun h=>(by rw[h]at hr;cases hr),fun j hj=>?_⟩;by_cases Kb:j=i
  .
   subst Kb;exact hy.wpOp hi hS ⟨.inr hS,H⟩
  .
   have:=ready_mono hj Kb;rw[H.1]at this;cases this
 | succ fuel ih=>
  intro listed a w hfree hr hy hS H;refine⟨fun h=>(by rw[h]at hr;cases hr),fun j hj=>?_⟩;by_cases Kb:j=i
  .
   subst Kb;exact hy.wpOp hi hS ⟨.inr hS,H⟩
  .
   have h1:=H.2 j (ready_mono hj Kb);obtain⟨hjun,oj,Jj,Bl⟩:=mem_ready.1 hj;have hnot:∀e ∈ oj.after,Region.binds md e=true->e.on ≠ i:=fun e he hb Zb=>by
    have h1:=Bl e he hb;have h0:=(mem_ready.1 hr).1;rw[Zb]at h1;rcases zJ2 i listed.size with h'|h'
    .
     simp[h']at h0 h1;rw[h0]at h1;cases h1
    .
     simp[Array.getElem?_eq_none h']at h1
   have hjL:j ≠ L:=by
    intro e;subst e;unfold wF at hL;rw[Jj]at hL;simp only[Array.any_eq_true,zC0,beq_iff_eq]at hL;obtain⟨x,hx,hb,he⟩:=hL;exact hnot _ (Array.getElem_mem hx) hb he
   have h2:=wpOp_putIf Jj (hfree j oj Jj Kb hjun hnot) (fun cs b=>hsel i oi cs b hi) (fun cs b=>hsel j oj cs b Jj) hQ hy h1;have hfree':∀k ok,ops[k]?=some ok->k ≠ i->(listed.setIfInBounds j true).getD k true=false →
     (∀e ∈ ok.after,Region.binds md e=true->e.on ≠ i)->oi.apart ops ok=true:=fun k ok hk hki Iy Aj=>by
    refine hfree k ok hk hki ?_ Aj;by_cases hjk:j=k
    .
     subst hjk;exact hjun
    .
     rw[getD_set_ne true hjk]at Iy;exact Iy
   refine wpOp_mono (fun a' w' h3=>?_) h2;have Ky:=h3.2.1.resolve_left hjL;refine⟨.inr Ky,ih (listed.setIfInBounds j true) a' w' hfree' (ready_mono hr (Ne.symm Kb)) h3.1 Ky ?_⟩;rw[Array.setIfInBounds_comm _ _ Kb];exact h3.2.2
theorem tl (i:Nat){oi:Oper}{v:Value}{fuel:Nat}{listed:Array Bool}{a:Act}{w:World}(hi:ops[i]?=some oi)
  (hk:(Region.noSelect ops && Region.free md ops listed i && (Region.ready md ops listed).contains i && wF md ops L i)=true)
  (hy:YieldsIf P ops S oi v a) (hS:S w) (hQ:∀c a w,Q (.panic c) (a.put oi.dst v) w->Q (.panic c) a w)
  (h:cW P md ops Q S L fuel (listed.setIfInBounds i true) (a.put oi.dst v) w):cW P md ops Q S L (fuel+1) listed a w:=by
 simp only[zC0]at hk;exact tE hi (Region.noSelect_spec hk.1.1.1) hk.2 hQ fuel listed a w (Region.free_spec hi hk.1.1.2) (by simpa using hk.1.2) hy hS h
theorem dl (i:Nat){o:Oper}{fuel:Nat}{listed:Array Bool}{a:Act}{w:World}(ho:ops[i]?=some o)(hr:Region.ready md ops listed=[i])
  (h:∀K:Act->World->Prop,Shut (∀a w,S w->(S w->cW P md ops Q S L fuel (listed.setIfInBounds i true) a w)->K a w)->if Region.wanted o (yielded ops a.tmps)=true then Oper.wp P o a w K Q else K (a.put o.dst undef) w):cW P md ops Q S L (fuel+1) listed a w:=by
 refine⟨fun h0=>(by rw[hr]at h0;cases h0),fun j hj=>?_⟩;rw[hr]at hj;simp only[zG3,List.not_mem_nil,or_false]at hj;subst hj;exact wpOp_step ho (fun K hK=>h K (fun a w hS hW=>hK a w ⟨.inr hS,hW hS⟩))
theorem el {o:Oper}{fuel:Nat}{listed:Array Bool}{a:Act}{w:World}(ho:ops[L]?=some o)(hr:Region.ready md ops listed=[L])(hn:Region.ready md ops (listed.setIfInBounds L true)=[])
  (h:∀K:Act->World->Prop,Shut (∀a w,Q .normal a w->K a w)->if Region.wanted o (yielded ops a.tmps)=true then Oper.wp P o a w K Q else K (a.put o.dst undef) w):cW P md ops Q S L (fuel+1) listed a w:=by
 refine⟨fun h0=>(by rw[hr]at h0;cases h0),fun j hj=>?_⟩;rw[hr]at hj;simp only[zG3,List.not_mem_nil,or_false]at hj;subst hj;refine wpOp_step ho (fun K hK=>h K (fun a w hW=>hK a w ⟨.inl rfl, ?_⟩));cases fuel with
 | zero=>exact⟨hn,hW⟩| succ n=>exact⟨fun _=>hW,by rw[hn];simp⟩
theorem rl (L:Nat){id:Nat}{a:Act}{w:World}(hm:P.follows .mixedOrders=true)(hS:S w.drew)
  (h:S w.drew->cW P .any ops Q S L ops.size (Array.replicate ops.size false) a w.drew):(Code.region id ops true).wp P Q a w:=
 wp_region_any hm (qN _ _ _ _ (h hS))
theorem la (i:Nat){oi:Oper}{v:Value}{fuel:Nat}{listed:Array Bool}{a:Act}{w:World}
  (h:cW P md ops Q S L fuel (listed.setIfInBounds i true) (a.put oi.dst v) w) (hS:S w:=by exact Aa) (hi:ops[i]?=some oi:=by rfl)
  (hk:(Region.noSelect ops && Region.free md ops listed i && (Region.ready md ops listed).contains i && wF md ops L i)=true:=by kernel_rfl)
  (hy:YieldsIf P ops S oi v a:=by exact .inl ⟨by rfl,by intro w Ky;(try dsimp only at Ky);go_simp;first|done|rfl⟩) (hQ:∀c a w,Q (.panic c) (a.put oi.dst v) w->Q (.panic c) a w:=by exact fun _ _ _ h=>h):
  cW P md ops Q S L (fuel+1) listed a w:=tl i hi hk hy hS hQ h
theorem da (i:Nat){o:Oper}{fuel:Nat}{listed:Array Bool}{a:Act}{w:World}
  (h:∀K:Act->World->Prop,Shut (∀a w,S w->(S w->cW P md ops Q S L fuel (listed.setIfInBounds i true) a w)->K a w)->if Region.wanted o (yielded ops a.tmps)=true then Oper.wp P o a w K Q else K (a.put o.dst undef) w)
  (ho:ops[i]?=some o:=by rfl) (hr:Region.ready md ops listed=[i]:=by kernel_rfl):cW P md ops Q S L (fuel+1) listed a w:=dl i ho hr h
theorem ea {o:Oper}{fuel:Nat}{listed:Array Bool}{a:Act}{w:World}
  (h:∀K:Act->World->Prop,Shut (∀a w,Q .normal a w->K a w)->if Region.wanted o (yielded ops a.tmps)=true then Oper.wp P o a w K Q else K (a.put o.dst undef) w)
  (ho:ops[L]?=some o:=by rfl) (hr:Region.ready md ops listed=[L]:=by kernel_rfl) (hn:Region.ready md ops (listed.setIfInBounds L true)=[]:=by kernel_rfl):cW P md ops Q S L (fuel+1) listed a w:=el ho hr hn h
end
end
theorem A27{p:Prop}(h:p:=by rw[<-Option.some.inj this];exact e2):p:=h
theorem A43{p:Prop}(h:p:=by show ∀_ _,_;omega):p:=h
theorem QA11{p:Prop}(h:p:=by
 clear he HE HY Aj
 go_wp2_with fail
 go_quiet (fail)
 go_wp2
 go_roundw
 case rel=>exact⟨j+1,by omega,by go_num,HF,aN (below_drewN (aA Rk.out) _) _⟩
 case measure=>simp[intOf];omega):p:=h
theorem QA14{p:Prop}(h:p:=by
 clear he HE HY
 go_wp2_with fail
 go_quiet (fail)
 go_wp2
 go_ret
 exact⟨bZ (cK HF.out).symm,aN (below_drewN (aA Hg.out) _) _⟩):p:=h
theorem QA17{p:Prop}(h:p:=by
 by_cases e:m=j
 .
  subst e;have:=HY.out;rw[hy]at this;exact fun e2=>he A27
 .
  exact Aj.out m y A0 hy):p:=h
theorem QA32{p:Prop}(h:p:=by
 clear hb Hb Bp Aj
 go_wp2
 go_ret
 exact⟨bZ (dH HF.out).symm,Hg.out⟩):p:=h
theorem QA83{p:Prop}(h:p:=by
 rw[zA2]at hy
 exact zF0.1 hy):p:=h
theorem M918{p q:Prop}(k:q)(h:Kx q->p:=by
 intro kQ
 have r0:=Ab 0 _ rfl
 rw[zG1]at r0
 have Ym:=fun d=>aT cz (Eh.drewN d)
 have Yl:=fun d=>aT c (aV.drewN (aV.below HX.out (aA Bp)) d)
 have HE:Hid (((strOfNums z.name).toList == (strOfNums x).toList)=decide (z.name=x)):=jM Eh.2.1 HX.out.2.1
 revert HE;revert Yl;revert Ym;revert r0
 exact kQ.o):p:=h ⟨k⟩
theorem M930{p q:Prop}(k:q)(h:Kx q->p:=by
 intro kQ
 have hb:=Hb.out
 have Bp:w.grownBy wr none:=aC Y1.out hb
 have Hg:Hid (w.grownBy wr none):=Bp
 have Gf:Hid (w1.grownBy wr none):=hb
 have q1:=aB Q1.out (aA hb)
 revert q1;revert Gf;revert Hg;revert Bp;revert hb
 exact kQ.o):p:=h ⟨k⟩
theorem M977{p q:Prop}(k:q)(h:Kx q->p:=by
 intro kQ
 have Ym:=fun d=>aT cz (Eh.drewN d)
 have Yl:=fun d=>aT c (aV.drewN (aV.below HX.out (aA Bp)) d)
 have HE:Hid (((strOfNums y).toList == (strOfNums x).toList)=decide (y=x)):=jM Eh.2.1 HX.out.2.1
 revert HE;revert Yl;revert Ym
 exact kQ.o):p:=h ⟨k⟩
def ix (l:List (List Int))(x:List Int):Option Nat:=l.findIdx? fun y=>decide (y=x)
def ixI (l:List (List Int))(x:List Int):Int:=match ix l x with
 | some i=>i| none=>-1
theorem lO {l:List (List Int)}{x:List Int}(h:∀m y,m<l.length->l[m]?=some y->y ≠ x):ix l x=none:=by
 unfold ix;rw[List.findIdx?_eq_none_iff];intro y hy;obtain⟨m,hm,rfl⟩:=List.mem_iff_getElem.1 hy;exact zC2 (h m _ hm (zA0 hm))
theorem lN {l:List (List Int)}{x:List Int}{j:Nat}(h:∀m y,m<j->l[m]?=some y->y ≠ x)(hj:l[j]?=some x):ix l x=some j:=by
 unfold ix;obtain⟨hl,e⟩:=zC1.1 hj;rw[List.findIdx?_eq_some_iff_getElem];refine⟨hl,by simp[e],fun m hm=>?_⟩;have:=h m _ hm (zA0 A0);simpa using this
theorem dH {l:List (List Int)}{x:List Int}(h:ix l x=none):ixI l x = -1:=by unfold ixI;rw[h]
theorem cK {l:List (List Int)}{x:List Int}{j:Nat}(h:ix l x=some j):ixI l x=j:=by unfold ixI;rw[h]
theorem aEj {l:List (List Int)}{x:List Int}:ix l x=none ↔ x ∉ l:=by
 unfold ix;rw[List.findIdx?_eq_none_iff];exact⟨fun h hx=>by have:=h x hx;simp at this,fun h y hy=>zC2 (fun e=>h (e ▸ hy))⟩
theorem xG {l:List (List Int)}{x:List Int}{j:Nat}(h:ix l x=some j):l[j]?=some x/\∀m y,m<j->l[m]?=some y->y ≠ x:=by
 unfold ix at h;rw[List.findIdx?_eq_some_iff_getElem]at h;obtain⟨hl,e,hm⟩:=h;refine⟨by rw[zA0 hl];simpa using e,fun m y hy he=>?_⟩;have:=hm m hy;rw[zA0 A0]at he;simp only[zG2]at he;rw[<-he];simpa using this
theorem aEa (q:Mo)(vs:List Value)(w:World)(h:aL w q.fl vs)(a:Option Addr)(k c:Nat)(x:List Int)(hx:aV w a k x):
  Calls Tryz.prog 101 #[agg vs,.slice a k c] w fun e w'=>e=.returned (.int .i64 (ixI (q.procs.map Pr.name) x))/\w.grownBy w' none:=by
 obtain⟨v0,_,rfl,h0,v1,_,rfl,h1,v2,_,rfl,h2,v3,_,rfl,h3,rfl⟩:=h;obtain⟨b,d,rfl,hL⟩:=h3.list;have Dh:=hL.len9;have Fw:(q.procs.map Pr.fl).length=(q.procs).length:=by simp[dK]
 rw[Fw]at Dh ⊢;obtain⟨n,hN⟩:=zx ((q.procs).length);have HN:Hid ((q.procs).length=n):=hN.symm;rw[<-hN]at Dh ⊢;have HL:Hid (aX w b d 5 (q.procs.map Pr.fl)):=hL;have HX:Hid (aV w a k x):=hx;have x0:=Blk.new w 81 [v0,v1,v2,.slice b n d];have y0:=aE w (.cells #[v0,v1,v2,.slice b n d] 81 (0,0)) none;simp only[List.toArray]at x0;simp only[agg];clear hL hx hN Fw h0 h1 h2 h3;go_enter Tryz.func101,Tryz.ntmps101;go_upto_region 1 with fail;generalize w.alloc (.cells #[v0,v1,v2,.slice b n d] 81 (0,0))=w1 at *;have Q1:Hid (w1.cell? ⟨w.heap.size,3,none⟩=some (.slice b n d)):=x0.k 3;have Y1:Hid (w.grownBy w1 none):=y0;clear x0 y0;go_wp2_with fail;go_loopw [5] (fun i wr=>∃j:Nat,j<=n/\i=.int .i64 j/\Hid (∀m y,m<j->(q.procs.map Pr.name)[m]?=some y->y ≠ x)/\Hid (w1.grownBy wr none)) (fun i _=>n-(intOf i).toNat)
 case atStart=>exact⟨0,zD1 _,rfl,A43,aQ _ _⟩
 case round=>
  obtain⟨j,hj,rfl,Aj,Hb⟩:=hrel;refine M930 ?_;intro hb Bp Hg Gf q1;by_cases Ad:j<n
  .
   obtain⟨y,hy⟩:∃y,(q.procs.map Pr.name)[j]?=some y:=⟨_,zA0 (by rw[show(q.procs.map Pr.name).length=(q.procs).length by simp,HN.out];exact Ad)⟩
   obtain⟨z,hz,rfl⟩:∃z,(q.procs)[j]?=some z/\z.name=y:=by
    exact QA83
   have Ie:(q.procs.map Pr.fl)[j]?=some z.fl:=by rw[zA2,hz];rfl
   obtain⟨b,off,rfl⟩:=aX.addr HL.out (by rw[show(q.procs.map Pr.fl).length=(q.procs).length by simp[dK],HN.out];omega);obtain⟨vs,Al,Ab⟩:=((aX.below HL.out (aA Bp)).el Ie).vals;obtain⟨z0,us,rfl,⟨az,cz,rfl,Eh,_⟩,_⟩:=Al;refine M918 ?_;intro r0 Ym Yl HE;have HY:Hid ((q.procs.map Pr.name)[j]?=some z.name):=by show _=_;rw[zA2,hz];rfl
   have Gw:(j:Int)<(n:Int):=A0;clear Ab hz hy Ie Eh hb Hb Bp;by_cases he:z.name=x
   .
    have hbq:((strOfNums z.name).toList == (strOfNums x).toList)=true:=HE.out.trans (zB3 he);have HF:Hid (ix (q.procs.map Pr.name) x=some j):=lN Aj.out (he ▸ HY.out);exact QA14
   .
    have hbq:((strOfNums z.name).toList == (strOfNums x).toList)=false:=HE.out.trans (zC2 he);have HF:Hid (∀m y,m<j+1->(q.procs.map Pr.name)[m]?=some y->y ≠ x):=fun m y hm hy=>by
     exact QA17
    have Rk:Hid (w1.grownBy wr none):=Gf.out;exact QA11
  .
   have:n=j:=A0;subst this;have HF:Hid (ix (q.procs.map Pr.name) x=none):=lO (by rw[show(q.procs.map Pr.name).length=(q.procs).length by simp,HN.out];exact Aj.out);exact QA32
theorem uP (q:Mo)(vs:List Value)(w:World)(h:aL w q.fl vs)(a:Option Addr)(k c:Nat)(x:List Int)(hx:aV w a k x):
  Calls Tryz.prog 100 #[agg vs,.slice a k c] w fun e w'=>e=.returned (.int .i64 (ixI (q.vars.map Va.name) x))/\w.grownBy w' none:=by
 obtain⟨v0,_,rfl,h0,v1,_,rfl,h1,v2,_,rfl,h2,v3,_,rfl,h3,rfl⟩:=h;obtain⟨b,d,rfl,hL⟩:=h2.list;have Dh:=hL.len9;have Fw:(q.vars.map Va.fl).length=(q.vars).length:=by simp[dK]
 rw[Fw]at Dh ⊢;obtain⟨n,hN⟩:=zx ((q.vars).length);have HN:Hid ((q.vars).length=n):=hN.symm;rw[<-hN]at Dh ⊢;have HL:Hid (aX w b d 2 (q.vars.map Va.fl)):=hL;have HX:Hid (aV w a k x):=hx;have x0:=Blk.new w 81 [v0,v1,.slice b n d,v3];have y0:=aE w (.cells #[v0,v1,.slice b n d,v3] 81 (0,0)) none;simp only[List.toArray]at x0;simp only[agg];clear hL hx hN Fw h0 h1 h2 h3;go_enter Tryz.func100,Tryz.ntmps100;go_upto_region 1 with fail;generalize w.alloc (.cells #[v0,v1,.slice b n d,v3] 81 (0,0))=w1 at *;have Q1:Hid (w1.cell? ⟨w.heap.size,2,none⟩=some (.slice b n d)):=x0.k 2;have Y1:Hid (w.grownBy w1 none):=y0;clear x0 y0;go_wp2_with fail;go_loopw [5] (fun i wr=>∃j:Nat,j<=n/\i=.int .i64 j/\Hid (∀m y,m<j->(q.vars.map Va.name)[m]?=some y->y ≠ x)/\Hid (w1.grownBy wr none)) (fun i _=>n-(intOf i).toNat)
 case atStart=>exact⟨0,zD1 _,rfl,A43,aQ _ _⟩
 case round=>
  obtain⟨j,hj,rfl,Aj,Hb⟩:=hrel;refine M930 ?_;intro hb Bp Hg Gf q1;by_cases Ad:j<n
  .
   obtain⟨y,hy⟩:∃y,(q.vars.map Va.name)[j]?=some y:=⟨_,zA0 (by rw[show(q.vars.map Va.name).length=(q.vars).length by simp,HN.out];exact Ad)⟩
   obtain⟨z,hz,rfl⟩:∃z,(q.vars)[j]?=some z/\z.name=y:=by
    exact QA83
   have Ie:(q.vars.map Va.fl)[j]?=some z.fl:=by rw[zA2,hz];rfl
   obtain⟨b,off,rfl⟩:=aX.addr HL.out (by rw[show(q.vars.map Va.fl).length=(q.vars).length by simp[dK],HN.out];omega);obtain⟨vs,Al,Ab⟩:=((aX.below HL.out (aA Bp)).el Ie).vals;obtain⟨z0,us,rfl,⟨az,cz,rfl,Eh,_⟩,_⟩:=Al;refine M918 ?_;intro r0 Ym Yl HE;have HY:Hid ((q.vars.map Va.name)[j]?=some z.name):=by show _=_;rw[zA2,hz];rfl
   have Gw:(j:Int)<(n:Int):=A0;clear Ab hz hy Ie Eh hb Hb Bp;by_cases he:z.name=x
   .
    have hbq:((strOfNums z.name).toList == (strOfNums x).toList)=true:=HE.out.trans (zB3 he);have HF:Hid (ix (q.vars.map Va.name) x=some j):=lN Aj.out (he ▸ HY.out);exact QA14
   .
    have hbq:((strOfNums z.name).toList == (strOfNums x).toList)=false:=HE.out.trans (zC2 he);have HF:Hid (∀m y,m<j+1->(q.vars.map Va.name)[m]?=some y->y ≠ x):=fun m y hm hy=>by
     exact QA17
    have Rk:Hid (w1.grownBy wr none):=Gf.out;exact QA11
  .
   have:n=j:=A0;subst this;have HF:Hid (ix (q.vars.map Va.name) x=none):=lO (by rw[show(q.vars.map Va.name).length=(q.vars).length by simp,HN.out];exact Aj.out);exact QA32
theorem sB (q:Pr)(vs:List Value)(w:World)(h:aL w q.fl vs)(a:Option Addr)(k c:Nat)(x:List Int)(hx:aV w a k x):
  Calls Tryz.prog 102 #[agg vs,.slice a k c] w fun e w'=>e=.returned (.int .i64 (ixI (q.params.map Pa.name) x))/\w.grownBy w' none:=by
 obtain⟨v0,_,rfl,h0,v1,_,rfl,h1,v2,_,rfl,h2,v3,_,rfl,h3,v4,_,rfl,h4,rfl⟩:=h;obtain⟨b,d,rfl,hL⟩:=h2.list;have Dh:=hL.len9;have Fw:(q.params.map Pa.fl).length=(q.params).length:=by simp[dK]
 rw[Fw]at Dh ⊢;obtain⟨n,hN⟩:=zx ((q.params).length);have HN:Hid ((q.params).length=n):=hN.symm;rw[<-hN]at Dh ⊢;have HL:Hid (aX w b d 2 (q.params.map Pa.fl)):=hL;have HX:Hid (aV w a k x):=hx;have x0:=Blk.new w 111 [v0,v1,.slice b n d,v3,v4];have y0:=aE w (.cells #[v0,v1,.slice b n d,v3,v4] 111 (0,0)) none;simp only[List.toArray]at x0;simp only[agg];clear hL hx hN Fw h0 h1 h2 h3 h4;go_enter Tryz.func102,Tryz.ntmps102;go_upto_region 1 with fail;generalize w.alloc (.cells #[v0,v1,.slice b n d,v3,v4] 111 (0,0))=w1 at *;have Q1:Hid (w1.cell? ⟨w.heap.size,2,none⟩=some (.slice b n d)):=x0.k 2;have Y1:Hid (w.grownBy w1 none):=y0;clear x0 y0;go_wp2_with fail;go_loopw [5] (fun i wr=>∃j:Nat,j<=n/\i=.int .i64 j/\Hid (∀m y,m<j->(q.params.map Pa.name)[m]?=some y->y ≠ x)/\Hid (w1.grownBy wr none)) (fun i _=>n-(intOf i).toNat)
 case atStart=>exact⟨0,zD1 _,rfl,A43,aQ _ _⟩
 case round=>
  obtain⟨j,hj,rfl,Aj,Hb⟩:=hrel;refine M930 ?_;intro hb Bp Hg Gf q1;by_cases Ad:j<n
  .
   obtain⟨y,hy⟩:∃y,(q.params.map Pa.name)[j]?=some y:=⟨_,zA0 (by rw[show(q.params.map Pa.name).length=(q.params).length by simp,HN.out];exact Ad)⟩
   obtain⟨z,hz,rfl⟩:∃z,(q.params)[j]?=some z/\z.name=y:=by
    exact QA83
   have Ie:(q.params.map Pa.fl)[j]?=some z.fl:=by rw[zA2,hz];rfl
   obtain⟨b,off,rfl⟩:=aX.addr HL.out (by rw[show(q.params.map Pa.fl).length=(q.params).length by simp[dK],HN.out];omega);obtain⟨vs,Al,Ab⟩:=((aX.below HL.out (aA Bp)).el Ie).vals;obtain⟨z0,us,rfl,⟨az,cz,rfl,Eh,_⟩,_⟩:=Al;refine M918 ?_;intro r0 Ym Yl HE;have HY:Hid ((q.params.map Pa.name)[j]?=some z.name):=by show _=_;rw[zA2,hz];rfl
   have Gw:(j:Int)<(n:Int):=A0;clear Ab hz hy Ie Eh hb Hb Bp;by_cases he:z.name=x
   .
    have hbq:((strOfNums z.name).toList == (strOfNums x).toList)=true:=HE.out.trans (zB3 he);have HF:Hid (ix (q.params.map Pa.name) x=some j):=lN Aj.out (he ▸ HY.out);exact QA14
   .
    have hbq:((strOfNums z.name).toList == (strOfNums x).toList)=false:=HE.out.trans (zC2 he);have HF:Hid (∀m y,m<j+1->(q.params.map Pa.name)[m]?=some y->y ≠ x):=fun m y hm hy=>by
     exact QA17
    have Rk:Hid (w1.grownBy wr none):=Gf.out;exact QA11
  .
   have:n=j:=A0;subst this;have HF:Hid (ix (q.params.map Pa.name) x=none):=lO (by rw[show(q.params.map Pa.name).length=(q.params).length by simp,HN.out];exact Aj.out);exact QA32
theorem aAa (q:Pr)(vs:List Value)(w:World)(h:aL w q.fl vs)(a:Option Addr)(k c:Nat)(x:List Int)(hx:aV w a k x):
  Calls Tryz.prog 103 #[agg vs,.slice a k c] w fun e w'=>e=.returned (.int .i64 (ixI (q.locals) x))/\w.grownBy w' none:=by
 obtain⟨v0,_,rfl,h0,v1,_,rfl,h1,v2,_,rfl,h2,v3,_,rfl,h3,v4,_,rfl,h4,rfl⟩:=h;obtain⟨b,d,rfl,hL⟩:=h3.list;have Dh:=hL.len9;have Fw:(dK q.locals).length=(q.locals).length:=by simp[dK]
 rw[Fw]at Dh ⊢;obtain⟨n,hN⟩:=zx ((q.locals).length);have HN:Hid ((q.locals).length=n):=hN.symm;rw[<-hN]at Dh ⊢;have HL:Hid (aX w b d 1 (dK q.locals)):=hL;have HX:Hid (aV w a k x):=hx;have x0:=Blk.new w 111 [v0,v1,v2,.slice b n d,v4];have y0:=aE w (.cells #[v0,v1,v2,.slice b n d,v4] 111 (0,0)) none;simp only[List.toArray]at x0;simp only[agg];clear hL hx hN Fw h0 h1 h2 h3 h4;go_enter Tryz.func103,Tryz.ntmps103;go_upto_region 1 with fail;generalize w.alloc (.cells #[v0,v1,v2,.slice b n d,v4] 111 (0,0))=w1 at *;have Q1:Hid (w1.cell? ⟨w.heap.size,3,none⟩=some (.slice b n d)):=x0.k 3;have Y1:Hid (w.grownBy w1 none):=y0;clear x0 y0;go_wp2_with fail;go_loopw [5] (fun i wr=>∃j:Nat,j<=n/\i=.int .i64 j/\Hid (∀m y,m<j->(q.locals)[m]?=some y->y ≠ x)/\Hid (w1.grownBy wr none)) (fun i _=>n-(intOf i).toNat)
 case atStart=>exact⟨0,zD1 _,rfl,A43,aQ _ _⟩
 case round=>
  obtain⟨j,hj,rfl,Aj,Hb⟩:=hrel;refine M930 ?_;intro hb Bp Hg Gf q1;by_cases Ad:j<n
  .
   obtain⟨y,hy⟩:∃y,(q.locals)[j]?=some y:=⟨_,zA0 (by rw[show(q.locals).length=(q.locals).length by simp,HN.out];exact Ad)⟩
   have Ie:(dK q.locals)[j]?=some [Fl.b y]:=by unfold dK;rw[zA2,hy];rfl
   obtain⟨b,off,rfl⟩:=aX.addr HL.out (by rw[show(dK q.locals).length=(q.locals).length by simp[dK],HN.out];omega);obtain⟨vs,Al,Ab⟩:=((aX.below HL.out (aA Bp)).el Ie).vals;obtain⟨z0,us,rfl,⟨az,cz,rfl,Eh,_⟩,_⟩:=Al;have r0:=Ab 0 _ rfl;simp only[zG1,Nat.mul_one]at r0;refine M977 ?_;intro Ym Yl HE;have HY:Hid ((q.locals)[j]?=some y):=hy;have Gw:(j:Int)<(n:Int):=A0;clear Ab hy Ie Eh hb Hb Bp;by_cases he:y=x
   .
    have hbq:((strOfNums y).toList == (strOfNums x).toList)=true:=HE.out.trans (zB3 he);have HF:Hid (ix (q.locals) x=some j):=lN Aj.out (he ▸ HY.out);exact QA14
   .
    have hbq:((strOfNums y).toList == (strOfNums x).toList)=false:=HE.out.trans (zC2 he);have HF:Hid (∀m y,m<j+1->(q.locals)[m]?=some y->y ≠ x):=fun m y hm hy=>by
     exact QA17
    have Rk:Hid (w1.grownBy wr none):=Gf.out;exact QA11
  .
   have:n=j:=A0;subst this;have HF:Hid (ix (q.locals) x=none):=lO (by rw[show(q.locals).length=(q.locals).length by simp,HN.out];exact Aj.out);exact QA32
theorem lM (q:Fa)(vs:List Value)(w:World)(h:aL w q.fl vs)(a:Option Addr)(k c:Nat)(x:List Int)(hx:aV w a k x):
  Calls Tryz.prog 107 #[agg vs,.slice a k c] w fun e w'=>e=.returned (.int .i64 (ixI (q.procs.map Fp.name) x))/\w.grownBy w' none:=by
 obtain⟨v0,_,rfl,h0,v1,_,rfl,h1,rfl⟩:=h;obtain⟨b,d,rfl,hL⟩:=h1.list;have Dh:=hL.len9;have Fw:(q.procs.map Fp.fl).length=(q.procs).length:=by simp[dK]
 rw[Fw]at Dh ⊢;obtain⟨n,hN⟩:=zx ((q.procs).length);have HN:Hid ((q.procs).length=n):=hN.symm;rw[<-hN]at Dh ⊢;have HL:Hid (aX w b d 2 (q.procs.map Fp.fl)):=hL;have HX:Hid (aV w a k x):=hx;have x0:=Blk.new w 75 [v0,.slice b n d];have y0:=aE w (.cells #[v0,.slice b n d] 75 (0,0)) none;simp only[List.toArray]at x0;simp only[agg];clear hL hx hN Fw h0 h1;go_enter Tryz.func107,Tryz.ntmps107;go_upto_region 1 with fail;generalize w.alloc (.cells #[v0,.slice b n d] 75 (0,0))=w1 at *;have Q1:Hid (w1.cell? ⟨w.heap.size,1,none⟩=some (.slice b n d)):=x0.k 1;have Y1:Hid (w.grownBy w1 none):=y0;clear x0 y0;go_wp2_with fail;go_loopw [5] (fun i wr=>∃j:Nat,j<=n/\i=.int .i64 j/\Hid (∀m y,m<j->(q.procs.map Fp.name)[m]?=some y->y ≠ x)/\Hid (w1.grownBy wr none)) (fun i _=>n-(intOf i).toNat)
 case atStart=>exact⟨0,zD1 _,rfl,A43,aQ _ _⟩
 case round=>
  obtain⟨j,hj,rfl,Aj,Hb⟩:=hrel;refine M930 ?_;intro hb Bp Hg Gf q1;by_cases Ad:j<n
  .
   obtain⟨y,hy⟩:∃y,(q.procs.map Fp.name)[j]?=some y:=⟨_,zA0 (by rw[show(q.procs.map Fp.name).length=(q.procs).length by simp,HN.out];exact Ad)⟩
   obtain⟨z,hz,rfl⟩:∃z,(q.procs)[j]?=some z/\z.name=y:=by
    exact QA83
   have Ie:(q.procs.map Fp.fl)[j]?=some z.fl:=by rw[zA2,hz];rfl
   obtain⟨b,off,rfl⟩:=aX.addr HL.out (by rw[show(q.procs.map Fp.fl).length=(q.procs).length by simp[dK],HN.out];omega);obtain⟨vs,Al,Ab⟩:=((aX.below HL.out (aA Bp)).el Ie).vals;obtain⟨z0,us,rfl,⟨az,cz,rfl,Eh,_⟩,_⟩:=Al;refine M918 ?_;intro r0 Ym Yl HE;have HY:Hid ((q.procs.map Fp.name)[j]?=some z.name):=by show _=_;rw[zA2,hz];rfl
   have Gw:(j:Int)<(n:Int):=A0;clear Ab hz hy Ie Eh hb Hb Bp;by_cases he:z.name=x
   .
    have hbq:((strOfNums z.name).toList == (strOfNums x).toList)=true:=HE.out.trans (zB3 he);have HF:Hid (ix (q.procs.map Fp.name) x=some j):=lN Aj.out (he ▸ HY.out);exact QA14
   .
    have hbq:((strOfNums z.name).toList == (strOfNums x).toList)=false:=HE.out.trans (zC2 he);have HF:Hid (∀m y,m<j+1->(q.procs.map Fp.name)[m]?=some y->y ≠ x):=fun m y hm hy=>by
     exact QA17
    have Rk:Hid (w1.grownBy wr none):=Gf.out;exact QA11
  .
   have:n=j:=A0;subst this;have HF:Hid (ix (q.procs.map Fp.name) x=none):=lO (by rw[show(q.procs.map Fp.name).length=(q.procs).length by simp,HN.out];exact Aj.out);exact QA32
theorem pL (q:List Fa)(b:Option Addr)(n d:Nat)(w:World)(h:aX w b d 2 (q.map Fa.fl))(hl:q.length=n)(a:Option Addr)(k c:Nat)(x:List Int)(hx:aV w a k x):
  Calls Tryz.prog 74 #[.slice b n d,.slice a k c] w fun e w'=>e=.returned (.int .i64 (ixI (q.map Fa.name) x))/\w.grownBy w' none:=by
 have Dh:=h.len9;have Fw:(q.map Fa.fl).length=q.length:=by simp[dK]
 rw[Fw,hl]at Dh;have HN:Hid (q.length=n):=hl;have HL:Hid (aX w b d 2 (q.map Fa.fl)):=h;have HX:Hid (aV w a k x):=hx;clear h hx hl Fw;go_enter Tryz.func74,Tryz.ntmps74;go_wp2_with fail;go_loopw [5] (fun i wr=>∃j:Nat,j<=n/\i=.int .i64 j/\Hid (∀m y,m<j->(q.map Fa.name)[m]?=some y->y ≠ x)/\Hid (w.grownBy wr none)) (fun i _=>n-(intOf i).toNat)
 case atStart=>exact⟨0,zD1 _,rfl,A43,aQ _ _⟩
 case round=>
  obtain⟨j,hj,rfl,Aj,Hb⟩:=hrel;have hb:=Hb.out;have Bp:w.grownBy wr none:=hb;have Hg:Hid (w.grownBy wr none):=Bp;by_cases Ad:j<n
  .
   obtain⟨y,hy⟩:∃y,(q.map Fa.name)[j]?=some y:=⟨_,zA0 (by rw[show(q.map Fa.name).length=(q).length by simp,HN.out];exact Ad)⟩
   obtain⟨z,hz,rfl⟩:∃z,(q)[j]?=some z/\z.name=y:=by
    exact QA83
   have Ie:(q.map Fa.fl)[j]?=some z.fl:=by rw[zA2,hz];rfl
   obtain⟨b,off,rfl⟩:=aX.addr HL.out (by rw[show(q.map Fa.fl).length=(q).length by simp[dK],HN.out];omega);obtain⟨vs,Al,Ab⟩:=((aX.below HL.out (aA Bp)).el Ie).vals;obtain⟨z0,us,rfl,⟨az,cz,rfl,Eh,_⟩,_⟩:=Al;refine M918 ?_;intro r0 Ym Yl HE;have HY:Hid ((q.map Fa.name)[j]?=some z.name):=by show _=_;rw[zA2,hz];rfl
   have Gw:(j:Int)<(n:Int):=A0;clear Ab hz hy Ie Eh hb Hb Bp;by_cases he:z.name=x
   .
    have hbq:((strOfNums z.name).toList == (strOfNums x).toList)=true:=HE.out.trans (zB3 he);have HF:Hid (ix (q.map Fa.name) x=some j):=lN Aj.out (he ▸ HY.out);exact QA14
   .
    have hbq:((strOfNums z.name).toList == (strOfNums x).toList)=false:=HE.out.trans (zC2 he);have HF:Hid (∀m y,m<j+1->(q.map Fa.name)[m]?=some y->y ≠ x):=fun m y hm hy=>by
     exact QA17
    have Rk:Hid (w.grownBy wr none):=Hg;exact QA11
  .
   have:n=j:=A0;subst this;have HF:Hid (ix (q.map Fa.name) x=none):=lO (by rw[show(q.map Fa.name).length=(q).length by simp,HN.out];exact Aj.out);exact QA32
theorem aPi (q:List (List Int))(b:Option Addr)(n d:Nat)(w:World)(h:aX w b d 1 (dK q))(hl:q.length=n)(a:Option Addr)(k c:Nat)(x:List Int)(hx:aV w a k x):
  Calls Tryz.prog 75 #[.slice b n d,.slice a k c] w fun e w'=>e=.returned (.bool (decide (x ∈ q)))/\w.grownBy w' none:=by
 have Dh:=h.len9;have Fw:(dK q).length=q.length:=by simp[dK]
 rw[Fw,hl]at Dh;have HN:Hid (q.length=n):=hl;have HL:Hid (aX w b d 1 (dK q)):=h;have HX:Hid (aV w a k x):=hx;clear h hx hl Fw;go_enter Tryz.func75,Tryz.ntmps75;go_wp2_with fail;go_loopw [5] (fun i wr=>∃j:Nat,j<=n/\i=.int .i64 j/\Hid (∀m y,m<j->(q)[m]?=some y->y ≠ x)/\Hid (w.grownBy wr none)) (fun i _=>n-(intOf i).toNat)
 case atStart=>exact⟨0,zD1 _,rfl,A43,aQ _ _⟩
 case round=>
  obtain⟨j,hj,rfl,Aj,Hb⟩:=hrel;have hb:=Hb.out;have Bp:w.grownBy wr none:=hb;have Hg:Hid (w.grownBy wr none):=Bp;by_cases Ad:j<n
  .
   obtain⟨y,hy⟩:∃y,(q)[j]?=some y:=⟨_,zA0 (by rw[show(q).length=(q).length by simp,HN.out];exact Ad)⟩
   have Ie:(dK q)[j]?=some [Fl.b y]:=by unfold dK;rw[zA2,hy];rfl
   obtain⟨b,off,rfl⟩:=aX.addr HL.out (by rw[show(dK q).length=(q).length by simp[dK],HN.out];omega);obtain⟨vs,Al,Ab⟩:=((aX.below HL.out (aA Bp)).el Ie).vals;obtain⟨z0,us,rfl,⟨az,cz,rfl,Eh,_⟩,_⟩:=Al;have r0:=Ab 0 _ rfl;simp only[zG1,Nat.mul_one]at r0;refine M977 ?_;intro Ym Yl HE;have HY:Hid ((q)[j]?=some y):=hy;have Gw:(j:Int)<(n:Int):=A0;clear Ab hy Ie Eh hb Hb Bp;by_cases he:y=x
   .
    have hbq:((strOfNums y).toList == (strOfNums x).toList)=true:=HE.out.trans (zB3 he);have HF:Hid (ix (q) x=some j):=lN Aj.out (he ▸ HY.out);clear he HE HY;go_wp2_with fail;go_quiet (fail);go_wp2;go_ret;exact⟨aF (zB3 (zA3 (xG HF.out).1)).symm,aN (below_drewN (aA Hg.out) _) _⟩
   .
    have hbq:((strOfNums y).toList == (strOfNums x).toList)=false:=HE.out.trans (zC2 he);have HF:Hid (∀m y,m<j+1->(q)[m]?=some y->y ≠ x):=fun m y hm hy=>by
     exact QA17
    have Rk:Hid (w.grownBy wr none):=Hg;exact QA11
  .
   have:n=j:=A0;subst this;have HF:Hid (ix (q) x=none):=lO (by rw[show(q).length=(q).length by simp,HN.out];exact Aj.out);clear hb Hb Bp Aj;go_wp2;go_ret;exact⟨aF (zC2 (aEj.1 HF.out)).symm,Hg.out⟩
section
theorem QA23{p:Prop}(h:p:=by
 obtain⟨A,hA,Vc⟩:=(Cd false (by rw[Nc];rfl)).resolve_left A9
 rw[<-hA]
 rcases Vc with⟨rfl,hv⟩|⟨i2,y2,b2,off2,rfl,hil2,rfl,hv,r2⟩
 .
  have HF:Hid (arq m p x=false):=by show _=_;unfold arq;rw[Nc,hv];rfl
  clear Cd hA hv Nc
  go_wp2
  go_ret
  exact⟨aF HF.out.symm,yh⟩
 .
  have HF:Hid (arq m p x=decide (0<y2.size)):=by show _=_;unfold arq;rw[Nc,hv];rfl
  have Xr:(0:Int)<=(i2:Int):=by omega
  clear Cd hA hv Nc
  go_wp2
  go_ret
  exact⟨aF HF.out.symm,yh⟩):p:=h
theorem M973{p q:Prop}(k:q)(h:Kx q->p:=by
 intro kQ
 have HV:=hid hV
 have HP:=hid hP
 have HM:=hid Cu
 have HQ:=hid Lj
 have HX:=hid hx
 have x0:=(Blk.new w 81 [v0,v1,.slice av nv cv,v3]).old (o:=.cells #[u0,u1,.slice ap np cp,u3,u4] 111 (0,0))
 have x1:=Blk.new (w.alloc (.cells #[v0,v1,.slice av nv cv,v3] 81 (0,0))) 111 [u0,u1,.slice ap np cp,u3,u4]
 have hgz:(w.alloc (.cells #[v0,v1,.slice av nv cv,v3] 81 (0,0))).heap.size=w.heap.size+1:=by simp
 have y0:w.grownBy ((w.alloc (.cells #[v0,v1,.slice av nv cv,v3] 81 (0,0))).alloc (.cells #[u0,u1,.slice ap np cp,u3,u4] 111 (0,0))) none:=aC (aE w _ none) (aE _ _ none)
 revert y0;revert hgz;revert x1;revert x0;revert HX;revert HQ;revert HM;revert HP;revert HV
 exact kQ.o):p:=h ⟨k⟩
theorem M976{p q:Prop}(k:q)(h:Kx q->p:=by
 intro kQ
 refine H1.mono ?_
 rintro e w2 ⟨rfl,hg⟩
 have yg:=aC y0 hg
 revert yg;revert hg;revert w2
 exact kQ.o):p:=h ⟨k⟩
variable{x:List Int}{m:Mo}{i:Nat}{p:Pr}
def wR (p:Pr)(x:List Int):Option Bool:=(ix (p.params.map Pa.name) x).bind fun i=>p.params[i]?.map Pa.arr
def nK (m:Mo)(x:List Int):Option Int:=(ix (m.vars.map Va.name) x).bind fun i=>m.vars[i]?.map Va.size
def sgl (m:Mo)(p:Pr)(x:List Int):Bool:=match wR p x with
 | some b=>!b| none=>decide (x ∈ p.locals) || (match nK m x with
  | some n=>decide (n=0)| none=>false)
def arq (m:Mo)(p:Pr)(x:List Int):Bool:=(wR p x == some true) || (match nK m x with
 | some n=>decide (0<n)| none=>false)
theorem mD{α:Type}{f:α->List Int}{l:List α}(h:ix (l.map f) x=some i):∃y,l[i]?=some y/\f y=x:=by
 have:=(xG h).1;rw[zA2]at this;exact zF0.1 this
theorem qR{y:Pa}(h:ix (p.params.map Pa.name) x=some i)(hy:p.params[i]?=some y):wR p x=some y.arr:=by unfold wR;rw[h,Option.bind_some,hy];rfl
theorem mY(h:ix (p.params.map Pa.name) x=none):wR p x=none:=by unfold wR;rw[h];rfl
theorem oS{y:Va}(h:ix (m.vars.map Va.name) x=some i)(hy:m.vars[i]?=some y):nK m x=some y.size:=by unfold nK;rw[h,Option.bind_some,hy];rfl
theorem lJ(h:ix (m.vars.map Va.name) x=none):nK m x=none:=by unfold nK;rw[h];rfl
theorem iM{α:Type}{l:List α}{y:α}(h:l[i]?=some y):i<l.length:=(zC1.1 h).1
theorem aX.cellsAt{w:World}{a:Option Addr}{c k:Nat}{rs:List (List Fl)}{r:List Fl}(h:aX w a c k rs)(hi:rs[i]?=some r):∃b off vs,a=some ⟨b,off,none⟩/\aL w r vs/\∀z v,vs[z]?=some v->w.cell? ⟨b,off+i*k+z,none⟩=some v:=by
 obtain⟨b,off,rfl⟩:=h.addr (by have:=iM hi;omega);obtain⟨vs,hv,hc⟩:=(h.el hi).vals;exact⟨b,off,vs,rfl,hv,hc⟩
theorem uQ (m:Mo)(p:Pr)(vs us:List Value)(w:World)(hm:aL w m.fl vs)(hp:aL w p.fl us)(a:Option Addr)(k c:Nat)(x:List Int)(hx:aV w a k x):
  Calls Tryz.prog 104 #[agg vs,agg us,.slice a k c] w fun e w'=>e=.returned (.bool (sgl m p x))/\w.grownBy w' none:=by
 have Cu:=hm;have Lj:=hp;obtain⟨v0,_,rfl,_,v1,_,rfl,_,v2,_,rfl,hv,v3,_,rfl,_,rfl⟩:=hm;obtain⟨u0,_,rfl,_,u1,_,rfl,_,u2,_,rfl,hu,u3,_,rfl,_,u4,_,rfl,_,rfl⟩:=hp;obtain⟨av,cv,rfl,hV⟩:=hv.list;obtain⟨ap,cp,rfl,hP⟩:=hu.list;have hv9:=hV.len9;have Ul:=hP.len9;rw[zB2]at hv9 Ul;simp only[zB2]at Cu Lj ⊢;obtain⟨nv,Jy⟩:=zx (m.vars.length);obtain⟨np,Es⟩:=zx (p.params.length);have HNV:=hid Jy.symm;have Ql:=hid Es.symm;rw[<-Jy]at Cu hv9 ⊢;rw[<-Es]at Lj Ul ⊢;clear Jy Es hv hu;refine M973 ?_;clear hV hP Cu Lj hx;intro HV HP HM HQ HX x0 x1 hgz y0;simp only[List.toArray]at x0 x1;rw[hgz]at x1;clear hgz;simp only[agg];go_enter Tryz.func104,Tryz.ntmps104;go_upto_region 1 with fail;generalize (w.alloc (.cells #[v0,v1,.slice av nv cv,v3] 81 (0,0))).alloc (.cells #[u0,u1,.slice ap np cp,u3,u4] 111 (0,0))=w1 at *;have H1:=sB p _ w1 (aL.below HQ.out (aA y0)) a k c x (aV.below HX.out (aA y0));simp only[agg,List.toArray]at H1;obtain⟨q0,q1,q2,q3,q4⟩:=x1.c5;cases hi:ix (p.params.map Pa.name) x with
 | some i=>
  obtain⟨y,hy,_⟩:=mD hi;have HF:Hid (sgl m p x = !y.arr):=by show _=_;unfold sgl;rw[qR hi hy]
  have Xn:i<np:=by have:=iM hy;rw[Ql.out]at this;exact this
  rw[cK hi]at H1;obtain⟨b,off,ys,rfl,Lh,Ab⟩:=aX.cellsAt HP.out (show(p.params.map Pa.fl)[i]?=some y.fl by rw[zA2,hy];rfl);obtain⟨y0',us',rfl,_,y1,us1,rfl,rfl,rfl⟩:=Lh;have HR:Hid (w.cell? ⟨b,off+i*2+1,none⟩=some (.bool y.arr)):=Ab 1 _ rfl;clear hi hy Ab;go_wp2_with fail;refine M976 ?_;intro w2 hg yg;have z1:=x1.below (aA hg) x1.lt;have q2:=z1.k 2;have r:=aB HR.out (aA yg);clear q0 q1 q3 q4 x0 x1 z1 y0 hg H1;go_wp2;go_ret;exact⟨aF HF.out.symm,yg⟩
 | none=>
  have HA:=hid (mY hi);rw[dH hi]at H1;clear hi;go_wp2_with fail;refine M976 ?_;intro w2 hg yg;replace x0:=x0.below (aA hg) x0.lt;replace x1:=x1.below (aA hg) x1.lt;clear q0 q1 q2 q3 q4 y0 hg H1;have H2:=uP m _ w2 (aL.below HM.out (aA yg)) a k c x (aV.below HX.out (aA yg));simp only[agg,List.toArray]at H2;obtain⟨k0,k1,k2,k3⟩:=x0.c4;go_wp2_with fail;refine H2.mono ?_;rintro e w3 ⟨rfl,hg⟩;have yh:=aC yg hg;replace x0:=x0.below (aA hg) x0.lt;replace x1:=x1.below (aA hg) x1.lt;clear k0 k1 k2 k3 yg hg H2;have H3:=aAa p _ w3 (aL.below HQ.out (aA yh)) a k c x (aV.below HX.out (aA yh));simp only[agg,List.toArray]at H3;obtain⟨q0,q1,q2,q3,q4⟩:=x1.c5;cases hl:ix p.locals x with
  | some j=>
   have HF:Hid (sgl m p x=true):=by show _=_;unfold sgl;rw[HA.out];simp only;rw[zB3 (zA3 (xG hl).1)];rfl
   rw[cK hl]at H3;clear hl;generalize ixI (m.vars.map Va.name) x=vv at *;go_wp2_with fail;refine H3.mono ?_;rintro e w4 ⟨rfl,hg⟩;have yi:=aC yh hg;clear q0 q1 q2 q3 q4 x0 x1 yh hg H3;have hj:(0:Int)<=(j:Int):=by omega
   go_wp2;go_ret;exact⟨aF HF.out.symm,yi⟩
  | none=>
   have Qw:=zC2 (aEj.1 hl);rw[dH hl]at H3;clear hl;cases hz:ix (m.vars.map Va.name) x with
   | none=>
    have HF:Hid (sgl m p x=false):=by show _=_;unfold sgl;rw[HA.out];simp only;rw[Qw,lJ hz];rfl
    rw[dH hz];clear hz Qw;go_wp2_with fail;refine H3.mono ?_;rintro e w4 ⟨rfl,hg⟩;have yi:=aC yh hg;clear q0 q1 q2 q3 q4 x0 x1 yh hg H3;go_wp2;go_ret;exact⟨aF HF.out.symm,yi⟩
   | some i=>
    obtain⟨y,hy,_⟩:=mD hz;have HF:Hid (sgl m p x=decide (y.size=0)):=by show _=_;unfold sgl;rw[HA.out];simp only;rw[Qw,oS hz hy];simp
    have Xn:i<nv:=by have:=iM hy;rw[HNV.out]at this;exact this
    obtain⟨b,off,ys,rfl,Lh,Ab⟩:=aX.cellsAt HV.out (show(m.vars.map Va.fl)[i]?=some y.fl by rw[zA2,hy];rfl);obtain⟨y0',us',rfl,_,y1,us1,rfl,rfl,rfl⟩:=Lh;have HR:Hid (w.cell? ⟨b,off+i*2+1,none⟩=some (.int .i64 y.size)):=Ab 1 _ rfl;rw[cK hz];clear hz Qw hy Ab;have Tp:(0:Int)<=(i:Int):=by omega
    go_wp2_with fail;refine H3.mono ?_;rintro e w4 ⟨rfl,hg⟩;have yi:=aC yh hg;replace x0:=x0.below (aA hg) x0.lt;have k2:=x0.k 2;have r:=aB HR.out (aA yi);clear q0 q1 q2 q3 q4 x0 x1 yh hg H3;go_wp2;go_ret;exact⟨aF (by rw[HF.out];rfl),yi⟩
theorem oL (m:Mo)(p:Pr)(vs us:List Value)(w:World)(hm:aL w m.fl vs)(hp:aL w p.fl us)(a:Option Addr)(k c:Nat)(x:List Int)(hx:aV w a k x):
  Calls Tryz.prog 105 #[agg vs,agg us,.slice a k c] w fun e w'=>e=.returned (.bool (arq m p x))/\w.grownBy w' none:=by
 have Cu:=hm;have Lj:=hp;obtain⟨v0,_,rfl,_,v1,_,rfl,_,v2,_,rfl,hv,v3,_,rfl,_,rfl⟩:=hm;obtain⟨u0,_,rfl,_,u1,_,rfl,_,u2,_,rfl,hu,u3,_,rfl,_,u4,_,rfl,_,rfl⟩:=hp;obtain⟨av,cv,rfl,hV⟩:=hv.list;obtain⟨ap,cp,rfl,hP⟩:=hu.list;have hv9:=hV.len9;have Ul:=hP.len9;rw[zB2]at hv9 Ul;simp only[zB2]at Cu Lj ⊢;obtain⟨nv,Jy⟩:=zx (m.vars.length);obtain⟨np,Es⟩:=zx (p.params.length);have HNV:=hid Jy.symm;have Ql:=hid Es.symm;rw[<-Jy]at Cu hv9 ⊢;rw[<-Es]at Lj Ul ⊢;clear Jy Es hv hu;refine M973 ?_;clear hV hP Cu Lj hx;intro HV HP HM HQ HX x0 x1 hgz y0;simp only[List.toArray]at x0 x1;rw[hgz]at x1;clear hgz;simp only[agg];go_enter Tryz.func105,Tryz.ntmps105;go_upto_region 1 with fail;generalize (w.alloc (.cells #[v0,v1,.slice av nv cv,v3] 81 (0,0))).alloc (.cells #[u0,u1,.slice ap np cp,u3,u4] 111 (0,0))=w1 at *;have H1:=sB p _ w1 (aL.below HQ.out (aA y0)) a k c x (aV.below HX.out (aA y0));simp only[agg,List.toArray]at H1;obtain⟨q0,q1,q2,q3,q4⟩:=x1.c5;go_wp2_with fail;refine M976 ?_;intro w2 hg yg;replace x0:=x0.below (aA hg) x0.lt;replace x1:=x1.below (aA hg) x1.lt;clear q0 q1 q2 q3 q4 y0 hg H1;have H2:=uP m _ w2 (aL.below HM.out (aA yg)) a k c x (aV.below HX.out (aA yg));simp only[agg,List.toArray]at H2;obtain⟨k0,k1,k2,k3⟩:=x0.c4;go_wp2_with fail;refine H2.mono ?_;rintro e w3 ⟨rfl,hg⟩;have yh:=aC yg hg;replace x0:=x0.below (aA hg) x0.lt;replace x1:=x1.below (aA hg) x1.lt;clear k0 k1 k2 k3 yg hg H2;have k2:=x0.k 2;have q2:=x1.k 2;clear x0 x1;have Cd:∀(bp:Bool),(wR p x == some true)=bp->(bp=true\/∃A:Int,A=ixI (m.vars.map Va.name) x/\((A = -1/\nK m x=none)\/∃i y b off,A=(i:Nat)/\i<nv/\av=some ⟨b,off,none⟩/\nK m x=some y.size/\w3.cell? ⟨b,off+i*2+1,none⟩=some (.int .i64 (Va.size y)))):=by
  intro bp _;cases bp
  .
   right;refine⟨_,rfl, ?_⟩;cases hz:ix (m.vars.map Va.name) x with
   | none=>exact .inl ⟨dH hz,lJ hz⟩| some i=>
    obtain⟨y,hy,_⟩:=mD hz;obtain⟨b,off,ys,e,Lh,Ab⟩:=aX.cellsAt HV.out (show(m.vars.map Va.fl)[i]?=some y.fl by rw[zA2,hy];rfl);obtain⟨y0',us',rfl,_,y1,us1,rfl,rfl,rfl⟩:=Lh;exact .inr ⟨i,y,b,off,cK hz,by have:=iM hy;rw[HNV.out]at this;exact this,e,oS hz hy,aB (Ab 1 _ rfl) (aA yh)⟩
  .
   exact .inl rfl
 cases hi:ix (p.params.map Pa.name) x with
 | some i=>
  obtain⟨y,hy,_⟩:=mD hi;have Nc:=qR hi hy;have Xn:i<np:=by have:=iM hy;rw[Ql.out]at this;exact this
  obtain⟨b,off,ys,rfl,Lh,Ab⟩:=aX.cellsAt HP.out (show(p.params.map Pa.fl)[i]?=some y.fl by rw[zA2,hy];rfl);obtain⟨y0',us',rfl,_,y1,us1,rfl,rfl,rfl⟩:=Lh;have r:=aB (Ab 1 _ rfl) (aA yh);rw[cK hi];have Tp:(0:Int)<=(i:Int):=by omega
  clear hi hy Ab;cases hya:y.arr
  .
   rw[hya]at r Nc;exact QA23
  .
   rw[hya]at r Nc;have HF:Hid (arq m p x=true):=by show _=_;unfold arq;rw[Nc];rfl
   clear Cd Nc;generalize ixI (m.vars.map Va.name) x=vv at *;go_wp2;go_ret;exact⟨aF HF.out.symm,yh⟩
 | none=>
  have Nc:=mY hi;rw[dH hi];clear hi;exact QA23
end
theorem QA75{p:Prop}(h:p:=by
 go_wp2
 go_ret
 refine⟨_,rfl, ?_,fun _=>?_,fun h=>absurd h A0,hd'⟩
 .
  exact Int.emod_nonneg _ A0
 .
  exact Int.emod_lt_of_pos _ A0):p:=h
theorem QA126{p:Prop}(h:p:=by
 rw[BitVec.toNat_and,BitVec.toNat_ofInt,hm,Nat.and_two_pow_sub_one_eq_mod]):p:=h
theorem aQ8 (n:Int):bits .and .i64 n 255=n % 256:=by
 have hm:(BitVec.ofInt 64 255).toNat=2 ^ 8-1:=by decide
 have Cd:(BitVec.ofInt 64 n &&& BitVec.ofInt 64 255).toNat=(n % ((2 ^ 64:Nat):Int)).toNat % 2 ^ 8:=by
  exact QA126
 show IntKind.i64.wrap ((BitVec.ofInt 64 n &&& BitVec.ofInt 64 255).toNat:Nat)=n % 256
 rw[Cd,IntKind.wrap_i64];omega
theorem aUv (n:Int):bits .and .i64 n 1073741823=n % 1073741824:=by
 have hm:(BitVec.ofInt 64 1073741823).toNat=2 ^ 30-1:=by decide
 have Cd:(BitVec.ofInt 64 n &&& BitVec.ofInt 64 1073741823).toNat=(n % ((2 ^ 64:Nat):Int)).toNat % 2 ^ 30:=by
  exact QA126
 show IntKind.i64.wrap ((BitVec.ofInt 64 n &&& BitVec.ofInt 64 1073741823).toNat:Nat)=n % 1073741824
 rw[Cd,IntKind.wrap_i64];omega
def Cur (w:World)(g:Nat):Prop:=
 ∃(a:Option Addr) (n c:Nat) (l:List Int) (i h:Int),w.heap[g]?=some (.cells #[.slice a n c,.int .i64 i,.int .i64 h] 71 (0,0))/\0<=i/\i<=n/\n<=9223372036854775807 ∧
  l.length=n/\(∀x ∈ l,0<=x/\x<=255)/\(0<n->∃b off,a=some ⟨b,off,none⟩/\b<g/\∀j,j<n->w.cell? ⟨b,off+j,none⟩=some (.int .u8 (l[j]?.getD 0)))
set_option maxRecDepth 100000 in
theorem vR (g:Nat)(w:World)(h:Cur w g):
  Calls Tryz.prog 54 #[.pointer (some ⟨g,0,none⟩)] w fun e w'=>∃x:Int,e=.returned (.int .i64 x)/\0<=x/\x<=255/\Cur w' g/\w.grownBy w' (some g):=by
 obtain⟨a,n,c,l,i,h,hg,Tp,hi1,hn,hl,Bu,hc⟩:=h;have c0:w.cell? ⟨g,0,none⟩=some (.slice a n c):=by rw[cell_of_row w g 0 _ _ (0,0) hg];rfl
 have c1:w.cell? ⟨g,1,none⟩=some (.int .i64 i):=by rw[cell_of_row w g 1 _ _ (0,0) hg];rfl
 have c2:w.cell? ⟨g,2,none⟩=some (.int .i64 h):=by rw[cell_of_row w g 2 _ _ (0,0) hg];rfl
 have f2:w.frozen? ⟨g,2,none⟩=false:=frozen_of_row w g 2 _ _ hg;have HG:=hid hg;clear hg;have ha255:=aQ8;go_enter Tryz.func54,Tryz.ntmps54;go_wp2_with fail;generalize wrap64 (wrap64 (h*6364136223846793005)+1442695040888963407)=h1;generalize wrap64 (h*6364136223846793005)=h2;obtain⟨w1,Ge⟩:=zx (w.setCell ⟨g,2,none⟩ (.int .i64 h1));rw[<-Ge];have hg1:w1.heap[g]?=some (.cells #[.slice a n c,.int .i64 i,.int .i64 h1] 71 (0,0)):=by
  rw[Ge,heap_setCell_same w g 2 _ _ _ HG.out];rfl
 have Am:w.grownBy w1 (some g):=by
  rw[Ge];exact⟨rfl,rfl,rfl,by simp,fun k _ hk=>heap_setCell_other w ⟨g,2,none⟩ k _ (fun e=>hk (by simp[e]))⟩
 have Hr:0<n->∃b off,a=some ⟨b,off,none⟩/\b<g/\∀j,j<n->w1.cell? ⟨b,off+j,none⟩=some (.int .u8 (l[j]?.getD 0)):=by
  intro hp;obtain⟨b,off,e,hb,Gn⟩:=hc hp;exact⟨b,off,e,hb,fun j hj=>Am.cell (Gn j hj) A12⟩
 have d0:w1.cell? ⟨g,0,none⟩=some (.slice a n c):=by rw[cell_of_row w1 g 0 _ _ (0,0) hg1];rfl
 have d1:w1.cell? ⟨g,1,none⟩=some (.int .i64 i):=by rw[cell_of_row w1 g 1 _ _ (0,0) hg1];rfl
 have d2:w1.cell? ⟨g,2,none⟩=some (.int .i64 h1):=by rw[cell_of_row w1 g 2 _ _ (0,0) hg1];rfl
 have k1:w1.frozen? ⟨g,1,none⟩=false:=frozen_of_row w1 g 1 _ _ hg1;have HC:=hid Hr;have Yb:=hid hg1;have HR:=hid Am;have HLL:=hid hl;clear hc c0 c1 c2 f2 HG Ge Hr hg1 Am hl;obtain⟨k,rfl⟩:=Int.eq_ofNat_of_zero_le Tp;have Fx:Hid (∀(w2:World) (k':Nat),w2.heap[g]?=some (.cells #[.slice a n c,.int .i64 k',.int .i64 h1] 71 (0,0))->k'<=n->w1.grownBy w2 (some g)->Cur w2 g/\w.grownBy w2 (some g)):=by
  intro w2 k' hb Ur Gm;refine⟨⟨a,n,c,l,k',h1,hb,by omega,by omega,hn,HLL.out,Bu,fun hp=>?_⟩, ?_⟩
  .
   obtain⟨b,off,e,Lr,Gn⟩:=HC.out hp;exact⟨b,off,e,Lr,fun j hj=>Gm.cell (Gn j hj) A12⟩
  .
   have La:=HR.out;exact⟨Gm.os.trans La.os,Gm.tape.trans La.tape,Gm.output.trans La.output,zF2 La.size Gm.size,fun b hb Ae=>(Gm.block b (Nat.lt_of_lt_of_le hb La.size) Ae).trans (La.block b hb Ae)⟩
 by_cases Hn:k<n
 .
  obtain⟨b,off,rfl,Lr,Gn⟩:=HC.out A0;have hx:=Gn k Hn;have hxb:=kM Bu k;have hst:Hid (∀q,((w1.drewN q).setCell ⟨g,1,none⟩ (.int .i64 ((k:Int)+1))).heap[g]?=some (.cells #[.slice (some ⟨b,off,none⟩) n c,.int .i64 ((k+1:Nat):Int),.int .i64 h1] 71 (0,0))/\w1.grownBy ((w1.drewN q).setCell ⟨g,1,none⟩ (.int .i64 ((k:Int)+1))) (some g)):=by
   intro q;refine⟨?_,⟨rfl,rfl,rfl,by simp,fun j _ hj=>heap_setCell_other w1 ⟨g,1,none⟩ j _ (fun e=>hj (by simp[e]))⟩⟩;rw[heap_setCell_same (w1.drewN q) g 1 _ _ _ Yb.out];rfl
  have hin':(k:Int)<(n:Int):=A0;clear Gn HC Yb HR HLL Bu;go_quiet (fail);go_wp2_with fail;go_quiet (fail);go_wp2_with fail;go_quiet (fail);go_wp2;go_ret;have HH:=fun q=>Fx.out _ (k+1) (hst.out q).1 A0 (hst.out q).2;refine⟨_,rfl, ?_, ?_,(HH _).1,(HH _).2⟩
  .
   omega
  .
   omega
 .
  clear HC HR HLL Bu;go_quiet (fail);go_wp2_with fail;go_quiet (fail);go_wp2;go_ret;have HH:=fun p q=>Fx.out ((w1.drewN p).drewN q) k Yb.out A0 ⟨rfl,rfl,rfl,zB0 _,fun _ _ _=>rfl⟩;refine⟨_,rfl, ?_, ?_,(HH _ _).1,(HH _ _).2⟩
  .
   omega
  .
   omega
def qM (w w':World)(g:Nat):Prop:=Cur w' g/\w.grownBy w' (some g)
theorem qM.trans {w w1 w2:World}{g:Nat}(h1:qM w w1 g)(h2:qM w1 w2 g):qM w w2 g:=⟨h2.1,aC h1.2 h2.2⟩
set_option maxRecDepth 100000 in
theorem aA8 (g:Nat)(n:Int)(w:World)(h:Cur w g)(hn:n<=1099511627776):
  Calls Tryz.prog 26 #[.pointer (some ⟨g,0,none⟩),.int .i64 n] w fun e w'=>∃x:Int,e=.returned (.int .i64 x)/\0<=x/\(0<n->x<n)/\(n<=0->x=0)/\qM w w' g:=by
 by_cases h0:n<=0
 .
  have hh:qM w w g:=⟨h,World.grownBy.refl _ _⟩
  clear h;go_enter Tryz.func26,Tryz.ntmps26;go_wp2;go_ret;exact⟨0,rfl,by omega,fun h=>absurd h A0,fun _=>rfl,hh⟩
 .
  by_cases h256:n<=256
  .
   go_enter Tryz.func26,Tryz.ntmps26;go_wp2_with fail;refine(vR g _ h).mono ?_;rintro e w1 ⟨x,rfl,Gg,Gd,hd⟩;have Ae:¬n=0:=A0;have hd':qM w w1 g:=hd;clear hd h;exact QA75
  .
   go_enter Tryz.func26,Tryz.ntmps26;go_wp2_with fail;refine(vR g _ h).mono ?_;rintro e w1 ⟨x,rfl,Gg,Gd,Hr,hd1⟩;go_wp2_with fail;refine(vR g _ Hr).mono ?_;rintro e w2 ⟨y,rfl,hy0,Xe,Do,Cn⟩;go_wp2_with fail;refine(vR g _ Do).mono ?_;rintro e w3 ⟨z,rfl,Dc,De,Hq,Cv⟩;go_wp2_with fail;refine(vR g _ Hq).mono ?_;rintro e w4 ⟨u,rfl,hu0,Ui,Tu,Ku⟩;have Ae:¬n=0:=A0;have hd':qM w w4 g:=⟨Tu,aC hd1 (aC Cn (aC Cv Ku))⟩
   clear Hr Do Hq Tu hd1 Cn Cv Ku h;exact QA75
end Go.Proofs.YtcbhdhmhidpdgaaGreat

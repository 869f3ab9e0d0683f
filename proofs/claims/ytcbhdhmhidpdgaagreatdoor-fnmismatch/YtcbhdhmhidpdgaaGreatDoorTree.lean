import Derived.Test.YtcbhdhmhidpdgaaGreatDoorPackA
namespace Go.Proofs.YtcbhdhmhidpdgaaGreatDoor
open Go.RowKit
set_option linter.unusedVariables false
variable{c off:Nat}{a:Option Addr}{w w':World}
inductive Fl where
 | b (l:List Int)| i (l:List Int)| n (x:Int)| t (x:Bool)| l (k:Nat) (rs:List (List Fl))
mutual
def Fl.Rd (w:World):Fl->Value->Prop
 | .b l,v=>∃a c,v=.slice a l.length c/\aV w a l.length l/\l.length<=c/\c<=maxLen/\(a=none->c=0)| .i l,v=>∃a c,v=.slice a l.length c/\aFq w a l.length l/\l.length<=c/\c<=maxLen/\(a=none->c=0)| .n x,v=>v=.int .i64 x| .t x,v=>v=.bool x| .l k rs,v=>∃a c,v=.slice a rs.length c/\rs.length<=c/\c<=maxLen/\(a=none->c=0)/\(0<rs.length->∃b off,a=some ⟨b,off,none⟩/\dD w b k off rs)
def jK (w:World)(b:Nat):Nat->List Fl->Prop
 | _,[]=>True| off,f :: r=>(∃v,w.cell? ⟨b,off,none⟩=some v/\f.Rd w v)/\jK w b (off+1) r
def dD (w:World)(b k:Nat):Nat->List (List Fl)->Prop
 | _,[]=>True| off,r :: rs=>jK w b off r/\dD w b k (off+k) rs
end
mutual
theorem Fl.Rd.below' {w w':World}(hb:Below w.heap.size w w'):∀(f:Fl) (v:Value),f.Rd w v->f.Rd w' v
 | .b l,v,h=>by
  obtain⟨a,c,e,hr,r⟩:=h;exact⟨a,c,e,hr.below hb,r⟩
 | .i l,v,h=>by
  obtain⟨a,c,e,hr,r⟩:=h;exact⟨a,c,e,hr.below hb,r⟩
 | .n x,v,h=>h| .t x,v,h=>h| .l k rs,v,h=>by
  obtain⟨a,c,e,h1,h2,h3,h4⟩:=h;refine⟨a,c,e,h1,h2,h3,fun hp=>?_⟩;obtain⟨b,off,e2,h5⟩:=h4 hp;exact⟨b,off,e2,dD.below' hb b k off rs h5⟩
theorem jK.below' {w w':World}(hb:Below w.heap.size w w')(b:Nat):∀(off:Nat) (r:List Fl),jK w b off r->jK w' b off r
 | _,[],h=>trivial| off,f :: r,h=>by
  obtain⟨⟨v,hc,hv⟩,h2⟩:=h;exact⟨⟨v,by rw[hb.cell (zI2 w _ hc)];exact hc,Fl.Rd.below' hb f v hv⟩,jK.below' hb b (off+1) r h2⟩
theorem dD.below' {w w':World}(hb:Below w.heap.size w w')(b k:Nat):∀(off:Nat) (rs:List (List Fl)),dD w b k off rs->dD w' b k off rs
 | _,[],h=>trivial| off,r :: rs,h=>⟨jK.below' hb b off r h.1,dD.below' hb b k (off+k) rs h.2⟩
end
theorem Fl.Rd.below{f:Fl}{v:Value}(h:f.Rd w v)(hb:Below w.heap.size w w'):f.Rd w' v:=Fl.Rd.below' hb f v h
theorem jK.below{b:Nat}{r:List Fl}(h:jK w b off r)(hb:Below w.heap.size w w'):jK w' b off r:=jK.below' hb b off r h
theorem dD.below{b k:Nat}{rs:List (List Fl)}(h:dD w b k off rs)(hb:Below w.heap.size w w'):dD w' b k off rs:=dD.below' hb b k off rs h
theorem dD.el{b k:Nat}{rs:List (List Fl)}{i:Nat}{r:List Fl}:∀{off:Nat},dD w b k off rs->rs[i]?=some r->jK w b (off+i*k) r:=by
 induction rs generalizing i with
 | nil=>intro off _ h;simp at h| cons x rs ih=>
  intro off h hi;cases i with
  | zero=>
   simp only[List.getElem?_cons_zero,zG2]at hi;subst hi;rw[Nat.zero_mul,zG1];exact h.1
  | succ i=>
   rw[List.getElem?_cons_succ]at hi;have:=ih h.2 hi;rw[show off+(i+1)*k=off+k+i*k by rw[Nat.add_mul];omega];exact this
structure aW (w:World) (a:Option Addr) (c k:Nat) (rs:List (List Fl)):Prop where
 cap:rs.length<=c
 most:c<=maxLen
 nil:a=none->c=0
 row:0<rs.length->∃b off,a=some ⟨b,off,none⟩/\dD w b k off rs
theorem aW.below {w w':World}{a:Option Addr}{c k:Nat}{rs:List (List Fl)}(h:aW w a c k rs)(hb:Below w.heap.size w w'):aW w' a c k rs:=by
 refine⟨h.cap,h.most,h.nil,fun hp=>?_⟩;obtain⟨b,off,e,hr⟩:=h.row hp;exact⟨b,off,e,hr.below hb⟩
theorem Fl.Rd.list{k:Nat}{rs:List (List Fl)}{v:Value}(h:(Fl.l k rs).Rd w v):∃a c,v=.slice a rs.length c/\aW w a c k rs:=by
 obtain⟨a,c,e,h1,h2,h3,h4⟩:=h;exact⟨a,c,e,h1,h2,h3,h4⟩
theorem aW.rd{k:Nat}{rs:List (List Fl)}(h:aW w a c k rs):(Fl.l k rs).Rd w (.slice a rs.length c):=⟨a,c,rfl,h.cap,h.most,h.nil,h.row⟩
theorem aW.addr{k:Nat}{rs:List (List Fl)}(h:aW w a c k rs)(hp:0<rs.length):∃b off,a=some ⟨b,off,none⟩:=by
 obtain⟨b,off,e,_⟩:=h.row hp;exact⟨b,off,e⟩
theorem aW.el {w:World}{b off c k i:Nat}{rs:List (List Fl)}{r:List Fl}(h:aW w (some ⟨b,off,none⟩) c k rs)(hi:rs[i]?=some r):jK w b (off+i*k) r:=by
 have hp:0<rs.length:=Nat.lt_of_le_of_lt (zD1 _) (zC1.1 hi).1;obtain⟨b',Kw,e,hr⟩:=h.row hp;simp only[zG2,Addr.mk.injEq,and_true]at e;obtain⟨rfl,rfl⟩:=e;exact hr.el hi
def aL (w:World):List Fl->List Value->Prop
 | [],vs=>vs=[]| f :: r,vs=>∃v us,vs=v :: us/\f.Rd w v/\aL w r us
theorem aL.below {w w':World}{r:List Fl}{vs:List Value}(h:aL w r vs)(hb:Below w.heap.size w w'):aL w' r vs:=by
 induction r generalizing vs with
 | nil=>exact h| cons f r ih=>
  obtain⟨v,us,e,h1,h2⟩:=h;exact⟨v,us,e,h1.below hb,ih h2⟩
mutual
def Fl.len:Fl->Nat
 | .b l=>l.length| .i l=>l.length| .n _=>0| .t _=>0| .l _ rs=>rs.length+aG rs
def aO:List Fl->Nat
 | []=>0| f :: r=>f.len+aO r
def aG:List (List Fl)->Nat
 | []=>0| r :: rs=>aO r+aG rs
end
theorem iO (l m:List (List Fl)):aG (l++m)=aG l+aG m:=by
 induction l with
 | nil=>simp[aG]| cons x l ih=>simp[aG,ih];omega
theorem dO {rs:List (List Fl)}{k:Nat}{r:List Fl}(h:rs[k]?=some r):aG (rs.take (k+1))=aG (rs.take k)+aO r:=by
 obtain⟨hk,rfl⟩:=zC1.1 h;rw[zF1 hk,iO];simp[aG]
theorem bL (rs:List (List Fl))(k:Nat):aG (rs.take k)<=aG rs:=by
 have:=iO (rs.take k) (rs.drop k);rw[List.take_append_drop]at this;omega
theorem bZ {rs:List (List Fl)}{r:List Fl}(h:r ∈ rs):aO r<=aG rs:=by
 induction rs with
 | nil=>simp at h| cons x l ih=>
  rcases zG3.1 h with rfl|h
  .
   simp[aG]
  .
   have:=ih h;simp[aG];omega
def szL (left:Int)(n:Nat):Int:=if (n:Int)<=left then left-(n:Int) else -1
inductive Ex where
 | mk (kind n:Int) (mod name:List Int) (kids:List Ex)
inductive St where
 | mk (kind n:Int) (name:List Int) (kids:List Ex) (body els:List St)
structure Pa where
 name:List Int
 arr:Bool
structure Pr where
 name:List Int
 opn:Bool
 params:List Pa
 locals:List (List Int)
 body:List St
structure Va where
 name:List Int
 size:Int
structure Fp where
 name:List Int
 kinds:List Int
structure Fa where
 name:List Int
 procs:List Fp
structure Mo where
 name:List Int
 uses:List (List Int)
 vars:List Va
 procs:List Pr
mutual
def Ex.fl:Ex->List Fl
 | .mk k n m a ks=>[.n k,.n n,.b m,.b a,.l 5 (exs ks)]
def exs:List Ex->List (List Fl)
 | []=>[]| e :: l=>e.fl :: exs l
end
mutual
def St.fl:St->List Fl
 | .mk k n a ks bs es=>[.n k,.n n,.b a,.l 5 (exs ks),.l 6 (sts bs),.l 6 (sts es)]
def sts:List St->List (List Fl)
 | []=>[]| s :: l=>s.fl :: sts l
end
def dI (l:List (List Int)):List (List Fl):=l.map fun x=>[.b x]
def Va.fl (v:Va):List Fl:=[.b v.name,.n v.size]
def Pa.fl (v:Pa):List Fl:=[.b v.name,.t v.arr]
def Pr.fl (q:Pr):List Fl:=[.b q.name,.t q.opn,.l 2 (q.params.map Pa.fl),.l 1 (dI q.locals),.l 6 (sts q.body)]
def Mo.fl (m:Mo):List Fl:=[.b m.name,.l 1 (dI m.uses),.l 2 (m.vars.map Va.fl),.l 5 (m.procs.map Pr.fl)]
def Fp.fl (q:Fp):List Fl:=[.b q.name,.i q.kinds]
def Fa.fl (f:Fa):List Fl:=[.b f.name,.l 2 (f.procs.map Fp.fl)]
structure Xp where
 name:List Int
 print:Int
 pos:Int
structure Ip where
 mod:List Int
 name:List Int
 print:Int
structure Oj where
 name:List Int
 ex:List Xp
 im:List Ip
 data:Int
 code:List Int
structure Rg where
 lo:Int
 hi:Int
 own:Int
 code:List Int
structure Wo where
 t:Bool
 n:Int
 l:Int
 h:Int
 a:Int
 p:Int
 s:Int
structure Ig where
 mods:List Rg
 words:List Wo
 start:Int
def Xp.fl (x:Xp):List Fl:=[.b x.name,.n x.print,.n x.pos]
def Ip.fl (x:Ip):List Fl:=[.b x.mod,.b x.name,.n x.print]
def Oj.fl (x:Oj):List Fl:=[.b x.name,.l 3 (x.ex.map Xp.fl),.l 3 (x.im.map Ip.fl),.n x.data,.b x.code]
def Rg.fl (x:Rg):List Fl:=[.n x.lo,.n x.hi,.n x.own,.b x.code]
def Wo.fl (x:Wo):List Fl:=[.t x.t,.n x.n,.n x.l,.n x.h,.n x.a,.n x.p,.n x.s]
def Ig.fl (x:Ig):List Fl:=[.l 4 (x.mods.map Rg.fl),.l 7 (x.words.map Wo.fl),.n x.start]
structure Ag where
 arr:Bool
 n:Int
structure Ev where
 kind:Int
 fr:Int
 to:Int
 proc:Int
 args:List Ag
 n:Int
structure Ac where
 kind:Int
 to:Int
 proc:Int
 args:List Ag
 n:Int
structure Rs where
 fin:Int
 code:Int
 who:Int
 mod:Int
 low:Int
 steps:Int
 ev:List Ev
 regs:List Wo
 words:List Wo
 wrote:List Int
 read:List Int
def Ag.fl (x:Ag):List Fl:=[.t x.arr,.n x.n]
def Ev.fl (x:Ev):List Fl:=[.n x.kind,.n x.fr,.n x.to,.n x.proc,.l 2 (x.args.map Ag.fl),.n x.n]
def Ac.fl (x:Ac):List Fl:=[.n x.kind,.n x.to,.n x.proc,.l 2 (x.args.map Ag.fl),.n x.n]
def Rs.fl (x:Rs):List Fl:=[.n x.fin,.n x.code,.n x.who,.n x.mod,.n x.low,.n x.steps,.l 6 (x.ev.map Ev.fl),.l 7 (x.regs.map Wo.fl),.l 7 (x.words.map Wo.fl),.i x.wrote,.i x.read]
structure Wd where
 mods:List Mo
 faces:List Fa
 script:List Ac
def Wd.fl (x:Wd):List Fl:=[.l 4 (x.mods.map Mo.fl),.l 2 (x.faces.map Fa.fl),.l 5 (x.script.map Ac.fl)]
theorem aX (l:List Ex):exs l=l.map Ex.fl:=by
 induction l with
 | nil=>rfl| cons x l ih=>simp[exs,ih]
theorem bA (l:List St):sts l=l.map St.fl:=by
 induction l with
 | nil=>rfl| cons x l ih=>simp[sts,ih]
end Go.Proofs.YtcbhdhmhidpdgaaGreatDoor

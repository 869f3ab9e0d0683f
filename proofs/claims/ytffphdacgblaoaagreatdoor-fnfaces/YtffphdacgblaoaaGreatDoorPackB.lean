import Derived.Test.YtffphdacgblaoaaGreatDoorName
namespace Go.Proofs.YtffphdacgblaoaaGreatDoor
open Go.RowKit
set_option linter.unusedVariables false
def aG6 (w:World)(a:Option Addr)(n:Nat)(l:List Int):Prop:=
 l.length=n/\(∀x ∈ l, -9223372036854775808<=x/\x<=9223372036854775807)/\(0<n->∃b off,a=some ⟨b,off,none⟩/\∀i,i<n->w.cell? ⟨b,off+i,none⟩=some (.int .i64 (l[i]?.getD 0)))
theorem aG6.below {w w':World}{a:Option Addr}{n:Nat}{l:List Int}(h:aG6 w a n l)(hb:Below w.heap.size w w'):aG6 w' a n l:=by
 exact U58
def aM9 (w:World)(base:Nat)(v:Value)(n:Nat)(l:List Int):Prop:=
 w.ownsRow base 3 1 v n (l.map (Value.int .i64))/\∀x ∈ l, -9223372036854775808<=x/\x<=9223372036854775807
theorem aM9.below {w w':World}{base:Nat}{v:Value}{n:Nat}{l:List Int}(h:aM9 w base v n l)(hb:Below w.heap.size w w'):aM9 w' base v n l:=by
 exact U52
theorem aM9.shape {w:World}{base:Nat}{v:Value}{n:Nat}{l:List Int}(h:aM9 w base v n l):
  ∃a c,v=.slice a n c/\n<=c/\c<=maxLen/\aG6 w a n l/\∀k,v.ownBlock=some k->base<=k/\k<w.heap.size:=by
 have Aj:=h.1.lt;exact U15
theorem aRb:(Tryz.prog.info? 3).map (fun i=>(i.zero,i.size,i.bytes))=some (some (.int .i64 0),1,8):=by kernel_rfl
inductive Fl where
 | b (l:List Int)
 | i (l:List Int)
 | n (x:Int)
 | t (x:Bool)
 | l (k:Nat) (rs:List (List Fl))
mutual
def Fl.Rd (w:World):Fl->Value->Prop
 | .b l,v=>∃a c,v=.slice a l.length c/\eG w a l.length l/\l.length<=c/\c<=maxLen/\(a=none->c=0)
 | .i l,v=>∃a c,v=.slice a l.length c/\aG6 w a l.length l/\l.length<=c/\c<=maxLen/\(a=none->c=0)
 | .n x,v=>v=.int .i64 x
 | .t x,v=>v=.bool x
 | .l k rs,v=>∃a c,v=.slice a rs.length c/\rs.length<=c/\c<=maxLen/\(a=none->c=0)/\(0<rs.length->∃b off,a=some ⟨b,off,none⟩/\eT w b k off rs)
def lR (w:World)(b:Nat):Nat->List Fl->Prop
 | _,[]=>True
 | off,f :: r=>(∃v,w.cell? ⟨b,off,none⟩=some v/\f.Rd w v)/\lR w b (off+1) r
def eT (w:World)(b k:Nat):Nat->List (List Fl)->Prop
 | _,[]=>True
 | off,r :: rs=>lR w b off r/\eT w b k (off+k) rs
end
mutual
theorem Fl.Rd.below' {w w':World}(hb:Below w.heap.size w w'):∀(f:Fl) (v:Value),f.Rd w v->f.Rd w' v
 | .b l,v,h=>by
  obtain⟨a,c,e,hr,r⟩:=h;exact⟨a,c,e,hr.below hb,r⟩
 | .i l,v,h=>by
  obtain⟨a,c,e,hr,r⟩:=h;exact⟨a,c,e,hr.below hb,r⟩
 | .n x,v,h=>h
 | .t x,v,h=>h
 | .l k rs,v,h=>by
  obtain⟨a,c,e,h1,h2,h3,h4⟩:=h
  refine⟨a,c,e,h1,h2,h3,fun hp=>?_⟩
  obtain⟨b,off,e2,h5⟩:=h4 hp;exact⟨b,off,e2,eT.below' hb b k off rs h5⟩
theorem lR.below' {w w':World}(hb:Below w.heap.size w w')(b:Nat):∀(off:Nat) (r:List Fl),lR w b off r->lR w' b off r
 | _,[],h=>trivial
 | off,f :: r,h=>by
  obtain⟨⟨v,hc,hv⟩,h2⟩:=h
  exact⟨⟨v,by rw[hb.cell (zI3 w _ hc)];exact hc,Fl.Rd.below' hb f v hv⟩,lR.below' hb b (off+1) r h2⟩
theorem eT.below' {w w':World}(hb:Below w.heap.size w w')(b k:Nat):∀(off:Nat) (rs:List (List Fl)),eT w b k off rs->eT w' b k off rs
 | _,[],h=>trivial
 | off,r :: rs,h=>⟨lR.below' hb b off r h.1,eT.below' hb b k (off+k) rs h.2⟩
end
theorem Fl.Rd.below {w w':World}{f:Fl}{v:Value}(h:f.Rd w v)(hb:Below w.heap.size w w'):f.Rd w' v:=Fl.Rd.below' hb f v h
theorem lR.below {w w':World}{b off:Nat}{r:List Fl}(h:lR w b off r)(hb:Below w.heap.size w w'):lR w' b off r:=lR.below' hb b off r h
theorem eT.below {w w':World}{b k off:Nat}{rs:List (List Fl)}(h:eT w b k off rs)(hb:Below w.heap.size w w'):eT w' b k off rs:=eT.below' hb b k off rs h
theorem eT.el {w:World}{b k:Nat}{rs:List (List Fl)}{i:Nat}{r:List Fl}:∀{off:Nat},eT w b k off rs->rs[i]?=some r->lR w b (off+i*k) r:=by
 induction rs generalizing i with
 | nil=>intro off _ h;simp at h
 | cons x rs ih=>
  intro off h hi
  cases i with
  | zero=>
   simp only[List.getElem?_cons_zero,zG2]at hi;subst hi;rw[Nat.zero_mul,zG1];exact h.1
  | succ i=>
   rw[List.getElem?_cons_succ]at hi
   have:=ih h.2 hi
   rw[show off+(i+1)*k=off+k+i*k by rw[Nat.add_mul];omega]
   exact this
structure bQ (w:World) (a:Option Addr) (c k:Nat) (rs:List (List Fl)):Prop where
 cap:rs.length<=c
 most:c<=maxLen
 nil:a=none->c=0
 row:0<rs.length->∃b off,a=some ⟨b,off,none⟩/\eT w b k off rs
theorem bQ.below {w w':World}{a:Option Addr}{c k:Nat}{rs:List (List Fl)}(h:bQ w a c k rs)(hb:Below w.heap.size w w'):bQ w' a c k rs:=by
 refine⟨h.cap,h.most,h.nil,fun hp=>?_⟩
 obtain⟨b,off,e,hr⟩:=h.row hp;exact⟨b,off,e,hr.below hb⟩
theorem Fl.Rd.list {w:World}{k:Nat}{rs:List (List Fl)}{v:Value}(h:(Fl.l k rs).Rd w v):∃a c,v=.slice a rs.length c/\bQ w a c k rs:=by
 obtain⟨a,c,e,h1,h2,h3,h4⟩:=h;exact⟨a,c,e,h1,h2,h3,h4⟩
theorem bQ.rd {w:World}{a:Option Addr}{c k:Nat}{rs:List (List Fl)}(h:bQ w a c k rs):(Fl.l k rs).Rd w (.slice a rs.length c):=⟨a,c,rfl,h.cap,h.most,h.nil,h.row⟩
theorem bQ.addr {w:World}{a:Option Addr}{c k:Nat}{rs:List (List Fl)}(h:bQ w a c k rs)(hp:0<rs.length):∃b off,a=some ⟨b,off,none⟩:=by
 obtain⟨b,off,e,_⟩:=h.row hp;exact⟨b,off,e⟩
theorem bQ.el {w:World}{b off c k i:Nat}{rs:List (List Fl)}{r:List Fl}(h:bQ w (some ⟨b,off,none⟩) c k rs)(hi:rs[i]?=some r):lR w b (off+i*k) r:=by
 have hp:0<rs.length:=Nat.lt_of_le_of_lt (zD1 _) (zC1.1 hi).1;obtain⟨b',off',e,hr⟩:=h.row hp;simp only[zG2,Addr.mk.injEq,and_true]at e;obtain⟨rfl,rfl⟩:=e;exact hr.el hi
def cC (w:World):List Fl->List Value->Prop
 | [],vs=>vs=[]
 | f :: r,vs=>∃v us,vs=v :: us/\f.Rd w v/\cC w r us
theorem cC.below {w w':World}{r:List Fl}{vs:List Value}(h:cC w r vs)(hb:Below w.heap.size w w'):cC w' r vs:=by
 induction r generalizing vs with
 | nil=>exact h
 | cons f r ih=>
  obtain⟨v,us,e,h1,h2⟩:=h;exact⟨v,us,e,h1.below hb,ih h2⟩
mutual
def Fl.len:Fl->Nat
 | .b l=>l.length
 | .i l=>l.length
 | .n _=>0
 | .t _=>0
 | .l _ rs=>rs.length+aH rs
def aL:List Fl->Nat
 | []=>0
 | f :: r=>f.len+aL r
def aH:List (List Fl)->Nat
 | []=>0
 | r :: rs=>aL r+aH rs
end
theorem qU (l m:List (List Fl)):aH (l++m)=aH l+aH m:=by
 induction l with
 | nil=>simp[aH]
 | cons x l ih=>simp[aH,ih];omega
theorem aX {rs:List (List Fl)}{r:List Fl}(h:r ∈ rs):aL r<=aH rs:=by
 induction rs with
 | nil=>simp at h
 | cons x l ih=>
  rcases zG3.1 h with rfl|h
  .
   simp[aH]
  .
   have:=ih h;simp[aH];omega
def szL (left:Int)(n:Nat):Int:=if (n:Int)<=left then left-(n:Int) else -1
inductive Ex where
 | mk (kind n:Int) (mod name:List Int) (kids:List Ex)
inductive St where
 | mk (kind n:Int) (name:List Int) (kids:List Ex) (body els:List St)
structure Pa where
 name:List Int
 arr:Bool
structure Pr where
 name:List Int
 opn:Bool
 params:List Pa
 locals:List (List Int)
 body:List St
structure Va where
 name:List Int
 size:Int
structure Fp where
 name:List Int
 kinds:List Int
structure Fa where
 name:List Int
 procs:List Fp
structure Mo where
 name:List Int
 uses:List (List Int)
 vars:List Va
 procs:List Pr
mutual
def Ex.fl:Ex->List Fl
 | .mk k n m a ks=>[.n k,.n n,.b m,.b a,.l 5 (exs ks)]
def exs:List Ex->List (List Fl)
 | []=>[]
 | e :: l=>e.fl :: exs l
end
mutual
def St.fl:St->List Fl
 | .mk k n a ks bs es=>[.n k,.n n,.b a,.l 5 (exs ks),.l 6 (sts bs),.l 6 (sts es)]
def sts:List St->List (List Fl)
 | []=>[]
 | s :: l=>s.fl :: sts l
end
def dC (l:List (List Int)):List (List Fl):=l.map fun x=>[.b x]
def Va.fl (v:Va):List Fl:=[.b v.name,.n v.size]
def Pa.fl (v:Pa):List Fl:=[.b v.name,.t v.arr]
def Pr.fl (q:Pr):List Fl:=[.b q.name,.t q.opn,.l 2 (q.params.map Pa.fl),.l 1 (dC q.locals),.l 6 (sts q.body)]
def Mo.fl (m:Mo):List Fl:=[.b m.name,.l 1 (dC m.uses),.l 2 (m.vars.map Va.fl),.l 5 (m.procs.map Pr.fl)]
def Fp.fl (q:Fp):List Fl:=[.b q.name,.i q.kinds]
def Fa.fl (f:Fa):List Fl:=[.b f.name,.l 2 (f.procs.map Fp.fl)]
structure Xp where
 name:List Int
 print:Int
 pos:Int
structure Ip where
 mod:List Int
 name:List Int
 print:Int
structure Oj where
 name:List Int
 ex:List Xp
 im:List Ip
 data:Int
 code:List Int
structure Rg where
 lo:Int
 hi:Int
 own:Int
 code:List Int
structure Wo where
 t:Bool
 n:Int
 l:Int
 h:Int
 a:Int
 p:Int
 s:Int
structure Ig where
 mods:List Rg
 words:List Wo
 start:Int
def Xp.fl (x:Xp):List Fl:=[.b x.name,.n x.print,.n x.pos]
def Ip.fl (x:Ip):List Fl:=[.b x.mod,.b x.name,.n x.print]
def Oj.fl (x:Oj):List Fl:=[.b x.name,.l 3 (x.ex.map Xp.fl),.l 3 (x.im.map Ip.fl),.n x.data,.b x.code]
def Rg.fl (x:Rg):List Fl:=[.n x.lo,.n x.hi,.n x.own,.b x.code]
def Wo.fl (x:Wo):List Fl:=[.t x.t,.n x.n,.n x.l,.n x.h,.n x.a,.n x.p,.n x.s]
def Ig.fl (x:Ig):List Fl:=[.l 4 (x.mods.map Rg.fl),.l 7 (x.words.map Wo.fl),.n x.start]
structure Ag where
 arr:Bool
 n:Int
structure Ev where
 kind:Int
 fr:Int
 to:Int
 proc:Int
 args:List Ag
 n:Int
structure Ac where
 kind:Int
 to:Int
 proc:Int
 args:List Ag
 n:Int
structure Rs where
 fin:Int
 code:Int
 who:Int
 mod:Int
 low:Int
 steps:Int
 ev:List Ev
 regs:List Wo
 words:List Wo
 wrote:List Int
 read:List Int
def Ag.fl (x:Ag):List Fl:=[.t x.arr,.n x.n]
def Ev.fl (x:Ev):List Fl:=[.n x.kind,.n x.fr,.n x.to,.n x.proc,.l 2 (x.args.map Ag.fl),.n x.n]
def Ac.fl (x:Ac):List Fl:=[.n x.kind,.n x.to,.n x.proc,.l 2 (x.args.map Ag.fl),.n x.n]
def Rs.fl (x:Rs):List Fl:=[.n x.fin,.n x.code,.n x.who,.n x.mod,.n x.low,.n x.steps,.l 6 (x.ev.map Ev.fl),.l 7 (x.regs.map Wo.fl),.l 7 (x.words.map Wo.fl),.i x.wrote,.i x.read]
structure Wd where
 mods:List Mo
 faces:List Fa
 script:List Ac
def Wd.fl (x:Wd):List Fl:=[.l 4 (x.mods.map Mo.fl),.l 2 (x.faces.map Fa.fl),.l 5 (x.script.map Ac.fl)]
theorem aQ (l:List Ex):exs l=l.map Ex.fl:=by
 induction l with
 | nil=>rfl
 | cons x l ih=>simp[exs,ih]
theorem bL (l:List St):sts l=l.map St.fl:=by
 induction l with
 | nil=>rfl
 | cons x l ih=>simp[sts,ih]
theorem Q29{p:Prop}(h:p:=by simp;omega):p:=h
theorem Q76{p:Prop}(h:p:=by simpa using hg):p:=h
theorem U83{p:Prop}(h:p:=by
 unfold Fl.Has at h ⊢
 obtain⟨g,e,h1,h2,h3,r⟩:=h
 exact⟨g,e,h1,h2,(hs g h1 h2).trans h3,r⟩):p:=h
theorem U93{p:Prop}(h:p:=by
 unfold Fl.Has at h ⊢
 obtain⟨g,e,h1,h2,h3,r⟩:=h
 exact⟨g,e,by omega,by omega,h3,r⟩):p:=h
theorem sY {w:World}{base g:Nat}{l:List Int}(hg:w.heap[g]?=some (.cells (l.map (Value.int .i64)).toArray 3 (0,0)))(hb:base<=g)(hm:l.length<=maxLen)(hby:∀x ∈ l, -9223372036854775808<=x/\x<=9223372036854775807):
  aG6 w (some ⟨g,0,none⟩) l.length l:=by
 refine⟨rfl,hby,fun hn=>⟨g,0,rfl,fun i hi=>?_⟩⟩
 rw[zJ2,cell_of_row w g i _ _ (0,0) hg]
 simp[hi]
mutual
def Fl.Has (w:World):Nat->Nat->Fl->Value->Prop
 | lo,hi,.b l,v=>∃g,v=.slice (some ⟨g,0,none⟩) l.length l.length/\lo<=g/\g<hi/\w.heap[g]?=some (.cells (l.map (Value.int .u8)).toArray 5 (0,0))/\(∀x ∈ l,0<=x/\x<=255)/\l.length<=maxLen
 | lo,hi,.i l,v=>∃g,v=.slice (some ⟨g,0,none⟩) l.length l.length/\lo<=g/\g<hi/\w.heap[g]?=some (.cells (l.map (Value.int .i64)).toArray 3 (0,0))/\(∀x ∈ l, -9223372036854775808<=x/\x<=9223372036854775807)/\l.length<=maxLen
 | lo,hi,.n x,v=>v=.int .i64 x
 | lo,hi,.t x,v=>v=.bool x
 | lo,hi,.l k rs,v=>∃g vs T,v=.slice (some ⟨g,0,none⟩) rs.length rs.length/\lo<=g/\g<hi/\w.heap[g]?=some (.cells (List.toArray vs) T (0,0))/\rs.length<=maxLen/\bO w k (g+1) hi rs vs
def cL (w:World):Nat->Nat->List Fl->List Value->Prop
 | lo,hi,[],us=>us=[]
 | lo,hi,f :: r,us=>∃u us' mid,us=u :: us'/\lo<=mid/\mid<=hi/\Fl.Has w lo mid f u/\cL w mid hi r us'
def bO (w:World)(k:Nat):Nat->Nat->List (List Fl)->List Value->Prop
 | lo,hi,[],vs=>vs=[]
 | lo,hi,r :: rs,vs=>∃us vs' mid,vs=us++vs'/\us.length=k/\lo<=mid/\mid<=hi/\cL w lo mid r us/\bO w k mid hi rs vs'
end
def gT (lo hi:Nat)(w w':World):Prop:=∀g,lo<=g->g<hi->w'.heap[g]?=w.heap[g]?
theorem gT.mono {lo hi lo' hi':Nat}{w w':World}(h:gT lo hi w w')(h1:lo<=lo')(h2:hi'<=hi):gT lo' hi' w w':=fun g a b=>h g Q0 Q0
theorem gT.of {lo hi:Nat}{w w':World}(h:Below w.heap.size w w')(hh:hi<=w.heap.size):gT lo hi w w':=fun g _ b=>h.block g Q0
theorem gT.put {lo hi k i:Nat}{w:World}{v:Value}(h:k<lo\/hi<=k):gT lo hi w (w.setCell ⟨k,i,none⟩ v):=
 fun g a b=>heap_setCell_other w ⟨k,i,none⟩ g v Q29
theorem gT.trans {lo hi:Nat}{a b c:World}(h:gT lo hi a b)(k:gT lo hi b c):gT lo hi a c:=fun g x y=>(k g x y).trans (h g x y)
mutual
theorem Fl.Has.stays' {w w':World}:∀(f:Fl) (lo hi:Nat) (v:Value),gT lo hi w w'->f.Has w lo hi v->f.Has w' lo hi v
 | .b l,lo,hi,v,hs,h=>by
  exact U83
 | .i l,lo,hi,v,hs,h=>by
  exact U83
 | .n x,lo,hi,v,hs,h=>by unfold Fl.Has at h ⊢;exact h
 | .t x,lo,hi,v,hs,h=>by unfold Fl.Has at h ⊢;exact h
 | .l k rs,lo,hi,v,hs,h=>by
  unfold Fl.Has at h ⊢;obtain⟨g,vs,T,e,h1,h2,h3,h4,h5⟩:=h;exact⟨g,vs,T,e,h1,h2,(hs g h1 h2).trans h3,h4,bO.stays' k rs (g+1) hi vs (hs.mono Q0 (zB0 _)) h5⟩
theorem cL.stays' {w w':World}:∀(r:List Fl) (lo hi:Nat) (us:List Value),gT lo hi w w'->cL w lo hi r us->cL w' lo hi r us
 | [],lo,hi,us,hs,h=>by unfold cL at h ⊢;exact h
 | f :: r,lo,hi,us,hs,h=>by
  unfold cL at h ⊢;obtain⟨u,us',mid,e,h1,h2,h3,h4⟩:=h;exact⟨u,us',mid,e,h1,h2,Fl.Has.stays' f lo mid u (hs.mono (zB0 _) h2) h3,cL.stays' r mid hi us' (hs.mono h1 (zB0 _)) h4⟩
theorem bO.stays' {w w':World}(k:Nat):∀(rs:List (List Fl)) (lo hi:Nat) (vs:List Value),gT lo hi w w'->bO w k lo hi rs vs->bO w' k lo hi rs vs
 | [],lo,hi,vs,hs,h=>by unfold bO at h ⊢;exact h
 | r :: rs,lo,hi,vs,hs,h=>by
  unfold bO at h ⊢;obtain⟨us,vs',mid,e,hl,h1,h2,h3,h4⟩:=h;exact⟨us,vs',mid,e,hl,h1,h2,cL.stays' r lo mid us (hs.mono (zB0 _) h2) h3,bO.stays' k rs mid hi vs' (hs.mono h1 (zB0 _)) h4⟩
end
theorem Fl.Has.stays {w w':World}{f:Fl}{lo hi:Nat}{v:Value}(h:f.Has w lo hi v)(hs:gT lo hi w w'):f.Has w' lo hi v:=Fl.Has.stays' f lo hi v hs h
theorem cL.stays {w w':World}{r:List Fl}{lo hi:Nat}{us:List Value}(h:cL w lo hi r us)(hs:gT lo hi w w'):cL w' lo hi r us:=cL.stays' r lo hi us hs h
theorem bO.stays {w w':World}{k:Nat}{rs:List (List Fl)}{lo hi:Nat}{vs:List Value}(h:bO w k lo hi rs vs)(hs:gT lo hi w w'):bO w' k lo hi rs vs:=bO.stays' k rs lo hi vs hs h
mutual
theorem Fl.Has.wide' {w:World}:∀(f:Fl) (lo hi lo' hi':Nat) (v:Value),lo'<=lo->hi<=hi'->f.Has w lo hi v->f.Has w lo' hi' v
 | .b l,lo,hi,lo',hi',v,a,b,h=>by
  exact U93
 | .i l,lo,hi,lo',hi',v,a,b,h=>by
  exact U93
 | .n x,lo,hi,lo',hi',v,a,b,h=>by unfold Fl.Has at h ⊢;exact h
 | .t x,lo,hi,lo',hi',v,a,b,h=>by unfold Fl.Has at h ⊢;exact h
 | .l k rs,lo,hi,lo',hi',v,a,b,h=>by
  unfold Fl.Has at h ⊢;obtain⟨g,vs,T,e,h1,h2,h3,h4,h5⟩:=h
  exact⟨g,vs,T,e,by omega,by omega,h3,h4,bO.wide' k rs (g+1) hi (g+1) hi' vs (zB0 _) b h5⟩
theorem cL.wide' {w:World}:∀(r:List Fl) (lo hi lo' hi':Nat) (us:List Value),lo'<=lo->hi<=hi'->cL w lo hi r us->cL w lo' hi' r us
 | [],lo,hi,lo',hi',us,a,b,h=>by unfold cL at h ⊢;exact h
 | f :: r,lo,hi,lo',hi',us,a,b,h=>by
  unfold cL at h ⊢;obtain⟨u,us',mid,e,h1,h2,h3,h4⟩:=h
  exact⟨u,us',mid,e,by omega,by omega,Fl.Has.wide' f lo mid lo' mid u a (zB0 _) h3,cL.wide' r mid hi mid hi' us' (zB0 _) b h4⟩
theorem bO.wide' {w:World}(k:Nat):∀(rs:List (List Fl)) (lo hi lo' hi':Nat) (vs:List Value),lo'<=lo->hi<=hi'->bO w k lo hi rs vs->bO w k lo' hi' rs vs
 | [],lo,hi,lo',hi',vs,a,b,h=>by unfold bO at h ⊢;exact h
 | r :: rs,lo,hi,lo',hi',vs,a,b,h=>by
  unfold bO at h ⊢;obtain⟨us,vs',mid,e,hl,h1,h2,h3,h4⟩:=h
  exact⟨us,vs',mid,e,hl,by omega,by omega,cL.wide' r lo mid lo' mid us a (zB0 _) h3,bO.wide' k rs mid hi mid hi' vs' (zB0 _) b h4⟩
end
theorem Fl.Has.wide {w:World}{f:Fl}{lo hi lo' hi':Nat}{v:Value}(h:f.Has w lo hi v)(a:lo'<=lo)(b:hi<=hi'):f.Has w lo' hi' v:=Fl.Has.wide' f lo hi lo' hi' v a b h
theorem cL.wide {w:World}{r:List Fl}{lo hi lo' hi':Nat}{us:List Value}(h:cL w lo hi r us)(a:lo'<=lo)(b:hi<=hi'):cL w lo' hi' r us:=cL.wide' r lo hi lo' hi' us a b h
theorem bO.wide {w:World}{k:Nat}{rs:List (List Fl)}{lo hi lo' hi':Nat}{vs:List Value}(h:bO w k lo hi rs vs)(a:lo'<=lo)(b:hi<=hi'):bO w k lo' hi' rs vs:=bO.wide' k rs lo hi lo' hi' vs a b h
theorem bO.len {w:World}{k:Nat}:∀{rs:List (List Fl)} {lo hi:Nat} {vs:List Value},bO w k lo hi rs vs->vs.length=rs.length*k:=by
 intro rs
 induction rs with
 | nil=>intro lo hi vs h;unfold bO at h;subst h;simp
 | cons r rs ih=>
  intro lo hi vs h;unfold bO at h;obtain⟨us,vs',mid,rfl,hl,_,_,_,h4⟩:=h;rw[zA1,hl,ih h4,zB1,Nat.add_mul];omega
theorem bO.snoc {w:World}{k:Nat}:∀{rs:List (List Fl)} {lo mid hi:Nat} {vs us:List Value} {r:List Fl},bO w k lo mid rs vs->cL w mid hi r us->us.length=k->lo<=mid->mid<=hi->bO w k lo hi (rs++[r]) (vs++us):=by
 intro rs
 induction rs with
 | nil=>
  intro lo mid hi vs us r h h2 hl a b;unfold bO at h;subst h;rw[List.nil_append,List.nil_append];unfold bO
  refine⟨us,[],hi,by simp,hl,by omega,zB0 _,h2.wide a (zB0 _), ?_⟩
  unfold bO;rfl
 | cons x rs ih=>
  intro lo mid hi vs us r h h2 hl a b;unfold bO at h;obtain⟨us0,vs',m,rfl,hl0,h1,h3,h4,h5⟩:=h
  have:=ih h5 h2 hl Q0 b
  rw[List.cons_append,zD0];unfold bO
  exact⟨us0,vs'++us,m,rfl,hl0,h1,by omega,h4,this⟩
theorem aJa {w:World}{g:Nat}{T:TypeId}{pre us:List Value}{u:Value}(h:w.heap[g]?=some (.cells (pre++u :: us).toArray T (0,0))):w.cell? ⟨g,pre.length,none⟩=some u:=by
 rw[cell_of_row w g pre.length _ T (0,0) h]
 simp
mutual
theorem Fl.Has.rd' {w:World}:∀(f:Fl) (lo hi:Nat) (v:Value),f.Has w lo hi v->f.Rd w v
 | .b l,lo,hi,v,h=>by
  unfold Fl.Has at h;obtain⟨g,rfl,h1,h2,h3,h4,h5⟩:=h
  exact⟨_,_,rfl,(kU h3 (zD1 _) h5 h4).row,zB0 _,h5,by simp⟩
 | .i l,lo,hi,v,h=>by
  unfold Fl.Has at h;obtain⟨g,rfl,h1,h2,h3,h4,h5⟩:=h
  exact⟨_,_,rfl,(sY h3 (zD1 _) h5 h4),zB0 _,h5,by simp⟩
 | .n x,lo,hi,v,h=>by unfold Fl.Has at h;exact h
 | .t x,lo,hi,v,h=>by unfold Fl.Has at h;exact h
 | .l k rs,lo,hi,v,h=>by
  unfold Fl.Has at h;obtain⟨g,vs,T,rfl,h1,h2,h3,h4,h5⟩:=h
  exact⟨_,_,rfl,zB0 _,h4,by simp,fun _=>⟨g,0,rfl,bO.rd' k g T rs (g+1) hi [] vs [] (by simpa using h3) h5⟩⟩
theorem cL.rd' {w:World}(g:Nat)(T:TypeId):∀(r:List Fl) (lo hi:Nat) (pre us post:List Value),w.heap[g]?=some (.cells (pre++us++post).toArray T (0,0))->cL w lo hi r us->lR w g pre.length r
 | [],lo,hi,pre,us,post,hg,h=>trivial
 | f :: r,lo,hi,pre,us,post,hg,h=>by
  unfold cL at h;obtain⟨u,us',mid,rfl,h1,h2,h3,h4⟩:=h
  have e:pre++u :: us'++post=pre++u :: (us'++post):=by simp
  refine⟨⟨u,aJa (e ▸ hg),Fl.Has.rd' f lo mid u h3⟩, ?_⟩
  have:=cL.rd' g T r mid hi (pre++[u]) us' post Q76 h4
  simpa using this
theorem bO.rd' {w:World}(k g:Nat)(T:TypeId):∀(rs:List (List Fl)) (lo hi:Nat) (pre vs post:List Value),w.heap[g]?=some (.cells (pre++vs++post).toArray T (0,0))->bO w k lo hi rs vs->eT w g k pre.length rs
 | [],lo,hi,pre,vs,post,hg,h=>trivial
 | r :: rs,lo,hi,pre,vs,post,hg,h=>by
  unfold bO at h;obtain⟨us,vs',mid,rfl,hl,h1,h2,h3,h4⟩:=h;refine⟨cL.rd' g T r lo mid pre us (vs'++post) Q76 h3, ?_⟩
  have:=bO.rd' k g T rs mid hi (pre++us) vs' post Q76 h4
  rw[zA1,hl]at this;exact this
end
theorem Fl.Has.rd {w:World}{f:Fl}{lo hi:Nat}{v:Value}(h:f.Has w lo hi v):f.Rd w v:=Fl.Has.rd' f lo hi v h
theorem cL.vals {w:World}:∀{r:List Fl} {lo hi:Nat} {us:List Value},cL w lo hi r us->cC w r us:=by
 intro r
 induction r with
 | nil=>intro lo hi us h;unfold cL at h;exact h
 | cons f r ih=>
  intro lo hi us h;unfold cL at h;obtain⟨u,us',mid,e,h1,h2,h3,h4⟩:=h;exact⟨u,us',e,h3.rd,ih h4⟩
theorem U40{p:Prop}(h:p:=by
 have hr:(decide ((1:Int)<=(n:Int)) && decide ((n:Int)<=8))=false:=by simp;omega
 clear hc hl hby
 go_enter Tryz.func23,Tryz.ntmps23
 go_wp2_with fail
 refine(iM _ _ _ _).mono ?_
 rintro e w ⟨rfl,rfl⟩
 rw[hr]
 go_wp2
 go_ret
 exact⟨aE hd.out.symm,rfl⟩):p:=h
theorem U45{p:Prop}(h:p:=by
 go_wp2
 go_ret
 exact⟨rfl,rfl⟩):p:=h
theorem U74{p:Prop}(h:p:=by
 go_wp2
 go_round
 case rel=>exact⟨j+1,by omega,by go_num,kC Ah.out HN.out⟩
 case measure=>simp[intOf];omega):p:=h
theorem U99{p:Prop}(h:p:=by
 go_wp2
 go_ret
 exact⟨aE HD.out.symm,rfl⟩):p:=h
theorem iM (n lo hi:Int)(w:World):
  Calls Tryz.prog 58 #[.int .i64 n,.int .i64 lo,.int .i64 hi] w fun e w'=>e=.returned (.bool (decide (lo<=n) && decide (n<=hi)))/\w'=w:=by
 by_cases h1:lo<=n
 .
  go_enter Tryz.func58,Tryz.ntmps58;go_wp2;go_ret
  exact⟨aE (by simp[h1]),rfl⟩
 .
  go_enter Tryz.func58,Tryz.ntmps58;go_wp2;go_ret
  exact⟨aE (by simp;omega),rfl⟩
theorem aAa (x:Int)(w:World):Calls Tryz.prog 60 #[.int .u8 x] w fun e w'=>e=.returned (.bool (wJ x))/\w'=w:=by
 by_cases h1:97<=x
 .
  go_enter Tryz.func60,Tryz.ntmps60;go_wp2;go_ret
  exact⟨aE (by simp[wJ,h1]),rfl⟩
 .
  go_enter Tryz.func60,Tryz.ntmps60;go_wp2;go_ret
  exact⟨aE (by simp[wJ];omega),rfl⟩
theorem aIn (x:Int)(w:World):Calls Tryz.prog 61 #[.int .u8 x] w fun e w'=>e=.returned (.bool (aI6 x))/\w'=w:=by
 by_cases h1:48<=x
 .
  go_enter Tryz.func61,Tryz.ntmps61;go_wp2;go_ret
  exact⟨aE (by simp[aI6,h1]),rfl⟩
 .
  go_enter Tryz.func61,Tryz.ntmps61;go_wp2;go_ret
  exact⟨aE (by simp[aI6];omega),rfl⟩
theorem aIm (x:Int)(g:Bool)(w:World):Calls Tryz.prog 59 #[.int .u8 x,.bool g] w fun e w'=>e=.returned (.bool (if g then upB x else wJ x))/\w'=w:=by
 cases g
 .
  go_enter Tryz.func59,Tryz.ntmps59;go_wp2_with fail;refine(aAa _ _).mono ?_;rintro e w ⟨rfl,rfl⟩;exact U45
 .
  by_cases h1:65<=x
  .
   go_enter Tryz.func59,Tryz.ntmps59;go_wp2;go_ret
   exact⟨aE (by simp[upB,h1]),rfl⟩
  .
   go_enter Tryz.func59,Tryz.ntmps59;go_wp2;go_ret
   exact⟨aE (by simp[upB];omega),rfl⟩
set_option maxHeartbeats 4000000 in
theorem eH (a:Option Addr)(n c:Nat)(l:List Int)(g:Bool)(w:World)(h:eG w a n l)(hn:n<=1073741824)(hnc:n<=c):
  Calls Tryz.prog 23 #[.slice a n c,.bool g] w fun e w'=>e=.returned (.bool (aK l g))/\w'=w:=by
 obtain⟨hl,hby,hc⟩:=h
 by_cases h0:n<1
 .
  have hd:Hid (aK l g=false):=dI Q0
  exact U40
 by_cases h8:8<n
 .
  have hd:Hid (aK l g=false):=pW Q0
  exact U40
 obtain⟨b,off,rfl,hd⟩:=hc Q0;clear hc
 have hr:(decide ((1:Int)<=(n:Int)) && decide ((n:Int)<=8))=true:=by simp;omega
 have Hl:Hid (l.length=n):=hl
 clear hl
 have hx0:w.cell? ⟨b,off,none⟩=some (.int .u8 (l[0]?.getD 0)):=by simpa using hd 0 Q0
 have hb0:=qJ hby 0
 have H0:Hid (pU l g 0=(if g then upB (l[0]?.getD 0) else wJ (l[0]?.getD 0))):=by show pU l g 0=_;simp[pU]
 generalize hxx:l[0]?.getD 0=x at *;clear hxx;go_enter Tryz.func23,Tryz.ntmps23;go_wp2_with fail;refine(iM _ _ _ _).mono ?_;rintro e w ⟨rfl,rfl⟩;rw[hr];go_wp2_with fail;refine(aIm _ _ _).mono ?_;rintro e w ⟨rfl,rfl⟩
 cases hf:(if g then upB x else wJ x)
 .
  have HD:Hid (aK l g=false):=lH Q53 (H0.out.trans hf)
  clear hf hd;exact U99
 have HF:Hid (pU l g 0=true):=H0.out.trans hf
 clear hf H0 hr hx0
 by_cases hn1:n=1
 .
  have HD:Hid (aK l g=true):=nM Q53 Q53 (by
   rw[Hl.out,hn1];intro m hm;have:m=0:=Q0
   subst this;exact HF.out)
  subst hn1;clear hd HF Hl hby;go_wp2
  all_goals
   refine zH1 1 ?_;rw[zE2];exact U99
 have hc1:¬c=1:=Q0;go_wp2
 go_loop [6,22] (fun _ i=>∃j:Nat,j+1<=n/\i=.int .i64 j/\Hid (∀m<j+1,pU l g m=true)) (fun _ i=>n-(intOf i).toNat)
 case atStart=>exact⟨0,by omega,rfl,by intro m hm;(have:m=0:=by omega);subst this;exact HF.out⟩
 case round=>
  obtain⟨j,hj,rfl,Ah⟩:=hrel
  by_cases Aj:j+1<n
  .
   have hx:=hd (j+1) Aj
   have hx1:w.cell? ⟨b,off+1+j,none⟩=some (.int .u8 (l[j+1]?.getD 0)):=by rw[<-hx];congr 2;omega
   have hb:=qJ hby (j+1);clear hd hby hx
   have HL:Hid (j+1<l.length):=by show j+1<l.length;rw[Hl.out];exact Aj
   generalize hxx:l[j+1]?.getD 0=y at *
   have HX:Hid (pU l g (j+1)=(wJ y || aI6 y)):=by show pU l g (j+1)=_;simp[pU,hxx]
   clear hxx;go_wp2_with fail;refine(aAa _ _).mono ?_;rintro e w ⟨rfl,rfl⟩
   cases h1:wJ y
   .
    go_wp2_with fail;refine(aIn _ _).mono ?_;rintro e w ⟨rfl,rfl⟩
    cases h2:aI6 y
    .
     have HD:Hid (aK l g=false):=lH HL.out (by rw[HX.out,h1,h2];rfl)
     clear h1 h2;exact U99
    .
     have HN:Hid (pU l g (j+1)=true):=by show pU l g (j+1)=true;rw[HX.out,h1,h2];rfl
     clear h1 h2;exact U74
   .
    have HN:Hid (pU l g (j+1)=true):=by show pU l g (j+1)=true;rw[HX.out,h1];rfl
    clear h1;exact U74
  .
   clear hd;go_wp2;go_ret;have hjn:j+1=n:=Q0;subst hjn
   exact⟨aE (nM Q53 Q53 (by rw[Hl.out];exact Ah.out)).symm,rfl⟩
end Go.Proofs.YtffphdacgblaoaaGreatDoor

import Derived.Test.YtnelibmaancmkaaGreatDoorPackA
namespace Go.Proofs.YtnelibmaancmkaaGreatDoor
open Go.RowKit
set_option linter.unusedVariables false
set_option linter.unusedSimpArgs false
set_option maxRecDepth 100000
set_option maxHeartbeats 4000000
theorem U45{p:Prop}(h:p:=by
 intro r hr
 obtain⟨x,_,rfl⟩:=List.mem_map.1 hr
 rfl):p:=h
theorem U87{p:Prop}(h:p:=by
 go_wp2_with fail
 refine H.mono ?_
 rintro e w2 ⟨rfl,rfl⟩
 go_wp2_with fail
 go_ret
 exact⟨rfl,rfl⟩):p:=h
def lF (v:Va):Bool:=aK v.name false && inB v.size 0 20
def aAl (a:Pa):Bool:=aK a.name false
def iR (x:List Int):Bool:=aK x false
def iK (x:List Int):Bool:=aK x true
def jU (q:Pr):Bool:=aK q.name false && decide (q.params.length<=4) && q.params.all aAl && decide (q.locals.length<=8) && q.locals.all iR
def p0:Pr:=⟨[],false,[],[],[]⟩
def eZ:List Pr->Nat
 | []=>0
 | q :: l=>aW q.body+eZ l
def jW (l:List Pr)(left:Int):Bool:=(List.range l.length).all fun j=>bP (l[j]?.getD p0).body 1 (left-(eZ (l.take j):Int))
def bY (m:Mo):Bool:=aK m.name true && decide (m.uses.length<=6) && m.uses.all iK && decide (m.vars.length<=8) && m.vars.all lF && decide (m.procs.length<=8) && m.procs.all jU && jW m.procs 250
theorem aB2 (l m:List Pr):eZ (l++m)=eZ l+eZ m:=by
 induction l with
 | nil=>simp[eZ]
 | cons x l ih=>simp[eZ,ih];omega
theorem pT {l:List Pr}{j:Nat}{x:Pr}(h:l[j]?=some x):eZ (l.take (j+1))=eZ (l.take j)+aW x.body:=by
 obtain⟨hk,rfl⟩:=List.getElem?_eq_some_iff.1 h;rw[List.take_succ_eq_append_getElem hk,aB2];simp[eZ]
theorem aK2 (x:List Int)(a:Option Addr)(c:Nat)(w:World)(h:bW w a x.length x)(hn:x.length<=1073741824)(hc:x.length<=c):
  Calls Tryz.prog 174 #[.slice a x.length c] w fun e w'=>e=.returned (.bool (iK x))/\w'=w:=by
 have H:=dX a x.length c x true w h hn hc;go_enter Tryz.func174,Tryz.ntmps174;exact U87
theorem aJ2 (x:List Int)(a:Option Addr)(c:Nat)(w:World)(h:bW w a x.length x)(hn:x.length<=1073741824)(hc:x.length<=c):
  Calls Tryz.prog 213 #[.slice a x.length c] w fun e w'=>e=.returned (.bool (iR x))/\w'=w:=by
 have H:=dX a x.length c x false w h hn hc;go_enter Tryz.func213,Tryz.ntmps213;exact U87
theorem aDi (G:Nat)(p:List Int->Bool)(hE:Ent G)(HG:∀(x:List Int) (a:Option Addr) (c:Nat) (w:World),bW w a x.length x->x.length<=1073741824->x.length<=c->Calls Tryz.prog G #[.slice a x.length c] w fun e w'=>e=.returned (.bool (p x))/\w'=w)
  (a:Option Addr) (c:Nat) (l:List (List Int)) (w:World) (h:aS w a c 1 (bH l)) (hs:∀x ∈ l,x.length<=1073741824):
  Calls Tryz.prog 144 #[.slice a l.length c,.func (.func G) #[] #[]] w fun e w'=>e=.returned (.bool (l.all p))/\w.grownBy w' none:=by
 refine(aGq G #[] none a l.length c (bH l) (fun j=>p (l[j]?.getD [])) (fun _ wr=>w.grownBy wr none) (fun _ _=>True) w ⟨hE,fun j wr hi=>h.below (aA hi), ?_, ?_⟩ (by simp[bH]) (aP _ _) (fun j w1 w2 h1 h2=>aD h1 h2) V15 (cK Tryz.func194 rfl rfl)).mono ?_
 .
  exact U45
 .
  intro j r wr vs hr hi Ad _;unfold bH at hr;rw[List.getElem?_map]at hr;obtain⟨x,hx,rfl⟩:=Option.map_eq_some_iff.1 hr;rw[hx];have hxs:=hs x (List.mem_of_getElem? hx);obtain⟨y0,us,rfl,⟨a0,c0,rfl,Ar,hc0,_⟩,rfl⟩:=Ad;refine(HG x a0 c0 wr Ar hxs hc0).mono ?_;rintro e w' ⟨rfl,rfl⟩
  exact⟨rfl,aP _ _,fun _=>hi,fun _=>trivial⟩
 .
  rintro e w' ⟨r,rfl,hg,ht⟩;refine⟨aE ?_,hg⟩;rw[fV ht];exact fM l [] p
theorem aMz (v:Va)(vs:List Value)(w:World)(h:aO w v.fl vs)(hn:v.name.length<=1073741824):
  Calls Tryz.prog 175 #[agg vs] w fun e w'=>e=.returned (.bool (lF v))/\w.grownBy w' none:=by
 obtain⟨y0,us,rfl,⟨a0,c0,rfl,Ar,hc0,_⟩,y1,us2,rfl,rfl,rfl⟩:=h;have yy:=aC w (.cells #[.slice a0 v.name.length c0,.int .i64 v.size] 125 (0,0)) none;have x0:=Blk.new w 125 [.slice a0 v.name.length c0,.int .i64 v.size];have H:=dX a0 v.name.length c0 v.name false _ (Ar.below (aA yy)) hn hc0;have H2:=gL v.size 0 20 (w.alloc (.cells #[.slice a0 v.name.length c0,.int .i64 v.size] 125 (0,0)))
 have he:Hid (lF v=(aK v.name false && (decide (0<=v.size) && decide (v.size<=20)))):=rfl
 simp only[agg];go_enter Tryz.func175,Tryz.ntmps175;go_upto_region 1 with fail;generalize w.alloc (.cells #[.slice a0 v.name.length c0,.int .i64 v.size] 125 (0,0))=w1 at *;obtain⟨q0,q1⟩:=x0.c2;go_wp2_with fail;refine H.mono ?_;rintro e w1 ⟨rfl,rfl⟩
 cases e1:aK v.name false
 .
  go_wp2_with fail;go_ret
  exact⟨aE (by rw[he.out,e1];rfl),yy⟩
 .
  generalize (decide (0<=v.size) && decide (v.size<=20))=r2 at *;go_wp2_with fail;refine H2.mono ?_;rintro e w1 ⟨rfl,rfl⟩;go_wp2_with fail;go_ret
  exact⟨aE (by rw[he.out,e1];simp),yy⟩
theorem aKp (v:Pa)(vs:List Value)(w:World)(h:aO w v.fl vs)(hn:v.name.length<=1073741824):
  Calls Tryz.prog 212 #[agg vs] w fun e w'=>e=.returned (.bool (aAl v))/\w.grownBy w' none:=by
 obtain⟨y0,us,rfl,⟨a0,c0,rfl,Ar,hc0,_⟩,y1,us2,rfl,rfl,rfl⟩:=h;have yy:=aC w (.cells #[.slice a0 v.name.length c0,.bool v.arr] 128 (0,0)) none;have x0:=Blk.new w 128 [.slice a0 v.name.length c0,.bool v.arr];have H:=dX a0 v.name.length c0 v.name false _ (Ar.below (aA yy)) hn hc0;simp only[agg];go_enter Tryz.func212,Tryz.ntmps212;go_upto_region 1 with fail;generalize w.alloc (.cells #[.slice a0 v.name.length c0,.bool v.arr] 128 (0,0))=w1 at *;have q0:=x0.cell (i:=0) rfl;go_wp2_with fail;refine H.mono ?_;rintro e w1 ⟨rfl,rfl⟩;go_wp2_with fail;go_ret;exact⟨rfl,yy⟩
theorem aJb (a:Option Addr)(c:Nat)(l:List Va)(w:World)(h:aS w a c 2 (l.map Va.fl))(hs:∀x ∈ l,x.name.length<=1073741824):
  Calls Tryz.prog 85 #[.slice a l.length c,.func (.func 175) #[] #[]] w fun e w'=>e=.returned (.bool (l.all lF))/\w.grownBy w' none:=by
 refine(aGp 175 #[] none a l.length c (l.map Va.fl) (fun j=>lF (l[j]?.getD ⟨[],0⟩)) (fun _ wr=>w.grownBy wr none) (fun _ _=>True) w ⟨cK Tryz.func175 rfl rfl,fun j wr hi=>h.below (aA hi), ?_, ?_⟩ V15 (aP _ _) (fun j w1 w2 h1 h2=>aD h1 h2) V15 (cK Tryz.func137 rfl rfl)).mono ?_
 .
  exact U45
 .
  intro j r wr vs hr hi Ad _;rw[List.getElem?_map]at hr;obtain⟨x,hx,rfl⟩:=Option.map_eq_some_iff.1 hr;rw[hx];refine(aMz x vs wr Ad (hs x (List.mem_of_getElem? hx))).mono ?_;exact U57
 .
  rintro e w' ⟨r,rfl,hg,ht⟩;refine⟨aE ?_,hg⟩;rw[fV ht];exact fM l ⟨[],0⟩ lF
theorem aDj (a:Option Addr)(c:Nat)(l:List Pa)(w:World)(h:aS w a c 2 (l.map Pa.fl))(hs:∀x ∈ l,x.name.length<=1073741824):
  Calls Tryz.prog 141 #[.slice a l.length c,.func (.func 212) #[] #[]] w fun e w'=>e=.returned (.bool (l.all aAl))/\w.grownBy w' none:=by
 refine(xE 212 #[] none a l.length c (l.map Pa.fl) (fun j=>aAl (l[j]?.getD ⟨[],false⟩)) (fun _ wr=>w.grownBy wr none) (fun _ _=>True) w ⟨cK Tryz.func212 rfl rfl,fun j wr hi=>h.below (aA hi), ?_, ?_⟩ V15 (aP _ _) (fun j w1 w2 h1 h2=>aD h1 h2) V15 (cK Tryz.func193 rfl rfl)).mono ?_
 .
  exact U45
 .
  intro j r wr vs hr hi Ad _;rw[List.getElem?_map]at hr;obtain⟨x,hx,rfl⟩:=Option.map_eq_some_iff.1 hr;rw[hx];refine(aKp x vs wr Ad (hs x (List.mem_of_getElem? hx))).mono ?_;exact U57
 .
  rintro e w' ⟨r,rfl,hg,ht⟩;refine⟨aE ?_,hg⟩;rw[fV ht];exact fM l ⟨[],false⟩ aAl
theorem U138{p:Prop}(h:p:=by
 have:=bK (List.mem_map_of_mem (f:=fun x=>[Fl.b x]) hx)
 simp only[aH,Fl.len]at this
 unfold bH at h
 omega):p:=h
theorem vU {q:Pr}(h:aH q.fl<=1048576):q.name.length<=1073741824/\(∀x ∈ q.params,x.name.length<=1073741824)/\(∀x ∈ q.locals,x.length<=1073741824)/\aF (sts q.body)<=1048576:=by
 have e2:aH q.fl=q.name.length+((q.params.map Pa.fl).length+aF (q.params.map Pa.fl))+((bH q.locals).length+aF (bH q.locals))+((sts q.body).length+aF (sts q.body)):=by simp[Pr.fl,aH,Fl.len] <;> omega
 rw[e2]at h
 refine⟨by omega,fun x hx=>?_,fun x hx=>?_,by omega⟩
 .
  have:=bK (List.mem_map_of_mem (f:=Pa.fl) hx)
  simp only[Pa.fl,aH,Fl.len]at this
  omega
 .
  exact U138
theorem aL9 (q:Pr)(vs:List Value)(w:World)(h:aO w q.fl vs)(hs:aH q.fl<=1048576):
  Calls Tryz.prog 176 #[agg vs] w fun e w'=>e=.returned (.bool (jU q))/\w.grownBy w' none:=by
 obtain⟨hs0,hs2,hs3,_⟩:=vU hs;clear hs;obtain⟨y0,_,rfl,⟨a0,c0,rfl,h0,hc0,_⟩,y1,_,rfl,rfl,y2,_,rfl,h2',y3,_,rfl,h3',y4,_,rfl,Bl,rfl⟩:=h;obtain⟨a2,c2,rfl,h2⟩:=h2'.list;obtain⟨a3,c3,rfl,h3⟩:=h3'.list;obtain⟨a4,c4,rfl,h4⟩:=Bl.list;clear h2' h3' Bl
 have k2:(q.params.map Pa.fl).length=q.params.length:=by simp
 have k3:(bH q.locals).length=q.locals.length:=by simp[bH]
 have k4:(sts q.body).length=q.body.length:=by simp[aM]
 have n2:q.params.length<=9223372036854775807:=by have h5:=h2.cap;have h6:=h2.most;unfold maxLen at h6;omega
 have n3:q.locals.length<=9223372036854775807:=by have h5:=h3.cap;have h6:=h3.most;unfold maxLen at h6;omega
 rw[k2,k3,k4];clear h4 k2 k3 k4;simp only[agg];have yy:=aC w (.cells #[.slice a0 q.name.length c0,.bool q.opn,.slice a2 q.params.length c2,.slice a3 q.locals.length c3,.slice a4 q.body.length c4] 72 (0,0)) none;have hb:=aA yy;have x0:=Blk.new w 72 [.slice a0 q.name.length c0,.bool q.opn,.slice a2 q.params.length c2,.slice a3 q.locals.length c3,.slice a4 q.body.length c4]
 have hfe:Hid (jU q=(aK q.name false && decide (q.params.length<=4) && q.params.all aAl && decide (q.locals.length<=8) && q.locals.all iR)):=rfl
 generalize jU q=TG at *;go_enter Tryz.func176,Tryz.ntmps176;go_upto_region 1 with fail;generalize w.alloc (.cells #[.slice a0 q.name.length c0,.bool q.opn,.slice a2 q.params.length c2,.slice a3 q.locals.length c3,.slice a4 q.body.length c4] 72 (0,0))=w1 at *;obtain⟨q0,q1,q2,q3,q4⟩:=x0.c5;have HQ:=dX a0 q.name.length c0 q.name false w1 (h0.below hb) hs0 hc0
 skip
 generalize aK q.name false=r at *;go_wp2_with fail;refine HQ.mono ?_;rintro e w2 ⟨rfl,hg⟩;clear HQ q0 q1 q2 q3 q4
 replace hg:w1.grownBy w2 none:=by rw[hg];exact aP _ _
 replace x0:=x0.below (aA hg) x0.lt;replace yy:=aD yy hg
 replace hb:Below w.heap.size w w2:=hb.trans ((aA hg).mono hb.size)
 clear hg;obtain⟨q0,q1,q2,q3,q4⟩:=x0.c5;cases r
 .
  have he:Hid (TG=false):=by show _=_;rw[hfe.out];simp
  clear hfe;exact U5
 by_cases hl:q.params.length<=4
 rotate_left
 .
  have he:Hid (TG=false):=by show _=_;rw[hfe.out,decide_eq_false hl];simp
  have hl':¬(q.params.length:Int)<=4:=V6;clear hfe;exact U5
 have hl':(q.params.length:Int)<=4:=V6;rw[decide_eq_true hl]at hfe;clear hl;have HQ:=aDj a2 c2 q.params w2 (h2.below hb) hs2
 skip
 generalize q.params.all aAl=r at *;go_wp2_with fail;refine HQ.mono ?_;rintro e w3 ⟨rfl,hg⟩;clear HQ q0 q1 q2 q3 q4;replace x0:=x0.below (aA hg) x0.lt;replace yy:=aD yy hg
 replace hb:Below w.heap.size w w3:=hb.trans ((aA hg).mono hb.size)
 clear hg;obtain⟨q0,q1,q2,q3,q4⟩:=x0.c5;cases r
 .
  have he:Hid (TG=false):=by show _=_;rw[hfe.out];simp
  clear hfe;exact U5
 by_cases hl:q.locals.length<=8
 rotate_left
 .
  have he:Hid (TG=false):=by show _=_;rw[hfe.out,decide_eq_false hl];simp
  have hl':¬(q.locals.length:Int)<=8:=V6;clear hfe;exact U5
 have hl':(q.locals.length:Int)<=8:=V6;rw[decide_eq_true hl]at hfe;clear hl;have HQ:=aDi 213 iR (cK Tryz.func213 rfl rfl) aJ2 a3 c3 q.locals w3 (h3.below hb) hs3
 skip
 generalize q.locals.all iR=r at *;go_wp2_with fail;refine HQ.mono ?_;rintro e w4 ⟨rfl,hg⟩;clear HQ q0 q1 q2 q3 q4;replace x0:=x0.below (aA hg) x0.lt;replace yy:=aD yy hg
 replace hb:Below w.heap.size w w4:=hb.trans ((aA hg).mono hb.size)
 clear hg;obtain⟨q0,q1,q2,q3,q4⟩:=x0.c5;cases r
 .
  have he:Hid (TG=false):=by show _=_;rw[hfe.out];simp
  clear hfe;exact U5
 have he:Hid (TG=true):=by show _=_;rw[hfe.out];simp
 clear hfe;exact U5
theorem aFr (a:Option Addr)(c:Nat)(l:List Pr)(w:World)(h:aS w a c 5 (l.map Pr.fl))(hs:∀x ∈ l,aH x.fl<=1048576):
  Calls Tryz.prog 89 #[.slice a l.length c,.func (.func 176) #[] #[]] w fun e w'=>e=.returned (.bool (l.all jU))/\w.grownBy w' none:=by
 refine(rM 176 #[] none a l.length c (l.map Pr.fl) (fun j=>jU (l[j]?.getD p0)) (fun _ wr=>w.grownBy wr none) (fun _ _=>True) w ⟨cK Tryz.func176 rfl rfl,fun j wr hi=>h.below (aA hi), ?_, ?_⟩ V15 (aP _ _) (fun j w1 w2 h1 h2=>aD h1 h2) V15 (cK Tryz.func139 rfl rfl)).mono ?_
 .
  exact U45
 .
  intro j r wr vs hr hi Ad _;rw[List.getElem?_map]at hr;obtain⟨x,hx,rfl⟩:=Option.map_eq_some_iff.1 hr;rw[hx];refine(aL9 x vs wr Ad (hs x (List.mem_of_getElem? hx))).mono ?_;exact U57
 .
  rintro e w' ⟨r,rfl,hg,ht⟩;refine⟨aE ?_,hg⟩;rw[fV ht];exact fM l p0 jU
theorem aFn (q:Pr)(vs:List Value)(w0 w:World)(g n:Nat)(hs:aH q.fl<=1048576)(hT:kQ w0)(h:aO w0 q.fl vs)(hb:Below w0.heap.size w0 w)(hg:w0.heap.size<=g)(hc:Cen w g n)(hn:n<=250):
  Calls Tryz.prog 214 #[agg vs,.pointer (some ⟨g,0,none⟩)] w fun e w'=>e=.returned (.bool (bP q.body 1 (250-(n:Int))))/\w.grownBy w' (some g)/\(bP q.body 1 (250-(n:Int))=true->Cen w' g (n+aW q.body)):=by
 obtain⟨_,_,_,hs4⟩:=vU hs;obtain⟨y0,_,rfl,⟨a0,c0,rfl,_⟩,y1,_,rfl,rfl,y2,_,rfl,⟨a2,c2,rfl,_⟩,y3,_,rfl,⟨a3,c3,rfl,_⟩,y4,_,rfl,Bl,rfl⟩:=h;obtain⟨a4,c4,rfl,h4⟩:=Bl.list;clear Bl
 have k4:(sts q.body).length=q.body.length:=by simp[aM]
 rw[k4];generalize (q.params.map Pa.fl).length=m2;generalize (bH q.locals).length=m3;simp only[agg];have yy:=aC w (.cells #[.slice a0 q.name.length c0,.bool q.opn,.slice a2 m2 c2,.slice a3 m3 c3,.slice a4 q.body.length c4] 72 (0,0)) (some g);have x0:=Blk.new w 72 [.slice a0 q.name.length c0,.bool q.opn,.slice a2 m2 c2,.slice a3 m3 c3,.slice a4 q.body.length c4]
 have Aj:Below w0.heap.size w0 (w.alloc (.cells #[.slice a0 q.name.length c0,.bool q.opn,.slice a2 m2 c2,.slice a3 m3 c3,.slice a4 q.body.length c4] 72 (0,0))):=hb.alloc hb.size _
 have H:=vF q.body (wW q.body hs4) w0 _ a4 c4 g n 1 hT h4 Aj hg (Blk.old hc) hn V6 V6;clear Aj h4 hc hb;generalize bP q.body 1 (250-(n:Int))=r at *;go_enter Tryz.func214,Tryz.ntmps214;go_upto_region 1 with fail;generalize w.alloc (.cells #[.slice a0 q.name.length c0,.bool q.opn,.slice a2 m2 c2,.slice a3 m3 c3,.slice a4 q.body.length c4] 72 (0,0))=w1 at *;have q4:=x0.cell (i:=4) rfl;go_wp2_with fail;refine H.mono ?_;rintro e w2 ⟨rfl,Be,hc2⟩;go_wp2_with fail;go_ret;exact⟨rfl,aD yy Be,hc2⟩
theorem aI9 (a:Option Addr)(c:Nat)(l:List Pr)(w:World)(hT:kQ w)(h:aS w a c 5 (l.map Pr.fl))(hs:∀x ∈ l,aH x.fl<=1048576):
  Calls Tryz.prog 177 #[.slice a l.length c] w fun e w'=>e=.returned (.bool (jW l 250))/\w.grownBy w' none:=by
 have y0:=aC w (.cells #[.int .i64 0] 254 (0,0)) none
 have hc:Cen (w.alloc (.cells #[.int .i64 0] 254 (0,0))) w.heap.size 0:=Blk.new w 254 [.int .i64 0]
 have HC:Calls Tryz.prog 89 #[.slice a l.length c,.func (.func 214) #[] #[.pointer (some ⟨w.heap.size,0,none⟩)]] (w.alloc (.cells #[.int .i64 0] 254 (0,0))) fun e w'=>e=.returned (.bool (jW l 250))/\w.grownBy w' none:=by
  have hb:=aA y0;generalize w.alloc (.cells #[.int .i64 0] 254 (0,0))=W at *
  refine(rM 214 _ (some w.heap.size) a l.length c (l.map Pr.fl) (fun j=>bP (l[j]?.getD p0).body 1 (250-(eZ (l.take j):Int))) (fun j wr=>Below w.heap.size w wr/\(eZ (l.take j):Int)<=250/\Cen wr w.heap.size (eZ (l.take j))) (fun _ wr=>Below w.heap.size w wr) W
   ⟨cK Tryz.func214 rfl rfl,fun j wr hi=>h.below hi.1, ?_, ?_⟩ V15 ⟨hb,by simp[eZ],by simpa [eZ] using hc⟩ ?_ V74 (cK Tryz.func139 rfl rfl)).mono ?_
  .
   exact U45
  .
   intro j r wr vs hj hi Ad hca;have hj0:=hj;obtain⟨hi1,hi2,hi3⟩:=hi;rw[List.getElem?_map]at hj;obtain⟨x,hx,rfl⟩:=Option.map_eq_some_iff.1 hj;have hv0:=iM h hi1 hj0 Ad.len hca;rw[hx];simp only[Option.getD_some];refine(aFn x vs w wr w.heap.size (eZ (l.take j)) (hs x (List.mem_of_getElem? hx)) hT hv0 hi1 (Nat.le_refl _) hi3 V6).mono ?_;rintro e w' ⟨rfl,Aq,hcen⟩;have hb':=bZ hi1 Aq (Nat.le_refl _)
   refine⟨rfl,Aq,fun h=>?_,fun _=>hb'⟩
   rw[pT hx];have hle:=eP h
   exact⟨hb',by omega,hcen h⟩
  .
   rintro j w1 w2 ⟨h1,h2,h3⟩ Bk;have hbb:=aA Bk;exact⟨h1.trans (hbb.mono h1.size),h2,Blk.below h3 hbb (Blk.lt h3)⟩
  .
   rintro e w' ⟨r,rfl,Aq,ht⟩;refine⟨aE (fV ht), ?_⟩
   cases r with
   | false=>
    obtain⟨j,hj,hp,_,hq⟩:=ht.yes rfl;exact aI hq none
   | true=>exact aI (ht.no rfl).2.1 none
 clear h hs hc;go_enter Tryz.func177,Tryz.ntmps177;go_wp2_with fail;refine HC.mono ?_;rintro e w3 ⟨rfl,h1⟩;go_wp2_with fail;go_ret;exact⟨rfl,h1⟩
theorem aEn {m:Mo}(h:aH m.fl<=1048576):m.name.length<=1073741824/\(∀x ∈ m.uses,x.length<=1073741824)/\(∀x ∈ m.vars,x.name.length<=1073741824)/\(∀x ∈ m.procs,aH x.fl<=1048576):=by
 have e:aH m.fl=m.name.length+((bH m.uses).length+aF (bH m.uses))+((m.vars.map Va.fl).length+aF (m.vars.map Va.fl))+((m.procs.map Pr.fl).length+aF (m.procs.map Pr.fl)):=by simp[Mo.fl,aH,Fl.len] <;> omega
 rw[e]at h
 refine⟨by omega,fun x hx=>?_,fun x hx=>?_,fun x hx=>?_⟩
 .
  exact U138
 .
  have:=bK (List.mem_map_of_mem (f:=Va.fl) hx)
  simp only[Va.fl,aH,Fl.len]at this
  omega
 .
  have:=bK (List.mem_map_of_mem (f:=Pr.fl) hx)
  omega
theorem aIs (m:Mo)(vs:List Value)(w:World)(hT:kQ w)(h:aO w m.fl vs)(hs:aH m.fl<=1048576):
  Calls Tryz.prog 127 #[agg vs] w fun e w'=>e=.returned (.bool (bY m))/\w.grownBy w' none:=by
 obtain⟨hs0,hs1,hs2,hs3⟩:=aEn hs;clear hs;obtain⟨y0,_,rfl,⟨a0,c0,rfl,h0,hc0,_⟩,y1,_,rfl,h1',y2,_,rfl,h2',y3,_,rfl,h3',rfl⟩:=h;obtain⟨a1,c1,rfl,h1⟩:=h1'.list;obtain⟨a2,c2,rfl,h2⟩:=h2'.list;obtain⟨a3,c3,rfl,h3⟩:=h3'.list;clear h1' h2' h3'
 have k1:(bH m.uses).length=m.uses.length:=by simp[bH]
 have k2:(m.vars.map Va.fl).length=m.vars.length:=by simp
 have k3:(m.procs.map Pr.fl).length=m.procs.length:=by simp
 have n1:m.uses.length<=9223372036854775807:=by have h5:=h1.cap;have h6:=h1.most;unfold maxLen at h6;omega
 have n2:m.vars.length<=9223372036854775807:=by have h5:=h2.cap;have h6:=h2.most;unfold maxLen at h6;omega
 have n3:m.procs.length<=9223372036854775807:=by have h5:=h3.cap;have h6:=h3.most;unfold maxLen at h6;omega
 rw[k1,k2,k3];clear k1 k2 k3;simp only[agg];have yy:=aC w (.cells #[.slice a0 m.name.length c0,.slice a1 m.uses.length c1,.slice a2 m.vars.length c2,.slice a3 m.procs.length c3] 35 (0,0)) none;have hb:=aA yy;have x0:=Blk.new w 35 [.slice a0 m.name.length c0,.slice a1 m.uses.length c1,.slice a2 m.vars.length c2,.slice a3 m.procs.length c3]
 have hfe:Hid (bY m=(aK m.name true && decide (m.uses.length<=6) && m.uses.all iK && decide (m.vars.length<=8) && m.vars.all lF && decide (m.procs.length<=8) && m.procs.all jU && jW m.procs 250)):=rfl
 generalize bY m=TG at *;go_enter Tryz.func127,Tryz.ntmps127;go_upto_region 1 with fail;generalize w.alloc (.cells #[.slice a0 m.name.length c0,.slice a1 m.uses.length c1,.slice a2 m.vars.length c2,.slice a3 m.procs.length c3] 35 (0,0))=w1 at *;obtain⟨q0,q1,q2,q3⟩:=x0.c4;have HQ:=dX a0 m.name.length c0 m.name true w1 (h0.below hb) hs0 hc0
 skip
 generalize aK m.name true=r at *;go_wp2_with fail;refine HQ.mono ?_;rintro e w2 ⟨rfl,hg⟩;clear HQ q0 q1 q2 q3
 replace hg:w1.grownBy w2 none:=by rw[hg];exact aP _ _
 replace x0:=x0.below (aA hg) x0.lt;replace yy:=aD yy hg
 replace hb:Below w.heap.size w w2:=hb.trans ((aA hg).mono hb.size)
 clear hg;obtain⟨q0,q1,q2,q3⟩:=x0.c4;cases r
 .
  have he:Hid (TG=false):=by show _=_;rw[hfe.out];simp
  clear hfe;exact U5
 by_cases hl:m.uses.length<=6
 rotate_left
 .
  have he:Hid (TG=false):=by show _=_;rw[hfe.out,decide_eq_false hl];simp
  have hl':¬(m.uses.length:Int)<=6:=V6;clear hfe;exact U5
 have hl':(m.uses.length:Int)<=6:=V6;rw[decide_eq_true hl]at hfe;clear hl;have HQ:=aDi 174 iK (cK Tryz.func174 rfl rfl) aK2 a1 c1 m.uses w2 (h1.below hb) hs1
 skip
 generalize m.uses.all iK=r at *;go_wp2_with fail;refine HQ.mono ?_;rintro e w3 ⟨rfl,hg⟩;clear HQ q0 q1 q2 q3;replace x0:=x0.below (aA hg) x0.lt;replace yy:=aD yy hg
 replace hb:Below w.heap.size w w3:=hb.trans ((aA hg).mono hb.size)
 clear hg;obtain⟨q0,q1,q2,q3⟩:=x0.c4;cases r
 .
  have he:Hid (TG=false):=by show _=_;rw[hfe.out];simp
  clear hfe;exact U5
 by_cases hl:m.vars.length<=8
 rotate_left
 .
  have he:Hid (TG=false):=by show _=_;rw[hfe.out,decide_eq_false hl];simp
  have hl':¬(m.vars.length:Int)<=8:=V6;clear hfe;exact U5
 have hl':(m.vars.length:Int)<=8:=V6;rw[decide_eq_true hl]at hfe;clear hl;have HQ:=aJb a2 c2 m.vars w3 (h2.below hb) hs2
 skip
 generalize m.vars.all lF=r at *;go_wp2_with fail;refine HQ.mono ?_;rintro e w4 ⟨rfl,hg⟩;clear HQ q0 q1 q2 q3;replace x0:=x0.below (aA hg) x0.lt;replace yy:=aD yy hg
 replace hb:Below w.heap.size w w4:=hb.trans ((aA hg).mono hb.size)
 clear hg;obtain⟨q0,q1,q2,q3⟩:=x0.c4;cases r
 .
  have he:Hid (TG=false):=by show _=_;rw[hfe.out];simp
  clear hfe;exact U5
 by_cases hl:m.procs.length<=8
 rotate_left
 .
  have he:Hid (TG=false):=by show _=_;rw[hfe.out,decide_eq_false hl];simp
  have hl':¬(m.procs.length:Int)<=8:=V6;clear hfe;exact U5
 have hl':(m.procs.length:Int)<=8:=V6;rw[decide_eq_true hl]at hfe;clear hl;have HQ:=aFr a3 c3 m.procs w4 (h3.below hb) hs3
 skip
 generalize m.procs.all jU=r at *;go_wp2_with fail;refine HQ.mono ?_;rintro e w5 ⟨rfl,hg⟩;clear HQ q0 q1 q2 q3;replace x0:=x0.below (aA hg) x0.lt;replace yy:=aD yy hg
 replace hb:Below w.heap.size w w5:=hb.trans ((aA hg).mono hb.size)
 clear hg;obtain⟨q0,q1,q2,q3⟩:=x0.c4;cases r
 .
  have he:Hid (TG=false):=by show _=_;rw[hfe.out];simp
  clear hfe;exact U5
 have HQ:=aI9 a3 c3 m.procs w5 (hT.below hb) (h3.below hb) hs3
 skip
 generalize jW m.procs 250=r at *;go_wp2_with fail;refine HQ.mono ?_;rintro e w6 ⟨rfl,hg⟩;clear HQ q0 q1 q2 q3;replace x0:=x0.below (aA hg) x0.lt;replace yy:=aD yy hg
 replace hb:Below w.heap.size w w6:=hb.trans ((aA hg).mono hb.size)
 clear hg;obtain⟨q0,q1,q2,q3⟩:=x0.c4;cases r
 .
  have he:Hid (TG=false):=by show _=_;rw[hfe.out];simp
  clear hfe;exact U5
 have he:Hid (TG=true):=by show _=_;rw[hfe.out];simp
 clear hfe;exact U5
end Go.Proofs.YtnelibmaancmkaaGreatDoor

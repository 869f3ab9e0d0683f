import Derived.Test.YtcbhdhmhidpdgaaGreatDoorPackM
import Derived.WalkKit
import Derived.ProofKit
import Derived.Deep.QuietTactic
import Derived.BigQuiet
import Derived.OpenShut
import Derived.Laws.StructEq
import Derived.Test.YtcbhdhmhidpdgaaGreatDoorPackI
import Derived.Deep.RegionHeld3
import Derived.RangeFuncOwn
import Derived.RangeFuncNested
import Derived.RangeFuncBound
import Derived.RangeFuncCalls
import Derived.RangeFuncLeaves
import Derived.Shelf.Abstract
import Derived.Shelf.RegionOpen
import Derived.OwnWalkIn
import Derived.TacticsInMore
import Derived.LoopNIn
import Derived.LoopIn
import Derived.Scope
import Derived.Sort.CutIn
namespace Go.Proofs.YtcbhdhmhidpdgaaGreatDoor
open Go.RowKit
set_option linter.unusedVariables false
set_option linter.unusedSimpArgs false
theorem A52{p:Prop}(h:p:=by simp[results,Tryz.results38,go_sem]):p:=h
theorem QA34{p:Prop}(h:p:=by
 go_wp2
 refine zI1 (v:=.tuple #[.agg #[.bool false,.int .i64 0,.int .i64 0,.int .i64 0,.int .i64 0,.int .i64 0,.int .i64 0],.bool false]) A52 rfl ⟨rfl,(by repeat (first|exact zD2 _ _|assumption|(refine below_drewN ?_ _)|apply Below.drew|(refine Below.alloc ?_ ?_ _)|(refine Below.setCell ?_ ?_ _)|omega|(simp;omega)|simp))⟩):p:=h
theorem rb {a b:Bool}(h:a=b):Ending.returned (.bool a)=.returned (.bool b):=by rw[h]
theorem ri {k:IntKind}{a b:Int}(h:a=b):Ending.returned (.int k a)=.returned (.int k b):=by rw[h]
def inR (n a b:Int):Bool:=decide (a<=n) && decide (n<=b)
theorem kN (n a b:Int)(w:World):
  Calls Tryz.prog 12 #[.int .i64 n,.int .i64 a,.int .i64 b] w fun e w'=>e=.returned (.bool (inR n a b))/\w'=w:=by
 go_enter Tryz.func12,Tryz.ntmps12;unfold inR;by_cases h1:a<=n
 .
  by_cases h2:n<=b
  .
   go_wp2;go_ret;exact⟨rb (by simp[h1,h2]),rfl⟩
  .
   go_wp2;go_ret;exact⟨rb (by simp[h1,h2]),rfl⟩
 .
  go_wp2;go_ret;exact⟨rb A10,rfl⟩
def sel (b:Bool)(x:Int):Int:=bif b then x else 0
def xN (m a:Int):Bool:=inR m 0 7 && inR a 0 4000
set_option maxRecDepth 100000 in
theorem aJq (m a:Int)(w:World):
  Calls Tryz.prog 38 #[.int .i64 m,.int .i64 a] w fun e w'=>
   e=.returned (.tuple #[.agg #[.bool (xN m a),.int .i64 0,.int .i64 0,.int .i64 0,.int .i64 (sel (xN m a) a),.int .i64 (sel (xN m a) 16),.int .i64 (sel (xN m a) (m+1))],.bool (xN m a)])/\Below w.heap.size w w':=by
 by_cases h1:inR m 0 7=true
 .
  by_cases h2:inR a 0 4000=true
  .
   have hm':0<=m/\m<=7:=by simpa [inR] using h1
   have hE:xN m a=true:=by simp[xN,h1,h2]
   rw[hE];clear hE;go_enter Tryz.func38,Tryz.ntmps38;go_wp2_with fail;refine(kN m 0 7 _).mono ?_;rintro e w1 ⟨rfl,rfl⟩;rw[h1];go_wp2_with fail;refine(kN a 0 4000 _).mono ?_;rintro e w1 ⟨rfl,rfl⟩;rw[h2];clear h1 h2;go_wp2;refine zI1 (v:=.tuple #[.agg #[.bool true,.int .i64 0,.int .i64 0,.int .i64 0,.int .i64 a,.int .i64 16,.int .i64 (m+1)],.bool true]) A52 rfl ⟨rfl,(by repeat (first|exact zD2 _ _|assumption|(refine below_drewN ?_ _)|apply Below.drew|(refine Below.alloc ?_ ?_ _)|(refine Below.setCell ?_ ?_ _)|omega|(simp;omega)|simp))⟩
  .
   rw[Bool.not_eq_true]at h2;have hE:xN m a=false:=by simp[xN,h1,h2]
   rw[hE];clear hE;go_enter Tryz.func38,Tryz.ntmps38;go_wp2_with fail;refine(kN m 0 7 _).mono ?_;rintro e w1 ⟨rfl,rfl⟩;rw[h1];go_wp2_with fail;refine(kN a 0 4000 _).mono ?_;rintro e w1 ⟨rfl,rfl⟩;rw[h2];exact QA34
 .
  rw[Bool.not_eq_true]at h1;have hE:xN m a=false:=by simp[xN,h1]
  rw[hE];clear hE;go_enter Tryz.func38,Tryz.ntmps38;go_wp2_with fail;refine(kN m 0 7 _).mono ?_;rintro e w1 ⟨rfl,rfl⟩;rw[h1];exact QA34
end Go.Proofs.YtcbhdhmhidpdgaaGreatDoor
namespace Go.Proofs.YtcbhdhmhidpdgaaGreatDoor
open Go.RowKit
set_option linter.unusedVariables false
set_option linter.unusedSimpArgs false
set_option maxRecDepth 100000
variable{l:List Oj}{B T c f g g' j:Nat}{a:Value}{W w w1:World}
def kX:Int:=fZ (nM++cW []) 4
def sU (l:List Oj)(w:World)(e:Ending)(w':World):Prop:=
 ∃(mv wv:Value) (rs:List (Value × Rg)) (ws:List Wo) (s code:Int),e=.returned (.tuple #[.agg #[mv,wv,.int .i64 s],.int .i64 code])/\Lk kX l (aGw rs ws s) code/\Im w' w.heap.size w'.heap.size w'.heap.size mv wv rs ws/\Below w.heap.size w w'
structure S0 (w:World) (wr:World):Prop where
 z:Blk wr w.heap.size 28 [.slice none 0 0,.slice none 0 0,.int .i64 0]
 y:Below w.heap.size w wr
theorem S0.step{wr w':World}(h:S0 w wr)(b:Below wr.heap.size wr w'):S0 w w':=⟨h.z.below b h.z.lt,h.y.trans (b.mono h.y.size)⟩
theorem S0.start (w:World):S0 w (w.alloc (.cells #[.slice none 0 0,.slice none 0 0,.int .i64 0] 28 (0,0))):=⟨Blk.new w 28 [.slice none 0 0,.slice none 0 0,.int .i64 0],(zD2 _ _).alloc (zB0 _) _⟩
def put3 (w:World)(g:Nat)(a b c:Value):World:=((w.setCell ⟨g,0,none⟩ a).setCell ⟨g,1,none⟩ b).setCell ⟨g,2,none⟩ c
theorem Blk.put3{x y z b c:Value}(h:Blk w g T [x,y,z]):Blk (put3 w g a b c) g T [a,b,c]:=((h.set (i:=0) a).set (i:=1) b).set (i:=2) c
theorem nB{w0:World}{b c:Value}(h:Below B w0 w)(hg:B<=g):Below B w0 (put3 w g a b c):=((h.setCell (p:=⟨g,0,none⟩) hg a).setCell (p:=⟨g,1,none⟩) hg b).setCell (p:=⟨g,2,none⟩) hg c
theorem uX{wr:World}{code:Int}(h:S0 w wr)(hL:Lk kX l qE code):sU l w (.returned (.tuple #[.agg #[.slice none 0 0,.slice none 0 0,.int .i64 0],.int .i64 code])) (put3 wr w.heap.size (.slice none 0 0) (.slice none 0 0) (.int .i64 0)):=
 ⟨_,_,[],[],0,code,rfl,hL,Im.zero _ _,nB h.y (zB0 _)⟩
structure S3s (sn:Int) (l:List Oj) (w:World) (g hi h2:Nat) (wr:World) (mv wv:Value) (rs:List (Value × Rg)) (ms:List Rg) (ws:List Wo):Prop where
 z:S0 w wr
 m:Blk wr g 28 [mv,wv,.int .i64 sn]
 im:Im wr w.heap.size hi h2 mv wv rs ws
 rs:(rs.map fun x=>x.2)=ms
 lo:w.heap.size<g
 hi:w.heap.size<=hi/\hi<=wr.heap.size
 h2:h2<=wr.heap.size
abbrev S3:=S3s 0
theorem S3s.step {sn:Int}{l:List Oj}{w wr w':World}{g hi h2:Nat}{mv wv:Value}{rs:List (Value × Rg)}{ms:List Rg}{ws:List Wo}(h:S3s sn l w g hi h2 wr mv wv rs ms ws)(b:Below wr.heap.size wr w'):S3s sn l w g hi h2 w' mv wv rs ms ws:=
 ⟨h.z.step b,h.m.below b h.m.lt,h.im.below b,h.rs,h.lo,⟨h.hi.1,zF2 h.hi.2 b.size⟩,zF2 h.h2 b.size⟩
theorem aEe{wr:World}{k n:Nat}{v:Value}{xs:List Value}(h:Below w.heap.size w wr)(ho:wr.ownsRow w.heap.size T k v n xs)(hg:wr.grownBy w1 v.ownBlock):Below w.heap.size w w1:=h.grown hg h.size fun g hg=>(ho.lt g hg).1
theorem S3s.words {sn:Int}{l:List Oj}{w wr w1:World}{g hi h2 n:Nat}{mv wv Ml:Value}{rs:List (Value × Rg)}{ms:List Rg}{ws us:List Wo}(h:S3s sn l w g hi h2 wr mv wv rs ms ws)
  (hn:us.length=n) (hr:w1.ownsRow w.heap.size 100 7 Ml (ws.length+n) (cO ws++cO us)) (hg:wr.grownBy w1 wv.ownBlock):S3s sn l w g hi w1.heap.size (w1.setCell ⟨g,1,none⟩ Ml) mv Ml rs ms (ws++us):=by
 have hs:=hg.size;have y1:=aEe h.z.y h.im.wrow.own hg;have m1:=h.im.wblk hg h.m A6;have z1:=h.im.wblk hg h.z.z A6;have Ki:=h.lo;refine⟨⟨z1.other A0,y1.setCell (p:=⟨g,1,none⟩) (Nat.le_of_lt h.lo) _⟩,m1.set (i:=1) Ml,(h.im.words hn hr hg).put m1 A6 A6 (.inl A6),h.rs,h.lo,⟨h.hi.1, ?_⟩, ?_⟩
 .
  have:=h.hi.2;simp;omega
 .
  simp
theorem S3s.mods {sn:Int}{l:List Oj}{w wr w1:World}{g hi h2 c0:Nat}{mv wv Wc c:Value}{rs:List (Value × Rg)}{ms:List Rg}{ws:List Wo}{r:Rg}(h:S3s sn l w g hi h2 wr mv wv rs ms ws)
  (Iq:hi<=c0) (hc:Pc wr 5 1 c0 wr.heap.size c r.code.length (bVL r.code)) (hcb:aM8 r.code) (Kl:c0<=wr.heap.size)
  (hr:w1.ownsRow w.heap.size 110 4 Wc (rs.length+1) (mV rs++r.vals c)) (hg:wr.grownBy w1 mv.ownBlock):S3s sn l w g w1.heap.size h2 (w1.setCell ⟨g,0,none⟩ Wc) Wc wv (rs++[(c,r)]) (ms++[r]) ws:=by
 have hs:=hg.size;have y1:=aEe h.z.y h.im.mrow.own hg;have m1:=h.im.mblk hg h.m A6;have z1:=h.im.mblk hg h.z.z A6;have Ki:=h.lo;refine⟨⟨z1.other A0,y1.setCell (p:=⟨g,0,none⟩) (Nat.le_of_lt h.lo) _⟩,m1.set (i:=0) Wc,(h.im.mods h.hi.1 Iq hc hcb Kl hr hg).put m1 A6 A6 (.inl A6), ?_,h.lo,⟨?_, ?_⟩, ?_⟩
 .
  rw[List.map_append,h.rs];rfl
 .
  have:=y1.size;omega
 .
  simp
 .
  have:=h.h2;simp;omega
theorem S3s.cells{sn:Int}{wr:World}{hi h2:Nat}{mv wv:Value}{rs:List (Value × Rg)}{ms:List Rg}{ws:List Wo}(h:S3s sn l w g hi h2 wr mv wv rs ms ws):∃ma mc wa wc,mv=.slice ma rs.length mc/\wv=.slice wa ws.length wc:=by
 obtain⟨a,c,e,_⟩:=aH h.im.mrow.own;obtain⟨a2,c2,e2,_⟩:=aH h.im.wrow.own;exact⟨a,c,a2,c2,e,e2⟩
theorem lQ{b off n:Nat}(h:aW w (some ⟨b,off,none⟩) c 5 (l.map Oj.fl))(hn:l.length=n):∀j,j<n->∃o v0 v1 v2 v3 v4,l[j]?=some o/\aL w o.fl [v0,v1,v2,v3,v4]/\(w.cell? ⟨b,off+j*5,none⟩=some v0/\w.cell? ⟨b,off+j*5+1,none⟩=some v1/\w.cell? ⟨b,off+j*5+2,none⟩=some v2/\w.cell? ⟨b,off+j*5+3,none⟩=some v3/\w.cell? ⟨b,off+j*5+4,none⟩=some v4):=by
 intro j hj;obtain⟨o,ho⟩:∃o,l[j]?=some o:=⟨_,zA0 A0⟩
 obtain⟨vs,Ak,Ab⟩:=(h.el (show(l.map Oj.fl)[j]?=some o.fl by rw[zA2,ho];rfl)).vals;have hl:=Ak.len
 match vs,hl with
 | [v0,v1,v2,v3,v4],_=>exact⟨o,v0,v1,v2,v3,v4,ho,Ak,Ab 0 _ rfl,Ab 1 _ rfl,Ab 2 _ rfl,Ab 3 _ rfl,Ab 4 _ rfl⟩
theorem kJ{o:Oj}{v0 v1 v2 v3 v4:Value}(h:aL w o.fl [v0,v1,v2,v3,v4]):∃a0 c0 a1 c1 a2 c2 a4 c4,v0=.slice a0 o.name.length c0/\v1=.slice a1 o.ex.length c1/\v2=.slice a2 o.im.length c2/\v3=.int .i64 o.data/\v4=.slice a4 o.code.length c4/\aV w a0 o.name.length o.name/\aW w a1 c1 3 (o.ex.map Xp.fl)/\aW w a2 c2 3 (o.im.map Ip.fl)/\(aV w a4 o.code.length o.code/\(a4=none->c4=0)):=by
 obtain⟨y0,_,e0,⟨a0,c0,rfl,h0,_⟩,y1,_,e1,h1,y2,_,e2,h2,y3,_,e3,h3,y4,_,e4,⟨a4,c4,rfl,h4,_,_,h5⟩,_⟩:=h;obtain⟨a1,c1,rfl,l1⟩:=h1.list;obtain⟨a2,c2,rfl,l2⟩:=h2.list;simp only[zJ2]at e0;obtain⟨rfl,rfl⟩:=e0;simp only[zJ2]at e1;obtain⟨rfl,rfl⟩:=e1;simp only[zJ2]at e2;obtain⟨rfl,rfl⟩:=e2;simp only[zJ2]at e3;obtain⟨rfl,rfl⟩:=e3;simp only[zJ2]at e4;obtain⟨rfl,_⟩:=e4;exact⟨a0,c0,a1,c1,a2,c2,a4,c4,rfl,by simp,by simp,h3,rfl,h0,l1,l2,h4,h5⟩
theorem aBl (n:Nat):(madeCells #[.bool false,.int .i64 0,.int .i64 0,.int .i64 0,.int .i64 0,.int .i64 0,.int .i64 0] (n*7)).toList=cO (List.replicate n dC):=by
 apply List.ext_getElem?;intro j;by_cases hj:j<n*7
 .
  have h7:j % 7<7:=Nat.mod_lt _ A0;have e:j=(j / 7)*7+j % 7:=A0;have hk:(List.replicate n dC)[j / 7]?=some dC:=by rw[List.getElem?_replicate,if_pos A0]
  rw[show(cO (List.replicate n dC))[j]?=(cO (List.replicate n dC))[(j / 7)*7+j % 7]? by rw[<-e],aAa h7 hk];simp only[madeCells,Array.toList_map,zA2,Array.toList_range,List.getElem?_range hj,Option.map_some];show some (#[Value.bool false,.int .i64 0,.int .i64 0,.int .i64 0,.int .i64 0,.int .i64 0,.int .i64 0][j % 7]!)=_
  have:j % 7=0\/j % 7=1\/j % 7=2\/j % 7=3\/j % 7=4\/j % 7=5\/j % 7=6:=A0;rcases this with h|h|h|h|h|h|h <;> rw[h] <;> rfl
 .
  rw[List.getElem?_eq_none (by simp[madeCells];omega),List.getElem?_eq_none (by rw[gN];simp;omega)]
theorem S3.start{wr:World}(h:S0 w wr)(ho:w1.ownsRow wr.heap.size 100 7 (.slice (some ⟨wr.heap.size,0,none⟩) 600 600) 600 (madeCells #[.bool false,.int .i64 0,.int .i64 0,.int .i64 0,.int .i64 0,.int .i64 0,.int .i64 0] (600*7)).toList)(hg:wr.grownBy w1 none)(s:Value):
  S0 w w1/\Im w1 w.heap.size w1.heap.size w1.heap.size (.slice none 0 0) (.slice (some ⟨wr.heap.size,0,none⟩) 600 600) [] (bU l 0):=by
 have hb:=aA hg;rw[aBl]at ho;refine⟨h.step hb,trivial,⟨World.ownsRow_nil _ _ _ _,fun g hg=>by cases hg⟩,⟨?_,fun g hg=>(ho.lt g hg).2⟩⟩;have e:(bU l 0).length=600:=by unfold bU;rw[List.length_replicate]
 rw[e];exact jV ho h.y.size
structure S4 (l:List Oj) (w:World) (g hi h2:Nat) (wr:World) (mv wv:Value) (rs:List (Value × Rg)) (ms:List Rg) (ws:List Wo) (gO gR c0 c1:Nat) (ov:List Value) (cv:Value) (rlo rhi rown:Int) (code:List Int):Prop where
 s:S3 l w g hi h2 wr mv wv rs ms ws
 o:Blk wr gO 39 ov
 r:Blk wr gR 110 [.int .i64 rlo,.int .i64 rhi,.int .i64 rown,cv]
 c:Pc wr 5 1 c0 c1 cv code.length (bVL code)
 hb:aM8 code
 hc:hi<=c0/\c0<=c1/\c1<=wr.heap.size/\hi<=gR/\w.heap.size<gO
theorem S4.step {l:List Oj}{w wr w':World}{g hi h2 gO gR c0 c1:Nat}{mv wv cv:Value}{rs:List (Value × Rg)}{ms:List Rg}{ws:List Wo}{ov:List Value}{rlo rhi rown:Int}{code:List Int}(h:S4 l w g hi h2 wr mv wv rs ms ws gO gR c0 c1 ov cv rlo rhi rown code)(b:Below wr.heap.size wr w'):S4 l w g hi h2 w' mv wv rs ms ws gO gR c0 c1 ov cv rlo rhi rown code:=by
 have hs:=b.size;have hc:=h.hc;exact⟨h.s.step b,h.o.below b h.o.lt,h.r.below b h.r.lt,h.c.stays (fun g _ q _=>b.block g A0),h.hb,by omega⟩
theorem S4.words {l:List Oj}{w wr w1:World}{g hi h2 gO gR c0 c1 n:Nat}{mv wv Ml cv:Value}{rs:List (Value × Rg)}{ms:List Rg}{ws us:List Wo}{ov:List Value}{rlo rhi rown:Int}{code:List Int}(h:S4 l w g hi h2 wr mv wv rs ms ws gO gR c0 c1 ov cv rlo rhi rown code)
  (hn:us.length=n) (hr:w1.ownsRow w.heap.size 100 7 Ml (ws.length+n) (cO ws++cO us)) (hg:wr.grownBy w1 wv.ownBlock):S4 l w g hi w1.heap.size (w1.setCell ⟨g,1,none⟩ Ml) mv Ml rs ms (ws++us) gO gR c0 c1 ov cv rlo rhi rown code:=by
 have hs:=hg.size;have hc:=h.hc;have m1:=h.s.im.wblk hg h.s.m A6;have o1:=h.s.im.wblk hg h.o A6;have r1:=h.s.im.wblk hg h.r A6;have Lr:=h.c.stays (w':=w1) (fun g _ _ q=>dS h.s.im.wrow.own hg A6 q);have no:gO ≠ g:=fun e=>by subst e;exact absurd (lN o1 m1) A6
 have nr:gR ≠ g:=fun e=>by subst e;exact absurd (lN r1 m1) A6
 refine⟨h.s.words hn hr hg,o1.other no,r1.other nr,Lr.stays (fun g' _ _ hq=>heap_setCell_other w1 ⟨g,1,none⟩ g' Ml (fun e=>?_)),h.hb, ?_⟩
 .
  have e':g'=g:=e;subst e';exact absurd (aFb m1 hq) A6
 .
  rw[show(w1.setCell ⟨g,1,none⟩ Ml).heap.size=w1.heap.size by simp];omega
theorem dD.take {w:World}{b k:Nat}:∀{rs:List (List Fl)} {off i:Nat},dD w b k off rs->dD w b k off (rs.take i):=by
 intro rs;induction rs with
 | nil=>intro off i h;simpa using h| cons r rs ih=>
  intro off i h;cases i with
  | zero=>exact trivial| succ i=>exact⟨h.1,ih h.2⟩
theorem aW.take {w:World}{a:Option Addr}{c k:Nat}{rs:List (List Fl)}(h:aW w a c k rs)(i:Nat):aW w a c k (rs.take i):=by
 refine⟨zF2 A10 h.cap,h.most,h.nil,fun hp=>?_⟩;obtain⟨b,off,e,hr⟩:=h.row (by simp at hp;omega);exact⟨b,off,e,hr.take⟩
theorem aHp{l:List Ip}{a:Option Addr}{k:Nat}{i:Ip}(h:aW w a c 3 (l.map Ip.fl))(hi:l[k]?=some i):∃b off am cm an cn,a=some ⟨b,off,none⟩/\(w.cell? ⟨b,off+k*3,none⟩=some (.slice am i.mod.length cm)/\w.cell? ⟨b,off+k*3+1,none⟩=some (.slice an i.name.length cn)/\w.cell? ⟨b,off+k*3+2,none⟩=some (.int .i64 i.print))/\aV w am i.mod.length i.mod/\aV w an i.name.length i.name:=by
 obtain⟨b,off,rfl⟩:=h.addr (by have:=(zC1.1 hi).1;rw[zB2];omega);obtain⟨vs,Ak,Ab⟩:=(h.el (show(l.map Ip.fl)[k]?=some i.fl by rw[zA2,hi];rfl)).vals;obtain⟨y0,_,rfl,⟨am,cm,rfl,h0,_⟩,y1,_,rfl,⟨an,cn,rfl,h1,_⟩,y2,_,rfl,rfl,rfl⟩:=Ak;exact⟨b,off,am,cm,an,cn,rfl,⟨Ab 0 _ rfl,Ab 1 _ rfl,Ab 2 _ rfl⟩,h0,h1⟩
theorem yD{o:Oj}(h:(l.take j)[f]?=some o):f<j/\l[f]?=some o:=by
 rw[List.getElem?_take]at h;split at h
 .
  rename_i hf;exact⟨hf,h⟩
 .
  cases h
theorem aIa{x:Nat}(hf:f<=7)(hx:x<=4000):xN (f:Int) (x:Int)=true:=by simp[xN,inR];omega
theorem oV{nw lz n2:Nat}{o:Oj}(ho:l[j]?=some o)(hw:(bU l j).length=nw)(hl:(bU l (j+1)).length=lz)(hn:o.im.length=n2):fY l (j+1)=fY l j++[⟨(nw:Int),(lz:Int),(n2:Int),o.code⟩]:=by
 conv=>lhs;unfold fY
 rw[hw,hl,cA ho,hn]
theorem aMs{nd:Nat}{o:Oj}(ho:l[j]?=some o)(hd:o.data=(nd:Int)):qX l j=List.replicate nd dC:=by
 unfold qX;rw[cA ho,hd,Int.toNat_natCast]
theorem aFu (l:List Oj):∀j,600<=(bU l j).length:=by
 intro j;induction j with
 | zero=>unfold bU;rw[List.length_replicate];exact zB0 _| succ j ih=>unfold bU;rw[zA1];omega
theorem rQ (l:List Oj):∀j,(fY l j).length=j:=by
 intro j;induction j with
 | zero=>rfl| succ j ih=>unfold fY;rw[zA1,ih];rfl
theorem aK5 (w:World):aFq w none 0 []:=⟨rfl,by simp,fun h=>absurd h A0⟩
theorem aK0{n q:Nat}{o:Oj}(hn:l.length=n)(hq:n=q+1)(ho:l[q]?=some o):mG l (l.length-1)=o:=by
 rw[hn,hq];exact cA ho
theorem aAc{l:List Xp}{a:Option Addr}{k:Nat}{x:Xp}(h:aW w a c 3 (l.map Xp.fl))(hx:l[k]?=some x):∃b off am cm,a=some ⟨b,off,none⟩/\(w.cell? ⟨b,off+k*3,none⟩=some (.slice am x.name.length cm)/\w.cell? ⟨b,off+k*3+1,none⟩=some (.int .i64 x.print)/\w.cell? ⟨b,off+k*3+2,none⟩=some (.int .i64 x.pos))/\aV w am x.name.length x.name:=by
 obtain⟨b,off,rfl⟩:=h.addr (by have:=(zC1.1 hx).1;rw[zB2];omega);obtain⟨vs,Ak,Ab⟩:=(h.el (show(l.map Xp.fl)[k]?=some x.fl by rw[zA2,hx];rfl)).vals;obtain⟨y0,_,rfl,⟨am,cm,rfl,h0,_⟩,y1,_,rfl,rfl,y2,_,rfl,rfl,rfl⟩:=Ak;exact⟨b,off,am,cm,rfl,⟨Ab 0 _ rfl,Ab 1 _ rfl,Ab 2 _ rfl⟩,h0⟩
theorem aFt{m:Nat}(h:m<=1048576):IntKind.i64.wrap (m:Int)=(m:Int):=by rw[IntKind.wrap];simp[IntKind.min,IntKind.max,IntKind.bits,IntKind.signed];omega
theorem cP{n:Nat}{C:List Value}(h:Blk W g 5 C):(convert 22 22 (.slice (some ⟨g,0,none⟩) n c)).run Tryz.prog W=.ok (.slice (some ⟨g,0,none⟩) n c) (W.freeze ⟨g,C.length,none⟩ 1):=by
 have hsh:W.shape? g=some (5,C.length):=by unfold World.shape?;rw[show W.heap[g]?=_ from h];simp
 simp[convert,run_underlying Tryz.underlying22,run_underlying Tryz.underlying5,markStringish,hsh]
theorem pI{k:Nat}(Ae:g' ≠ g):(W.freeze ⟨g,k,none⟩ 1).heap[g']?=W.heap[g']?:=by
 unfold World.freeze;rw[if_neg A6];simp only[Array.getElem?_modify];rw[if_neg (Ne.symm Ae)]
theorem cN{k:Nat}{a:World}(h:Below B a W)(hg:B<=g):Below B a (W.freeze ⟨g,k,none⟩ 1):=by
 have hs:(W.freeze ⟨g,k,none⟩ 1).heap.size=W.heap.size:=by unfold World.freeze;rw[if_neg A6];simp
 have h1:(W.freeze ⟨g,k,none⟩ 1).os=W.os/\(W.freeze ⟨g,k,none⟩ 1).tape=W.tape/\(W.freeze ⟨g,k,none⟩ 1).output=W.output:=by unfold World.freeze;rw[if_neg A6];exact⟨rfl,rfl,rfl⟩
 exact⟨h1.1.trans h.os,h1.2.1.trans h.tape,h1.2.2.trans h.output,by rw[hs];exact h.size,fun j hj=>(pI A0).trans (h.block j hj)⟩
def MC (W:World)(g:Nat):Prop:=∀i v,[Value.int .u8 109,.int .u8 97,.int .u8 105,.int .u8 110][i]?=some v->W.cell? ⟨g,i,none⟩=some v
theorem MC.below{W':World}(h:MC W g)(hb:Below W.heap.size W W'):MC W' g:=fun i v hv=>aB (h i v hv) hb
theorem MC.frz{k:Nat}(h:Blk W g 5 [.int .u8 109,.int .u8 97,.int .u8 105,.int .u8 110]):MC (W.freeze ⟨g,k,none⟩ 1) g:=by
 intro i v hv;rw[<-h.cell hv];have e:(W.freeze ⟨g,k,none⟩ 1).heap[g]?=some (.cells #[.int .u8 109,.int .u8 97,.int .u8 105,.int .u8 110] 5 (k,k+1)):=by
  unfold World.freeze;rw[if_neg A6];simp only[Array.getElem?_modify,if_pos];rw[show W.heap[g]?=_ from h];rfl
 rw[cell_of_row _ g i _ _ _ e,cell_of_row _ g i _ _ _ h]
theorem MC.frzO{k:Nat}(h:MC W g)(Ae:g ≠ g'):MC (W.freeze ⟨g',k,none⟩ 1) g:=fun i v hv=>by
 rw[World.cell?_of_block (a:=⟨g,i,none⟩) (pI Ae)];exact h i v hv
theorem Blk.frzO{k:Nat}{vs:List Value}(h:Blk W g T vs)(Ae:g ≠ g'):Blk (W.freeze ⟨g',k,none⟩ 1) g T vs:=(pI Ae).trans h
theorem MC.row(h:MC W g):aV W (some ⟨g,0,none⟩) 4 nM:=by
 refine⟨rfl,by decide,fun _=>⟨g,0,rfl,fun i hi=>?_⟩⟩;rw[zJ0]
 match i,hi with
 | 0,_=>exact h 0 _ rfl| 1,_=>exact h 1 _ rfl| 2,_=>exact h 2 _ rfl| 3,_=>exact h 3 _ rfl
end Go.Proofs.YtcbhdhmhidpdgaaGreatDoor
namespace Go.Proofs.YtcbhdhmhidpdgaaGreatDoor
open Go.RowKit
set_option maxHeartbeats 4000000
set_option linter.unusedVariables false
set_option linter.unusedSimpArgs false
set_option maxRecDepth 100000
theorem A81{p:Prop}(h:p:=by simpa using hn):p:=h
theorem QA25{p:Prop}(h:p:=by
 by_cases he:P j=true
 .
  rw[he]
  have HS:=hid he
  clear he
  go_wp2
  go_ret
  exact⟨_,rfl,Bq.out,.inl ⟨j,rfl,Ad,HS.out,Ai.out⟩⟩
 .
  have he:=Bool.not_eq_true _ ▸ he
  rw[he]
  have HS:=hid he
  clear he
  go_wp2
  go_roundw
  case rel=>exact⟨j+1,by omega,by go_num,(show ∀i,i<j+1->P i=false from fun i hi=>(zJ1 i j).elim (fun h=>Ai.out i h) (fun h=>(show j=i by omega) ▸ HS.out)),Bq,HNx.out HS.out⟩
  case measure=>simp[intOf];omega):p:=h
theorem QA31{p:Prop}(h:p:=by
 rintro e w' ⟨r,rfl,hg,ht⟩
 refine⟨bY ?_,hg⟩
 rcases ht with⟨j,rfl,hj,hp,Ai⟩|⟨rfl,Ai⟩
 .
  have Qn:l[j]?=some l[j]:=zA0 A0
  rw[kR Qn (by simp only[Qn,zI0]at hp;exact hp) (fun i y hi hy=>by have:=Ai i hi;simp only[hy,zI0]at this;exact this)]
  rfl
 .
  rw[pM (fun i y hy=>by have:=Ai i (by have:=(zC1.1 hy).1;omega);simp only[hy,zI0]at this;exact this)]
  rfl):p:=h
theorem QA85{p:Prop}(h:p:=by
 go_wp2
 go_ret
 exact⟨bY (by rw[Ke.out];rfl),hg.out⟩):p:=h
theorem QA93{p:Prop}(h:p:=by
 go_wp2_with fail
 refine zH1 1 ?_
 rw[zE2]
 go_wp2
 go_ret
 exact⟨_,rfl,aP _ _,.inr ⟨rfl,by omega⟩⟩):p:=h
theorem QA98{p:Prop}(h:p:=by
 go_wp2_with fail
 refine HC.mono ?_
 rintro e w3 ⟨rfl,hg⟩
 go_wp2
 go_ret
 exact⟨rfl,aC yy hg⟩):p:=h
theorem QA99{p:Prop}(h:p:=by
 rintro e w' ⟨rfl,hg⟩
 exact⟨rfl,hg,fun _=>hi.trans ((aA hg).mono hi.size),fun _=>trivial⟩):p:=h
theorem QA103{p:Prop}(h:p:=by
 exact jJ a0 n0 c0 l0 a2 n2 c2 l2 wl (aV.below (w:=w1.drew) h0 hb) (aV.below (w:=w1.drew) h2 hb)):p:=h
theorem QA108{p:Prop}(h:p:=by
 intro r hr
 obtain⟨x,_,rfl⟩:=zE1.1 hr
 rfl):p:=h
theorem QA116{p:Prop}(h:p:=by
 have:j=n:=A0
 subst this
 go_wp2
 go_ret
 exact⟨_,rfl,Al.out,.inr ⟨rfl,Ai.out⟩⟩):p:=h
theorem QA118{p:Prop}(h:p:=by
 go_wp2
 go_ret
 exact⟨rfl,aC y0 ⟨Fb.os,Fb.tape,Fb.output,Fb.size,Fb.block⟩⟩):p:=h
def aFy (l:List (List Int))(i:Nat):Bool:=!((l.take i).any fun y=>decide (y=l[i]?.getD []))
def lK (l:List (List Int)):Bool:=(List.range l.length).all (aFy l)
theorem xV {l:List (List Int)}{i:Nat}(hi:i<l.length)(h:aFy l i=false):lK l=false:=by
 unfold lK;rw[List.all_eq_false];exact⟨i,by simpa using hi,by simp[h]⟩
theorem pT {l:List (List Int)}(h:∀i,i<l.length->aFy l i=true):lK l=true:=by
 unfold lK;rw[zF3];exact fun i hi=>h i (by simpa using hi)
theorem rB {l:List Oj}:lK (l.map Oj.name)=true ↔ aCo l:=by
 constructor
 .
  intro h j hj;have h1:=zF3.1 (show(List.range _).all _=true from h) j (by simpa using hj);have ho:l[j]?=some l[j]:=zA0 hj;rw[cA ho];refine kR ho A8 fun i y hi hy=>?_;unfold aFy at h1;simp only[Bool.not_eq_true',List.any_eq_false,zE3]at h1;have h2:=h1 y.name (by
   rw[<-List.map_take];exact zE1.2 ⟨y,zA3 (by rw[List.getElem?_take,if_pos hi];exact hy),rfl⟩)
  rw[zA2,ho]at h2;simpa using h2
 .
  intro h;refine pT fun i hi=>?_;have hi:i<l.length:=by simpa using hi
  have ho:l[i]?=some l[i]:=zA0 hi;have h1:=h i hi;rw[cA ho]at h1;obtain⟨_,_,_,Ai⟩:=dZ h1;unfold aFy;simp only[Bool.not_eq_true',List.any_eq_false,zE3];intro y hy;rw[<-List.map_take]at hy;obtain⟨z,hz,rfl⟩:=zE1.1 hy;obtain⟨k,hk,rfl⟩:=List.mem_iff_getElem.1 hz;have Of:k<i:=by simp at hk;omega
  have:=Ai k l[k] Of (zA0 A0);rw[zA2,ho];simpa using this
theorem oU (v0 v1 v2 v3 v4:Value)(w:World):
  Calls Tryz.prog 16 #[.agg #[v0,v1,v2,v3,v4]] w fun e w'=>e=.returned v0/\w.grownBy w' none:=by
 have y0:=aE w (.cells #[v0,v1,v2,v3,v4] 39 (0,0)) none;have q0:=aZ w 39 #[v0,v1,v2,v3,v4] 0 _ rfl;go_enter Tryz.func16,Tryz.ntmps16;go_upto_region 1 with fail;generalize w.alloc (.cells #[v0,v1,v2,v3,v4] 39 (0,0))=w1 at *;go_wp2;go_ret;exact⟨rfl,y0⟩
theorem uL (a0:Option Addr)(n0 c0:Nat)(l0:List Int)(v1 v2 v3 v4:Value)(g1 g2:Nat)(a2:Option Addr)(n2 c2:Nat)(l2:List Int)(w:World)
  (h0:aV w a0 n0 l0) (h2:aV w a2 n2 l2) (x1:w.cell? ⟨g1,0,none⟩=some (.func (.func 16) #[] #[])) (x2:w.cell? ⟨g2,0,none⟩=some (.slice a2 n2 c2)):
  Calls Tryz.prog 119 #[.agg #[.slice a0 n0 c0,v1,v2,v3,v4],.pointer (some ⟨g1,0,none⟩),.pointer (some ⟨g2,0,none⟩)] w fun e w'=>e=.returned (.bool (decide (l0=l2)))/\w.grownBy w' none:=by
 have y0:=aE w (.cells #[.slice a0 n0 c0,v1,v2,v3,v4] 39 (0,0)) none;have q0:=aZ w 39 #[.slice a0 n0 c0,v1,v2,v3,v4] 0 _ rfl;have q1:=aZ w 39 #[.slice a0 n0 c0,v1,v2,v3,v4] 1 _ rfl;have q2:=aZ w 39 #[.slice a0 n0 c0,v1,v2,v3,v4] 2 _ rfl;have q3:=aZ w 39 #[.slice a0 n0 c0,v1,v2,v3,v4] 3 _ rfl;have q4:=aZ w 39 #[.slice a0 n0 c0,v1,v2,v3,v4] 4 _ rfl;replace x1:=aB x1 (aA y0);replace x2:=aB x2 (aA y0);replace h0:=h0.below (aA y0);replace h2:=h2.below (aA y0);go_enter Tryz.func119,Tryz.ntmps119;go_upto_region 1 with fail;generalize w.alloc (.cells #[.slice a0 n0 c0,v1,v2,v3,v4] 39 (0,0))=w1 at *;have HN:=oU (.slice a0 n0 c0) v1 v2 v3 v4 w1.drew;have An:(w1.drew.cell? ⟨g1,0,none⟩=some (.func (.func 16) #[] #[])/\w1.drew.cell? ⟨g2,0,none⟩=some (.slice a2 n2 c2)/\w1.drew.cell? ⟨w.heap.size,0,none⟩=some (.slice a0 n0 c0)/\w1.drew.cell? ⟨w.heap.size,1,none⟩=some v1/\w1.drew.cell? ⟨w.heap.size,2,none⟩=some v2/\w1.drew.cell? ⟨w.heap.size,3,none⟩=some v3/\w1.drew.cell? ⟨w.heap.size,4,none⟩=some v4):=⟨x1,x2,q0,q1,q2,q3,q4⟩
 have Cy:∀{wl:World},w1.drew.grownBy wl none->(wl.cell? ⟨g1,0,none⟩=some (.func (.func 16) #[] #[])/\wl.cell? ⟨g2,0,none⟩=some (.slice a2 n2 c2)/\wl.cell? ⟨w.heap.size,0,none⟩=some (.slice a0 n0 c0)/\wl.cell? ⟨w.heap.size,1,none⟩=some v1/\wl.cell? ⟨w.heap.size,2,none⟩=some v2/\wl.cell? ⟨w.heap.size,3,none⟩=some v3/\wl.cell? ⟨w.heap.size,4,none⟩=some v4)/\Calls Tryz.prog 37 #[.slice a0 n0 c0,.slice a2 n2 c2] wl (fun e w'=>e=.returned (.bool (decide (l0=l2)))/\w'=wl):=by
  intro wl hg;have hb:=aA hg;refine⟨⟨aB An.1 hb,aB An.2.1 hb,aB An.2.2.1 hb,aB An.2.2.2.1 hb,aB An.2.2.2.2.1 hb,aB An.2.2.2.2.2.1 hb,aB An.2.2.2.2.2.2 hb⟩, ?_⟩;exact QA103
 clear h0 h2;go_region_held3 (fun wx=>(wx.cell? ⟨g1,0,none⟩=some (.func (.func 16) #[] #[])/\wx.cell? ⟨g2,0,none⟩=some (.slice a2 n2 c2)/\wx.cell? ⟨w.heap.size,0,none⟩=some (.slice a0 n0 c0)/\wx.cell? ⟨w.heap.size,1,none⟩=some v1/\wx.cell? ⟨w.heap.size,2,none⟩=some v2/\wx.cell? ⟨w.heap.size,3,none⟩=some v3/\wx.cell? ⟨w.heap.size,4,none⟩=some v4)) (first|exact An|exact Lv) (first
  | (go_at_call 16;(with_reducible refine HN.mono ?_);rintro e wl ⟨rfl,Fb⟩;obtain⟨Lv,HEl⟩:=Cy Fb)| (go_at_call 37;(with_reducible refine HEl.mono ?_);rintro e w3 ⟨rfl,rfl⟩))
 exact QA118
theorem rY (C:Nat)(caps:Array Value)(a:Option Addr)(n c:Nat)(rs:List (List Fl))(P:Nat->Bool)(Inv Q:Nat->World->Prop)(w:World)
  (H:aA1 true C caps none agg a c 5 rs P Inv Q) (hn:rs.length=n) (h0:Inv 0 w):
  Calls Tryz.prog 62 #[.slice a n c,.func (.func C) #[] caps] w fun e w'=>∃r:Int,e=.returned (.int .i64 r)/\w.grownBy w' none/\((∃j:Nat,r=(j:Int)/\j<n/\P j=true/\∀i,i<j->P i=false)\/(r = -1/\∀i,i<n->P i=false)):=by
 refine M947 ?_;intro Hd HA hC Gh Qq H0;clear H h0;rcases zG0 n with h0|Dq
 .
  subst h0;clear Gh hn;go_enter Tryz.func62,Tryz.ntmps62;exact QA93
 .
  obtain⟨b,off,rfl⟩:=Gh.addr (by rw[hn];exact Dq);clear Gh hn;go_enter Tryz.func62,Tryz.ntmps62;go_wp2_with fail;go_loopw [5,8] (fun _ i wr=>∃j:Nat,j<=n/\i=.int .i64 j/\Hid (∀i,i<j->P i=false)/\Hid (w.grownBy wr none)/\Hid (Inv j wr)) (fun _ i _=>n-(intOf i).toNat)
  case atStart=>exact⟨0,zD1 _,rfl,by show ∀_,_;omega,aP _ _,H0⟩
  case round=>
   obtain⟨j,hj,rfl,Ai,Al,Jw⟩:=hrel;by_cases Ad:j<n
   .
    refine M944 ?_;intro r hr vs Ak Ab HC;have Ah:vs.length=5:=(Ak.len).trans (aA1.each HA.out r (zA3 hr));obtain⟨v0,v1,v2,v3,v4,rfl⟩:∃v0 v1 v2 v3 v4,vs=[v0,v1,v2,v3,v4]:=by
     match vs,Ah with
     | [v0,v1,v2,v3,v4],_=>exact⟨v0,v1,v2,v3,v4,rfl⟩
    clear Ah Ak hr;have q0:wr.cell? ⟨b,off+j*5,none⟩=some v0:=Ab 0 _ rfl;have q1:wr.cell? ⟨b,off+j*5+1,none⟩=some v1:=Ab 1 _ rfl;have q2:wr.cell? ⟨b,off+j*5+2,none⟩=some v2:=Ab 2 _ rfl;have q3:wr.cell? ⟨b,off+j*5+3,none⟩=some v3:=Ab 3 _ rfl;have q4:wr.cell? ⟨b,off+j*5+4,none⟩=some v4:=Ab 4 _ rfl;clear Ab;simp only[agg]at HC;go_wp2_with fail;rw[hC,Oper.upon_enter];refine HC.mono ?_;rintro e w2 ⟨rfl,hg2,hn2,hy2⟩;have Bq:=hid (aC Al.out hg2);have HNx:=hid hn2;clear q0 q1 q2 q3 q4 hg2 HC hn2 hy2;exact QA25
   .
    exact QA116
theorem vY (Yk:Ent 119)(a:Option Addr)(c:Nat)(l:List Oj)(n:Nat)(a2:Option Addr)(n2 c2:Nat)(l2:List Int)(w:World)(hn:l.length=n)
  (h:aW w a c 5 (l.map Oj.fl)) (h2:aV w a2 n2 l2):
  Calls Tryz.prog 68 #[.slice a n c,.func (.func 16) #[] #[],.slice a2 n2 c2] w fun e w'=>e=.returned (.int .i64 (qO (l.findIdx? fun y=>decide (y.name=l2))))/\w.grownBy w' none:=by
 have y0:=aE w (.cells #[.func (.func 16) #[] #[]] 61 (0,0)) none;have x1:=aZ w 61 #[.func (.func 16) #[] #[]] 0 _ rfl;have y1:=aE (w.alloc (.cells #[.func (.func 16) #[] #[]] 61 (0,0))) (.cells #[.slice a2 n2 c2] 22 (0,0)) none;have x2:=aZ (w.alloc (.cells #[.func (.func 16) #[] #[]] 61 (0,0))) 22 #[.slice a2 n2 c2] 0 _ rfl;rw[show(w.alloc (.cells #[.func (.func 16) #[] #[]] 61 (0,0))).heap.size=w.heap.size+1 by simp]at x2;replace x1:=aB x1 (aA y1);have hb:=aA (aC y0 y1);replace h:=h.below hb;replace h2:=h2.below hb;have yy:=aC y0 y1;clear y0 y1;have HC:Calls Tryz.prog 62 #[.slice a n c,.func (.func 119) #[] #[.pointer (some ⟨w.heap.size,0,none⟩),.pointer (some ⟨w.heap.size+1,0,none⟩)]] ((w.alloc (.cells #[.func (.func 16) #[] #[]] 61 (0,0))).alloc (.cells #[.slice a2 n2 c2] 22 (0,0))) fun e w'=>e=.returned (.int .i64 (qO (l.findIdx? fun y=>decide (y.name=l2))))/\((w.alloc (.cells #[.func (.func 16) #[] #[]] 61 (0,0))).alloc (.cells #[.slice a2 n2 c2] 22 (0,0))).grownBy w' none:=by
  generalize ((w.alloc (.cells #[.func (.func 16) #[] #[]] 61 (0,0))).alloc (.cells #[.slice a2 n2 c2] 22 (0,0)))=W at *;refine(rY 119 _ a n c (l.map Oj.fl) (fun j=>decide ((l[j]?.getD ⟨[],[],[],0,[]⟩).name=l2)) (fun _ wr=>Below W.heap.size W wr) (fun _ _=>True) W ⟨Yk,fun j wr hi=>h.below hi, ?_, ?_⟩ A81 (zD2 _ _)).mono ?_
  .
   exact QA108
  .
   intro j r wr vs hr hi Ak _;rw[zA2]at hr;obtain⟨x,hx,rfl⟩:=zF0.1 hr;rw[hx];obtain⟨y0,us,rfl,⟨a0,c0,rfl,Tj,_⟩,y1,us1,rfl,_,y2,us2,rfl,_,y3,us3,rfl,_,y4,us4,rfl,_,rfl⟩:=Ak;refine(uL a0 x.name.length c0 x.name y1 y2 y3 y4 w.heap.size (w.heap.size+1) a2 n2 c2 l2 wr Tj (h2.below hi) (aB x1 hi) (aB x2 hi)).mono ?_;exact QA99
  .
   exact QA31
 clear h h2 hb;go_enter Tryz.func68,Tryz.ntmps68;go_upto_region 1 with fail;generalize ((w.alloc (.cells #[.func (.func 16) #[] #[]] 61 (0,0))).alloc (.cells #[.slice a2 n2 c2] 22 (0,0)))=W at *;exact QA98
theorem aIm {α:Type}(l:List α)(p:α->Bool):decide (0<=qO (l.findIdx? p))=l.any p:=by
 cases h:l.findIdx? p with
 | none=>
  have:=pL h
  symm
  rw[show decide (0<=qO none)=false from rfl,List.any_eq_false];intro x hx;obtain⟨i,hi,rfl⟩:=List.mem_iff_getElem.1 hx;rw[this i l[i] (zA0 hi)];simp
 | some j=>
  obtain⟨x,hx,hp,_⟩:=dZ h
  symm
  rw[show decide (0<=qO (some j))=true from zB3 (Int.natCast_nonneg j),List.any_eq_true];exact⟨x,zA3 hx,hp⟩
theorem aEd (Yk:Ent 119)(a:Option Addr)(c:Nat)(l:List Oj)(n:Nat)(a2:Option Addr)(n2 c2:Nat)(l2:List Int)(w:World)(hn:l.length=n)
  (h:aW w a c 5 (l.map Oj.fl)) (h2:aV w a2 n2 l2):
  Calls Tryz.prog 35 #[.slice a n c,.func (.func 16) #[] #[],.slice a2 n2 c2] w fun e w'=>e=.returned (.bool (l.any fun y=>decide (y.name=l2)))/\w.grownBy w' none:=by
 have HC:=vY Yk a c l n a2 n2 c2 l2 w hn h h2;have HR:Hid (decide (0<=qO (l.findIdx? fun y=>decide (y.name=l2)))=(l.any fun y=>decide (y.name=l2))):=aIm l _;generalize qO (l.findIdx? fun y=>decide (y.name=l2))=r at *;clear h h2 hn;go_enter Tryz.func35,Tryz.ntmps35;go_wp2_with fail;refine HC.mono ?_;rintro e w3 ⟨rfl,hg⟩;go_wp2;go_ret;exact⟨aF HR.out,hg⟩
theorem tA (Yk:Ent 119)(a:Option Addr)(c:Nat)(l:List Oj)(n:Nat)(w:World)(hn:l.length=n)(h:aW w a c 5 (l.map Oj.fl)):
  Calls Tryz.prog 15 #[.slice a n c,.func (.func 16) #[] #[]] w fun e w'=>e=.returned (.bool (lK (l.map Oj.name)))/\w.grownBy w' none:=by
 have Hd:=hid hn;have Qq:n<=9223372036854775807:=by have h1:=h.cap;have h2:=h.most;unfold maxLen at h2;simp only[zB2]at h1;omega
 have Fu:n<=c:=by have h1:=h.cap;simp only[zB2]at h1;omega
 rcases zG0 n with h0|Dq
 .
  subst h0;have e0:=zE0 Hd.out;subst e0;clear h hn;go_enter Tryz.func15,Tryz.ntmps15;go_wp2_with fail;refine zH1 1 ?_;rw[zE2];go_wp2;go_ret;exact⟨aF (by rfl),aP _ _⟩
 .
  obtain⟨b,off,rfl⟩:=h.addr (by simpa using by omega);have HL:=hid h;clear h hn;go_enter Tryz.func15,Tryz.ntmps15;go_wp2_with fail;go_loopw [5,6,9] (fun _ _ i wr=>∃j:Nat,j<=n/\i=.int .i64 j/\Hid (∀i,i<j->aFy (l.map Oj.name) i=true)/\Hid (w.grownBy wr none)) (fun _ _ i _=>n-(intOf i).toNat)
  case atStart=>exact⟨0,zD1 _,rfl,by show ∀_,_;omega,aP _ _⟩
  case round=>
   obtain⟨j,hj,rfl,Ai,Al⟩:=hrel;by_cases Ad:j<n
   .
    obtain⟨x,y0,y1,y2,y3,y4,hxl,Ak,q0,q1,q2,q3,q4⟩:=lQ HL.out Hd.out j Ad;have Gz:Hid ((l.map Oj.name)[j]?.getD []=x.name):=by show _=_;rw[zA2,hxl];rfl
    have Cv:=aA Al.out;obtain⟨a0,c0,a1,c1,a2,c2,a4,c4,rfl,rfl,rfl,rfl,rfl,Fj,_⟩:=kJ Ak;replace q0:=aB q0 Cv;replace q1:=aB q1 Cv;replace q2:=aB q2 Cv;replace q3:=aB q3 Cv;replace q4:=aB q4 Cv;generalize x.ex.length=n1 at *;generalize x.im.length=n2 at *;generalize x.code.length=n4 at *;generalize x.data=d3 at *;clear Ak hxl;have Ug:(l.take j).length=j:=by rw[List.length_take,Hd.out];omega
    have ht:aW w (some ⟨b,off,none⟩) c 5 ((l.take j).map Oj.fl):=by rw[List.map_take];exact aW.take HL.out j
    have HH:∀wl,Below w.heap.size w wl->Calls Tryz.prog 35 #[.slice (some ⟨b,off,none⟩) j c,.func (.func 16) #[] #[],.slice a0 x.name.length c0] wl fun e w'=>e=.returned (.bool ((l.take j).any fun y=>decide (y.name=x.name)))/\wl.grownBy w' none:=by
     intro wl hb;exact aEd Yk (some ⟨b,off,none⟩) c (l.take j) j a0 x.name.length c0 x.name wl Ug (ht.below hb) (Fj.below hb)
    clear ht Ug Fj;have Bq:=aC Al.out (aE wr (.cells #[.slice a0 x.name.length c0,.slice a1 n1 c1,.slice a2 n2 c2,.int .i64 d3,.slice a4 n4 c4] 39 (0,0)) none);have o0:=aZ wr 39 #[.slice a0 x.name.length c0,.slice a1 n1 c1,.slice a2 n2 c2,.int .i64 d3,.slice a4 n4 c4] 0 _ rfl;have o1:=aZ wr 39 #[.slice a0 x.name.length c0,.slice a1 n1 c1,.slice a2 n2 c2,.int .i64 d3,.slice a4 n4 c4] 1 _ rfl;have o2:=aZ wr 39 #[.slice a0 x.name.length c0,.slice a1 n1 c1,.slice a2 n2 c2,.int .i64 d3,.slice a4 n4 c4] 2 _ rfl;have o3:=aZ wr 39 #[.slice a0 x.name.length c0,.slice a1 n1 c1,.slice a2 n2 c2,.int .i64 d3,.slice a4 n4 c4] 3 _ rfl;have o4:=aZ wr 39 #[.slice a0 x.name.length c0,.slice a1 n1 c1,.slice a2 n2 c2,.int .i64 d3,.slice a4 n4 c4] 4 _ rfl;go_upto_region 4 with fail;generalize wr.alloc (.cells #[.slice a0 x.name.length c0,.slice a1 n1 c1,.slice a2 n2 c2,.int .i64 d3,.slice a4 n4 c4] 39 (0,0))=w1 at Bq o0 o1 o2 o3 o4 ⊢;clear q0 q1 q2 q3 q4;have HN:=oU (.slice a0 x.name.length c0) (.slice a1 n1 c1) (.slice a2 n2 c2) (.int .i64 d3) (.slice a4 n4 c4) w1.drew;have An:(w1.drew.cell? ⟨wr.heap.size,0,none⟩=some (.slice a0 x.name.length c0)/\w1.drew.cell? ⟨wr.heap.size,1,none⟩=some (.slice a1 n1 c1)/\w1.drew.cell? ⟨wr.heap.size,2,none⟩=some (.slice a2 n2 c2)/\w1.drew.cell? ⟨wr.heap.size,3,none⟩=some (.int .i64 d3)/\w1.drew.cell? ⟨wr.heap.size,4,none⟩=some (.slice a4 n4 c4)):=⟨o0,o1,o2,o3,o4⟩
    have Cy:∀{wl:World},w1.drew.grownBy wl none->(wl.cell? ⟨wr.heap.size,0,none⟩=some (.slice a0 x.name.length c0)/\wl.cell? ⟨wr.heap.size,1,none⟩=some (.slice a1 n1 c1)/\wl.cell? ⟨wr.heap.size,2,none⟩=some (.slice a2 n2 c2)/\wl.cell? ⟨wr.heap.size,3,none⟩=some (.int .i64 d3)/\wl.cell? ⟨wr.heap.size,4,none⟩=some (.slice a4 n4 c4))/\Calls Tryz.prog 35 #[.slice (some ⟨b,off,none⟩) j c,.func (.func 16) #[] #[],.slice a0 x.name.length c0] wl (fun e w'=>e=.returned (.bool ((l.take j).any fun y=>decide (y.name=x.name)))/\w.grownBy w' none/\(w'.cell? ⟨wr.heap.size,0,none⟩=some (.slice a0 x.name.length c0)/\w'.cell? ⟨wr.heap.size,1,none⟩=some (.slice a1 n1 c1)/\w'.cell? ⟨wr.heap.size,2,none⟩=some (.slice a2 n2 c2)/\w'.cell? ⟨wr.heap.size,3,none⟩=some (.int .i64 d3)/\w'.cell? ⟨wr.heap.size,4,none⟩=some (.slice a4 n4 c4))):=by
     intro wl hg;have hb:=aA hg;have Fb:w.grownBy wl none:=aC Bq ⟨hg.os,hg.tape,hg.output,hg.size,hg.block⟩;refine⟨⟨aB An.1 hb,aB An.2.1 hb,aB An.2.2.1 hb,aB An.2.2.2.1 hb,aB An.2.2.2.2 hb⟩, ?_⟩;refine(HH wl (aA Fb)).mono ?_;rintro e w' ⟨rfl,h⟩;exact⟨rfl,aC Fb h,aB (aB An.1 hb) (aA h),aB (aB An.2.1 hb) (aA h),aB (aB An.2.2.1 hb) (aA h),aB (aB An.2.2.2.1 hb) (aA h),aB (aB An.2.2.2.2 hb) (aA h)⟩
    clear HH Bq o0 o1 o2 o3 o4;have Ho:Hid (aFy (l.map Oj.name) j = !((l.take j).any fun y=>decide (y.name=x.name))):=by
     show _=_
     unfold aFy;rw[Gz.out,<-List.map_take,List.any_map];rfl
    generalize ((l.take j).any fun y=>decide (y.name=x.name))=r at Cy Ho;have z0:(0:Int)<=(j:Int):=A0;have z1:(j:Int)<=(c:Int):=A0;have z2:(j:Int)<=(n:Int):=A0;go_region_held3 (fun wx=>(wx.cell? ⟨wr.heap.size,0,none⟩=some (.slice a0 x.name.length c0)/\wx.cell? ⟨wr.heap.size,1,none⟩=some (.slice a1 n1 c1)/\wx.cell? ⟨wr.heap.size,2,none⟩=some (.slice a2 n2 c2)/\wx.cell? ⟨wr.heap.size,3,none⟩=some (.int .i64 d3)/\wx.cell? ⟨wr.heap.size,4,none⟩=some (.slice a4 n4 c4))) (first|exact An|exact HS3|exact Lv) (first
     | (go_at_call 16;(with_reducible refine HN.mono ?_);rintro e wl ⟨rfl,Fb⟩;obtain⟨Lv,HEl⟩:=Cy Fb)| (go_at_call 35;(with_reducible refine HEl.mono ?_);rintro e w3 ⟨rfl,Bm,HS3⟩))
    have hg3':=hid Bm;clear Bm HN An Cy;cases r with
    | true=>
     go_wp2;go_ret;exact⟨aF (xV (by simpa [Hd.out] using Ad) (by rw[Ho.out];rfl)).symm,hg3'.out⟩
    | false=>
     go_wp2;go_roundw
     case rel=>exact⟨j+1,by omega,by go_num,(show ∀i,i<j+1->aFy (l.map Oj.name) i=true from fun i hi=>(zJ1 i j).elim (fun h=>Ai.out i h) (fun h=>(show j=i by omega) ▸ (by rw[Ho.out];rfl))),hg3'⟩
     case measure=>simp[intOf];omega
   .
    have:j=n:=A0;subst this;go_wp2;go_ret;exact⟨aF (pT fun i hi=>Ai.out i (by simpa [Hd.out] using hi)).symm,Al.out⟩
theorem wH (v0 v1 v2:Value)(w:World):
  Calls Tryz.prog 40 #[.agg #[v0,v1,v2]] w fun e w'=>e=.returned v0/\w.grownBy w' none:=by
 have y0:=aE w (.cells #[v0,v1,v2] 69 (0,0)) none;have q0:=aZ w 69 #[v0,v1,v2] 0 _ rfl;go_enter Tryz.func40,Tryz.ntmps40;go_upto_region 1 with fail;generalize w.alloc (.cells #[v0,v1,v2] 69 (0,0))=w1 at *;go_wp2;go_ret;exact⟨rfl,y0⟩
theorem uM (a0:Option Addr)(n0 c0:Nat)(l0:List Int)(v1 v2:Value)(g1 g2:Nat)(a2:Option Addr)(n2 c2:Nat)(l2:List Int)(w:World)
  (h0:aV w a0 n0 l0) (h2:aV w a2 n2 l2) (x1:w.cell? ⟨g1,0,none⟩=some (.func (.func 40) #[] #[])) (x2:w.cell? ⟨g2,0,none⟩=some (.slice a2 n2 c2)):
  Calls Tryz.prog 71 #[.agg #[.slice a0 n0 c0,v1,v2],.pointer (some ⟨g1,0,none⟩),.pointer (some ⟨g2,0,none⟩)] w fun e w'=>e=.returned (.bool (decide (l0=l2)))/\w.grownBy w' none:=by
 have y0:=aE w (.cells #[.slice a0 n0 c0,v1,v2] 69 (0,0)) none;have q0:=aZ w 69 #[.slice a0 n0 c0,v1,v2] 0 _ rfl;have q1:=aZ w 69 #[.slice a0 n0 c0,v1,v2] 1 _ rfl;have q2:=aZ w 69 #[.slice a0 n0 c0,v1,v2] 2 _ rfl;replace x1:=aB x1 (aA y0);replace x2:=aB x2 (aA y0);replace h0:=h0.below (aA y0);replace h2:=h2.below (aA y0);go_enter Tryz.func71,Tryz.ntmps71;go_upto_region 1 with fail;generalize w.alloc (.cells #[.slice a0 n0 c0,v1,v2] 69 (0,0))=w1 at *;have HN:=wH (.slice a0 n0 c0) v1 v2 w1.drew;have An:(w1.drew.cell? ⟨g1,0,none⟩=some (.func (.func 40) #[] #[])/\w1.drew.cell? ⟨g2,0,none⟩=some (.slice a2 n2 c2)/\w1.drew.cell? ⟨w.heap.size,0,none⟩=some (.slice a0 n0 c0)/\w1.drew.cell? ⟨w.heap.size,1,none⟩=some v1/\w1.drew.cell? ⟨w.heap.size,2,none⟩=some v2):=⟨x1,x2,q0,q1,q2⟩
 have Cy:∀{wl:World},w1.drew.grownBy wl none->(wl.cell? ⟨g1,0,none⟩=some (.func (.func 40) #[] #[])/\wl.cell? ⟨g2,0,none⟩=some (.slice a2 n2 c2)/\wl.cell? ⟨w.heap.size,0,none⟩=some (.slice a0 n0 c0)/\wl.cell? ⟨w.heap.size,1,none⟩=some v1/\wl.cell? ⟨w.heap.size,2,none⟩=some v2)/\Calls Tryz.prog 37 #[.slice a0 n0 c0,.slice a2 n2 c2] wl (fun e w'=>e=.returned (.bool (decide (l0=l2)))/\w'=wl):=by
  intro wl hg;have hb:=aA hg;refine⟨⟨aB An.1 hb,aB An.2.1 hb,aB An.2.2.1 hb,aB An.2.2.2.1 hb,aB An.2.2.2.2 hb⟩, ?_⟩;exact QA103
 clear h0 h2;go_region_held3 (fun wx=>(wx.cell? ⟨g1,0,none⟩=some (.func (.func 40) #[] #[])/\wx.cell? ⟨g2,0,none⟩=some (.slice a2 n2 c2)/\wx.cell? ⟨w.heap.size,0,none⟩=some (.slice a0 n0 c0)/\wx.cell? ⟨w.heap.size,1,none⟩=some v1/\wx.cell? ⟨w.heap.size,2,none⟩=some v2)) (first|exact An|exact Lv) (first
  | (go_at_call 40;(with_reducible refine HN.mono ?_);rintro e wl ⟨rfl,Fb⟩;obtain⟨Lv,HEl⟩:=Cy Fb)| (go_at_call 37;(with_reducible refine HEl.mono ?_);rintro e w3 ⟨rfl,rfl⟩))
 exact QA118
theorem rZ (C:Nat)(caps:Array Value)(a:Option Addr)(n c:Nat)(rs:List (List Fl))(P:Nat->Bool)(Inv Q:Nat->World->Prop)(w:World)
  (H:aA1 true C caps none agg a c 3 rs P Inv Q) (hn:rs.length=n) (h0:Inv 0 w):
  Calls Tryz.prog 70 #[.slice a n c,.func (.func C) #[] caps] w fun e w'=>∃r:Int,e=.returned (.int .i64 r)/\w.grownBy w' none/\((∃j:Nat,r=(j:Int)/\j<n/\P j=true/\∀i,i<j->P i=false)\/(r = -1/\∀i,i<n->P i=false)):=by
 refine M947 ?_;intro Hd HA hC Gh Qq H0;clear H h0;rcases zG0 n with h0|Dq
 .
  subst h0;clear Gh hn;go_enter Tryz.func70,Tryz.ntmps70;exact QA93
 .
  obtain⟨b,off,rfl⟩:=Gh.addr (by rw[hn];exact Dq);clear Gh hn;go_enter Tryz.func70,Tryz.ntmps70;go_wp2_with fail;go_loopw [5,8] (fun _ i wr=>∃j:Nat,j<=n/\i=.int .i64 j/\Hid (∀i,i<j->P i=false)/\Hid (w.grownBy wr none)/\Hid (Inv j wr)) (fun _ i _=>n-(intOf i).toNat)
  case atStart=>exact⟨0,zD1 _,rfl,by show ∀_,_;omega,aP _ _,H0⟩
  case round=>
   obtain⟨j,hj,rfl,Ai,Al,Jw⟩:=hrel;by_cases Ad:j<n
   .
    refine M944 ?_;intro r hr vs Ak Ab HC;have Ah:vs.length=3:=(Ak.len).trans (aA1.each HA.out r (zA3 hr));obtain⟨v0,v1,v2,rfl⟩:∃v0 v1 v2,vs=[v0,v1,v2]:=by
     match vs,Ah with
     | [v0,v1,v2],_=>exact⟨v0,v1,v2,rfl⟩
    clear Ah Ak hr;have q0:wr.cell? ⟨b,off+j*3,none⟩=some v0:=Ab 0 _ rfl;have q1:wr.cell? ⟨b,off+j*3+1,none⟩=some v1:=Ab 1 _ rfl;have q2:wr.cell? ⟨b,off+j*3+2,none⟩=some v2:=Ab 2 _ rfl;clear Ab;simp only[agg]at HC;go_wp2_with fail;rw[hC,Oper.upon_enter];refine HC.mono ?_;rintro e w2 ⟨rfl,hg2,hn2,hy2⟩;have Bq:=hid (aC Al.out hg2);have HNx:=hid hn2;clear q0 q1 q2 hg2 HC hn2 hy2;exact QA25
   .
    exact QA116
theorem vZ (Yk:Ent 71)(a:Option Addr)(c:Nat)(l:List Xp)(n:Nat)(a2:Option Addr)(n2 c2:Nat)(l2:List Int)(w:World)(hn:l.length=n)
  (h:aW w a c 3 (l.map Xp.fl)) (h2:aV w a2 n2 l2):
  Calls Tryz.prog 39 #[.slice a n c,.func (.func 40) #[] #[],.slice a2 n2 c2] w fun e w'=>e=.returned (.int .i64 (qO (l.findIdx? fun y=>decide (y.name=l2))))/\w.grownBy w' none:=by
 have y0:=aE w (.cells #[.func (.func 40) #[] #[]] 104 (0,0)) none;have x1:=aZ w 104 #[.func (.func 40) #[] #[]] 0 _ rfl;have y1:=aE (w.alloc (.cells #[.func (.func 40) #[] #[]] 104 (0,0))) (.cells #[.slice a2 n2 c2] 22 (0,0)) none;have x2:=aZ (w.alloc (.cells #[.func (.func 40) #[] #[]] 104 (0,0))) 22 #[.slice a2 n2 c2] 0 _ rfl;rw[show(w.alloc (.cells #[.func (.func 40) #[] #[]] 104 (0,0))).heap.size=w.heap.size+1 by simp]at x2;replace x1:=aB x1 (aA y1);have hb:=aA (aC y0 y1);replace h:=h.below hb;replace h2:=h2.below hb;have yy:=aC y0 y1;clear y0 y1;have HC:Calls Tryz.prog 70 #[.slice a n c,.func (.func 71) #[] #[.pointer (some ⟨w.heap.size,0,none⟩),.pointer (some ⟨w.heap.size+1,0,none⟩)]] ((w.alloc (.cells #[.func (.func 40) #[] #[]] 104 (0,0))).alloc (.cells #[.slice a2 n2 c2] 22 (0,0))) fun e w'=>e=.returned (.int .i64 (qO (l.findIdx? fun y=>decide (y.name=l2))))/\((w.alloc (.cells #[.func (.func 40) #[] #[]] 104 (0,0))).alloc (.cells #[.slice a2 n2 c2] 22 (0,0))).grownBy w' none:=by
  generalize ((w.alloc (.cells #[.func (.func 40) #[] #[]] 104 (0,0))).alloc (.cells #[.slice a2 n2 c2] 22 (0,0)))=W at *;refine(rZ 71 _ a n c (l.map Xp.fl) (fun j=>decide ((l[j]?.getD ⟨[],0,0⟩).name=l2)) (fun _ wr=>Below W.heap.size W wr) (fun _ _=>True) W ⟨Yk,fun j wr hi=>h.below hi, ?_, ?_⟩ A81 (zD2 _ _)).mono ?_
  .
   exact QA108
  .
   intro j r wr vs hr hi Ak _;rw[zA2]at hr;obtain⟨x,hx,rfl⟩:=zF0.1 hr;rw[hx];obtain⟨y0,us,rfl,⟨a0,c0,rfl,Tj,_⟩,y1,us1,rfl,_,y2,us2,rfl,_,rfl⟩:=Ak;refine(uM a0 x.name.length c0 x.name y1 y2 w.heap.size (w.heap.size+1) a2 n2 c2 l2 wr Tj (h2.below hi) (aB x1 hi) (aB x2 hi)).mono ?_;exact QA99
  .
   exact QA31
 clear h h2 hb;go_enter Tryz.func39,Tryz.ntmps39;go_upto_region 1 with fail;generalize ((w.alloc (.cells #[.func (.func 40) #[] #[]] 104 (0,0))).alloc (.cells #[.slice a2 n2 c2] 22 (0,0)))=W at *;exact QA98
theorem aVl:Ent 71:=qV Tryz.func71 A1 rfl
theorem aVm:Ent 119:=qV Tryz.func119 A1 rfl
theorem nF (o:Oj)(v0 v1 v2 v3 v4:Value)(w:World)(h:aL w o.fl [v0,v1,v2,v3,v4])(hu:∀(i:Nat) (y:Xp),o.ex[i]?=some y->∀(j:Nat) (z:Xp),j<i->o.ex[j]?=some z->z.name ≠ y.name)(a:Option Addr)(k c:Nat)(x:List Int)(hx:aV w a k x)(p:Int):
  Calls Tryz.prog 18 #[.agg #[v0,v1,v2,v3,v4],.slice a k c,.int .i64 p] w fun e w'=>e=.returned (.int .i64 (qO (gQ o x p)))/\w.grownBy w' none:=by
 obtain⟨a0,c0,a1,c1,a2,c2,a4,c4,rfl,rfl,rfl,rfl,rfl,_,hL,_⟩:=kJ h;have Df:=hL.len9;rw[zB2]at Df;obtain⟨n,hN⟩:=zx (o.ex.length);have HN:=hid hN.symm;rw[<-hN]at Df ⊢;have HL:=hid hL;have HF:=hid (sG hu x p);generalize o.name.length=n0 at *;generalize o.im.length=n2 at *;generalize o.code.length=n4 at *;generalize o.data=d3 at *;have x0:=Blk.new w 39 [.slice a0 n0 c0,.slice a1 n c1,.slice a2 n2 c2,.int .i64 d3,.slice a4 n4 c4];have y0:=aE w (.cells #[.slice a0 n0 c0,.slice a1 n c1,.slice a2 n2 c2,.int .i64 d3,.slice a4 n4 c4] 39 (0,0)) none;simp only[List.toArray]at x0;clear h hL hN hu;go_enter Tryz.func18,Tryz.ntmps18;go_upto_region 1 with fail;generalize w.alloc (.cells #[.slice a0 n0 c0,.slice a1 n c1,.slice a2 n2 c2,.int .i64 d3,.slice a4 n4 c4] 39 (0,0))=w1 at *;have q1:=x0.k 1;have H1:=vZ aVl a1 c1 o.ex n a k c x w1 HN.out (aW.below HL.out (aA y0)) (hx.below (aA y0));obtain⟨fo,hfo⟩:=zx (aH5 o x);have HFO:=hid hfo.symm;rw[show(o.ex.findIdx? fun y=>decide (y.name=x))=fo from hfo.symm]at H1;rw[HFO.out]at HF;clear hx hfo;go_wp2_with fail;refine H1.mono ?_;rintro e w2 ⟨rfl,hg2⟩;have hg:=hid (aC y0 hg2);have q1':=aB q1 (aA hg2);clear H1 q1 x0 hg2;cases fo with
 | none=>
  simp only[qO];have Ke:=hid HF.out;clear HF y0;exact QA85
 | some j=>
  obtain⟨y,hy,_,_⟩:=dZ HFO.out;obtain⟨be,oe,am,cm,rfl,⟨r0,r1,r2⟩,_⟩:=aAc HL.out hy;have s1:=aB r1 (aA hg.out);have Mz:j<n:=by have:=(zC1.1 hy).1;rw[HN.out]at this;exact this
  have hj1:(j:Int)<(n:Int):=A0;have hj0:¬((j:Int)<0):=A0;simp only[qO];by_cases hp:y.print=p
  .
   have hpb:(y.print != p)=false:=by simp[hp]
   have Ke:Hid (gQ o x p=some j):=by
    show _=_
    rw[HF.out];simp only[hy,Option.map_some,zI0];rw[if_pos hp]
   clear HF y0 hp hy r0 r1 r2;exact QA85
  .
   have hpb:(y.print != p)=true:=by simp[hp]
   have Ke:Hid (gQ o x p=none):=by
    show _=_
    rw[HF.out];simp only[hy,Option.map_some,zI0];rw[if_neg hp]
   clear HF y0 hp hy r0 r1 r2;exact QA85
end Go.Proofs.YtcbhdhmhidpdgaaGreatDoor
namespace Go.Proofs.YtcbhdhmhidpdgaaGreatDoor
open Go.RowKit Go.Shelf
set_option linter.unusedVariables false
set_option linter.unusedSimpArgs false
set_option maxRecDepth 100000
theorem A59{p:Prop}(h:p:=by rw[zB2,HN.out];omega):p:=h
variable{l:List Oj}{j n0:Nat}{W W' w0:World}
attribute [local go_sem] Oper.semAt_some
structure Kt (n0:Nat) (W W':World):Prop where
 os:W'.os=W.os
 tape:W'.tape=W.tape
 output:W'.output=W.output
 size:W.heap.size<=W'.heap.size
 low:∀k,k<n0->W'.heap[k]?=W.heap[k]?
 own:∀(k:Nat) (c:Array Value) (T:TypeId) (f:Nat × Nat),W.heap[k]?=some (Obj.cells c T f)->(T=39\/T=42\/T=23)->W'.heap[k]?=W.heap[k]?
theorem Kt.refl (n0:Nat)(W:World):Kt n0 W W:=⟨rfl,rfl,rfl,zB0 _,fun _ _=>rfl,fun _ _ _ _ _ _=>rfl⟩
theorem Kt.trans {n0:Nat}{A B C:World}(h:Kt n0 A B)(k:Kt n0 B C):Kt n0 A C:=
 ⟨k.os.trans h.os,k.tape.trans h.tape,k.output.trans h.output,zF2 h.size k.size,fun i hi=>(k.low i hi).trans (h.low i hi),fun i c T f hc hT=>(k.own i c T f ((h.own i c T f hc hT).trans hc) hT).trans (h.own i c T f hc hT)⟩
theorem Kt.grown{A B:World}(h:A.grownBy B none)(hn:n0<=A.heap.size):Kt n0 A B:=
 ⟨h.os,h.tape,h.output,h.size,fun k hk=>h.block k A0 A8,fun k c T f hc _=>h.block k (zI3.1 hc).1 A8⟩
theorem Kt.below(hb:Below w0.heap.size w0 W)(h:Kt n0 W W')(h0:w0.heap.size<=n0):Below w0.heap.size w0 W':=
 ⟨h.os.trans hb.os,h.tape.trans hb.tape,h.output.trans hb.output,zF2 hb.size h.size,fun k hk=>(h.low k A0).trans (hb.block k hk)⟩
theorem Kt.blk{g T:Nat}{vs:List Value}(h:Kt n0 W W')(hb:Blk W g T vs)(hT:T=39\/T=42\/T=23):Blk W' g T vs:=(h.own g _ T _ hb hT).trans hb
structure IrR (w0:World) (nb:Nat) where
 own:Nat
 lt:own<nb
 ip:Ip
 am:Option Addr
 cm:Nat
 an:Option Addr
 cn:Nat
 hm:aV w0 am ip.mod.length ip.mod
 hn:aV w0 an ip.name.length ip.name
def IrR.enc {w0:World}{nb:Nat}(x:IrR w0 nb):Array Value:=#[.int .i64 x.own,.agg #[.slice x.am x.ip.mod.length x.cm,.slice x.an x.ip.name.length x.cn,.int .i64 x.ip.print]]
def IrR.key {w0:World}{nb:Nat}(x:IrR w0 nb):Nat × Ip:=(x.own,x.ip)
def dP (l:List Oj)(j:Nat):List (Nat × Ip):=(mG l j).im.map fun i=>(j,i)
def cE (l:List Oj):Nat->List (Nat × Ip)
 | 0=>[]| j+1=>cE l j++dP l j
theorem tU (l:List Oj){j n:Nat}(h:j<=n):cE l j <+:cE l n:=by
 induction n with
 | zero=>rw[show j=0 by omega];exact List.prefix_refl _
 | succ n ih=>
  by_cases e:j=n+1
  .
   rw[e];exact List.prefix_refl _
  .
   exact(ih A0).trans (List.prefix_append _ _)
structure Yi (w0:World) (nb ly n0 N:Nat) (J Jx:List (IrR w0 nb)->World->Prop):Prop where
 hJ:∀s A C,J s A->A.grownBy C none->J s C
 hY:∀m pre x W,J pre W->pre.length<N->YieldAt Fence.wide m Tryz.prog ly (IrR.enc x) W fun e W'=>(e=.returned (.bool true)/\J (pre++[x]) W'/\Kt n0 W W')\/(e=.returned (.bool false)/\Jx (pre++[x]) W')
theorem aBa{k:Nat}{o:Oj}{i:Ip}(ho:l[j]?=some o)(hi:o.im[k]?=some i):(dP l j).take (k+1)=(dP l j).take k++[(j,i)]:=by
 have e:(dP l j)[k]?=some (j,i):=by
  unfold dP;rw[cA ho,zA2,hi];rfl
 obtain⟨hk,Eb⟩:=zC1.1 e;rw[zF1 hk,Eb]
theorem aDb{n:Nat}{o:Oj}(ho:l[j]?=some o)(hn:o.im.length=n):(dP l j).take n=dP l j:=zD3 (by unfold dP;rw[cA ho,zB2,hn];exact zB0 _)
structure Se {w0:World} {nb:Nat} (n0 gB:Nat) (bv:Value) (J:List (IrR w0 nb)->World->Prop) (ms:List (Nat × Ip)) (W:World):Prop where
 ex:∃xs:List (IrR w0 nb),xs.map IrR.key=ms/\J xs W
 b:Below w0.heap.size w0 W
 box:Blk W gB 23 [bv]
 sz:n0<=W.heap.size
theorem Se.step{nb gB:Nat}{bv:Value}{J:List (IrR w0 nb)->World->Prop}{ms:List (Nat × Ip)}(h:Se n0 gB bv J ms W)(hJ:∀s A C,J s A->A.grownBy C none->J s C)(hg:W.grownBy W' none):Se n0 gB bv J ms W':=by
 obtain⟨xs,e,hj⟩:=h.ex;exact⟨⟨xs,e,hJ _ _ _ hj hg⟩,h.b.trans ((aA hg).mono h.b.size),h.box.below (aA hg) h.box.lt,zF2 h.sz hg.size⟩
set_option maxHeartbeats 8000000 in
theorem aBt (w0 w:World)(m n0 gB:Nat)(l:List Oj)(a:Option Addr)(n c:Nat)(hL:aW w0 a c 5 (l.map Oj.fl))(hn:l.length=n)(hb:Below w0.heap.size w0 w)(h0:w0.heap.size<=n0)(hn0:n0<=w.heap.size)(Te:Blk w gB 23 [.slice a n c]):
  SeqStopsK Fence.wide m Tryz.prog 69 #[.pointer (some ⟨gB,0,none⟩)] (fun x:IrR w0 n=>x.enc) (Kt n0) (fun xs=>xs.map IrR.key=cE l n) (fun xs=>xs.map IrR.key <+:cE l n) (cE l n).length w:=by
 intro ly J Jx W hW hJ hJx hY hI;have hyi:Hid (Yi w0 n ly n0 (cE l n).length J Jx):=⟨fun s A C h hg=>hJ s A C none h hg (fun r e=>by cases e),fun m' pre x W1 h1 h2=>by
   obtain⟨fn,tmps,assign,bdy,hy,hR⟩:=hY pre x W1 h1 h2;exact⟨fn,tmps,assign,bdy,hy,hR.1,fun c cs _=>hR.2 c cs (room_wide _)⟩⟩
 have S0:Hid (Se n0 gB (.slice a n c) J (cE l 0) W):=⟨⟨[],rfl,hI⟩,hb.trans (hW.mono hb.size),Te.below hW Te.lt,zF2 hn0 hW.size⟩
 have Df:=hL.len9;rw[zB2,hn]at Df;have HN:=hid hn;have HL:=hid hL;clear hY hI hJ hJx hb hn hL Te hW hn0;refine(callsIn_wide (n:=m)).2 ((callsIn_wide (n:=0)).1 ?_);refine callsIn_of_wp Tryz.func69 rfl trivial ?_ rfl;simp only[Tryz.ntmps69,List.size_toArray,zB1,zC3,Nat.reduceAdd,Nat.reduceSub,Array.replicate_succ,Array.replicate_zero,List.push_toArray,List.append_toArray,List.nil_append,List.cons_append];refine wpIn_wide.2 (wp_scope_straight ((wpIn_wide (n:=0)).1 ?_));gi_wp2_with fail;refine wpIn_label ?_;have cB:=S0.out.box.k 0;gi_wp2_with fail;gi_loopw [3,4,6,9] (fun _ _ _ i wr=>∃j:Nat,j<=n/\i=.int .i64 j/\Hid (Se n0 gB (.slice a n c) J (cE l j) wr)) (fun _ _ _ i _=>n-(intOf i).toNat)
 case atStart=>exact⟨0,zD1 _,rfl,S0⟩
 case round=>
  obtain⟨j,hj,rfl,hst⟩:=hrel;clear S0 cB;have st:=hst.out;clear hst;by_cases Ad:j<n
  .
   obtain⟨b,off,rfl⟩:=aW.addr HL.out A59;obtain⟨o,v0,v1,v2,v3,v4,ho,hv,c0,c1,c2,c3,c4⟩:=lQ HL.out HN.out j Ad;have b0:=aB c0 st.b;have b1:=aB c1 st.b;have b2:=aB c2 st.b;have b3:=aB c3 st.b;have b4:=aB c4 st.b;obtain⟨a0,e0,a1,e1,a2,e2,a4,e4,rfl,rfl,rfl,rfl,rfl,_,_,Av,_⟩:=kJ hv;have HO:=hid ho;have HI2:=hid Av;have hn29:=Av.len9;rw[zB2]at hn29;obtain⟨n2,hn2⟩:=zx (o.im.length);have Nr:=hid hn2.symm;rw[<-hn2]at b2 hn29;generalize o.name.length=n0' at *;generalize o.ex.length=n1 at *;generalize o.code.length=n4 at *;generalize o.data=d3 at *;have Gs:(j:Int)<(n:Int):=A0;have hNle:Hid ((cE l j).length+n2<=(cE l n).length):=by
    show _<=_
    have:=(tU l (show j+1<=n by omega)).length_le;rw[show cE l (j+1)=cE l j++dP l j from rfl,zA1]at this;have e:(dP l j).length=n2:=by unfold dP;rw[cA HO.out,zB2,Nr.out]
    omega
   have yO:=aE wr (.cells #[.slice a0 n0' e0,.slice a1 n1 e1,.slice a2 n2 e2,.int .i64 d3,.slice a4 n4 e4] 39 (0,0)) none;have oB:=Blk.new wr 39 [.slice a0 n0' e0,.slice a1 n1 e1,.slice a2 n2 e2,.int .i64 d3,.slice a4 n4 e4];have st1:=st.step hyi.out.hJ yO;simp only[List.toArray]at oB;clear c0 c1 c2 c3 c4 ho hv Av hn2 st yO;gi_upto_region 3 with fail
   generalize wr.alloc (.cells #[.slice a0 n0' e0,.slice a1 n1 e1,.slice a2 n2 e2,.int .i64 d3,.slice a4 n4 e4] 39 (0,0))=w1 at *;generalize wr.heap.size=gO at *;clear b0 b1 b2 b3 b4;have oc2:=oB.k 2;have HI0:Hid (Se n0 gB (.slice (some ⟨b,off,none⟩) n c) J (cE l j++(dP l j).take 0) w1/\Blk w1 gO 39 [.slice a0 n0' e0,.slice a1 n1 e1,.slice a2 n2 e2,.int .i64 d3,.slice a4 n4 e4]):=⟨by rw[List.take_zero,List.append_nil];exact st1,oB⟩
   clear st1 oB;gi_wp2_with fail;gi_loopw [6,17] (fun _ i wr=>∃k:Nat,k<=n2/\i=.int .i64 k/\Hid (Se n0 gB (.slice (some ⟨b,off,none⟩) n c) J (cE l j++(dP l j).take k) wr/\Blk wr gO 39 [.slice a0 n0' e0,.slice a1 n1 e1,.slice a2 n2 e2,.int .i64 d3,.slice a4 n4 e4])) (fun _ i _=>n2-(intOf i).toNat)
   case atStart=>exact⟨0,zD1 _,rfl,HI0⟩
   case round=>
    obtain⟨k,hk,rfl,hst⟩:=hrel;clear HI0 oc2;obtain⟨st,oB⟩:=hst.out;clear hst;by_cases Lc:k<n2
    .
     obtain⟨i,Wl⟩:∃i,o.im[k]?=some i:=⟨_,zA0 (by rw[Nr.out];exact Lc)⟩
     obtain⟨bi,ofi,am,cm,an,cn,rfl,⟨r0,r1,r2⟩,hBm,Hv⟩:=aHp HI2.out Wl;have s0:=aB r0 st.b;have s1:=aB r1 st.b;have s2:=aB r2 st.b;have Ld:(k:Int)<(n2:Int):=A0;have HPN:=hid (aBa HO.out Wl);obtain⟨x,hxk,Gx⟩:∃x:IrR w0 n,x.key=(j,i)/\x.enc=#[.int .i64 j,.agg #[.slice am i.mod.length cm,.slice an i.name.length cn,.int .i64 i.print]]:=⟨⟨j,Ad,i,am,cm,an,cn,hBm,Hv⟩,rfl,rfl⟩
     have HXK:=hid hxk;generalize i.mod.length=nm at *;generalize i.name.length=nn at *;have yI:=aE wr (.cells #[.slice am nm cm,.slice an nn cn,.int .i64 i.print] 42 (0,0)) none;have iB:=Blk.new wr 42 [.slice am nm cm,.slice an nn cn,.int .i64 i.print];have st2:=st.step hyi.out.hJ yI;have oB2:=oB.below (aA yI) oB.lt;simp only[List.toArray]at iB;clear r0 r1 r2 Wl hBm Hv st oB yI hxk;gi_upto_region 6 with fail
     generalize wr.alloc (.cells #[.slice am nm cm,.slice an nn cn,.int .i64 i.print] 42 (0,0))=w2 at *;generalize wr.heap.size=gI at *;clear s0 s1 s2;obtain⟨i0,i1,i2⟩:=iB.c3;obtain⟨xs,hxs,Vf⟩:=st2.ex;have hlx:xs.length<(cE l n).length:=by
      have e1:xs.length=(cE l j++(dP l j).take k).length:=by rw[<-hxs,zB2]
      have e2:=hNle.out;rw[zA1,List.length_take]at e1;omega
     have HY:=hyi.out.hY 0 xs x w2 Vf hlx;rw[Gx]at HY;obtain⟨fn,tmps,assign,bdy,hyl,hR⟩:=HY;have HT:Hid (∀W3,J (xs++[x]) W3->Kt n0 w2 W3->Se n0 gB (.slice (some ⟨b,off,none⟩) n c) J (cE l j++(dP l j).take (k+1)) W3/\Blk W3 gO 39 [.slice a0 n0' e0,.slice a1 n1 e1,.slice (some ⟨bi,ofi,none⟩) n2 e2,.int .i64 d3,.slice a4 n4 e4]):=by
      intro W3 hJ3 Qm;refine⟨⟨⟨xs++[x], ?_,hJ3⟩,Kt.below st2.b Qm h0,Qm.blk st2.box (.inr (.inr rfl)),zF2 st2.sz Qm.size⟩,Qm.blk oB2 (.inl rfl)⟩;rw[List.map_append,hxs,HPN.out,<-zD0,List.map_singleton,HXK.out]
     have HF:Hid (∀W3,Jx (xs++[x]) W3->∃pre,pre.map IrR.key <+:cE l n/\Jx pre W3):=by
      intro W3 hJ3;refine⟨xs++[x], ?_,hJ3⟩;rw[List.map_append,hxs,List.map_singleton,HXK.out,zD0,<-HPN.out];exact((List.prefix_append_right_inj _).2 (List.take_prefix _ _)).trans (tU l (show j+1<=n by omega))
     clear Vf hxs hlx st2 oB2 iB Gx HPN;gi_wp2_with (refine⟨rfl, ?_⟩;refine hR.mono ?_;rintro e w3 (⟨rfl,hJ3,Qm⟩|⟨rfl,hJx3⟩))
     .
      have H9:=hid (HT.out w3 hJ3 Qm);clear HT HF hR hyl hJ3 Qm i0 i1 i2;gi_wp2_with fail;go_roundw
      case rel=>exact⟨k+1,by omega,by go_num,H9⟩
      case measure=>simp[intOf];omega
     .
      have H9:=hid (HF.out w3 hJx3);clear HT HF hR hyl hJx3 i0 i1 i2;gi_wp2_with fail;dsimp only [Exit.noGoto];exact bodyPost_end (results_none rfl _ _ _) rfl ⟨⟨_,rfl⟩,.inr H9.out⟩
    .
     have:n2=k:=A0;subst this;rw[aDb HO.out Nr.out]at st;have H9:=hid st;clear st oB;gi_wp2_with fail;go_roundw
     case rel=>exact⟨j+1,by omega,by go_num,H9⟩
     case measure=>simp[intOf];omega
  .
   have:n=j:=A0;subst this;obtain⟨xs,hxs,Vf⟩:=st.ex;have H9:Hid (∃xs,xs.map IrR.key=cE l n/\J xs wr):=⟨xs,hxs,Vf⟩
   clear st hxs Vf;gi_wp2_with fail;dsimp only [Exit.noGoto];exact bodyPost_end (results_none rfl _ _ _) rfl ⟨⟨_,rfl⟩,.inl H9.out⟩
end Go.Proofs.YtcbhdhmhidpdgaaGreatDoor
namespace Go.Proofs.YtcbhdhmhidpdgaaGreatDoor
open Go.RowKit Go.Shelf
set_option linter.unusedVariables false
set_option linter.unusedSimpArgs false
set_option maxRecDepth 100000
theorem A62{p:Prop}(h:p:=by show w.heap.size<=w.heap.size+1+1;omega):p:=h
theorem A65{p:Prop}(h:p:=by show w.heap.size<=w.heap.size+1;omega):p:=h
variable{i:Ip}{l:List Oj}{c m x:Nat}{a:Option Addr}{A C W w:World}
attribute [local go_sem] Oper.semAt_some
theorem aBu (a:Option Addr)(n c:Nat)(w:World):
  Calls Tryz.prog 36 #[.slice a n c] w fun e w'=>e=.returned (.func (.func 69) #[] #[.pointer (some ⟨w.heap.size,0,none⟩)])/\w'=w.alloc (.cells #[.slice a n c] 23 (0,0)):=by
 have hmf:∀(fn:Fn) (first cap:Array Value) (w:World),(Instr.makeFunc fn first cap).run Tryz.prog w=.ok (.func fn first cap) w:=fun _ _ _ _=>rfl;go_enter Tryz.func36,Tryz.ntmps36;go_wp2;go_ret;exact⟨rfl,rfl⟩
theorem aU1{n0:Nat}(hn:n0<=w.heap.size)(W:World)(l:Nat)(o o':Obj)(hl:w.heap.size<=l)(h:W.heap[l]?=some o)(hc:o.isCells=false)(_:o.isWalk=false):Kt n0 W (W.putObj l o'):=by
 have hg:=grownBy_putObj' W l o';refine⟨hg.os,hg.tape,hg.output,hg.size,fun k hk=>?_,fun k c T f hk _=>?_⟩
 .
  have Dv:=(zI3.1 h).1;exact hg.block k A0 A10
 .
  refine hg.block k (zI3.1 hk).1 (by
   simp only[ne_eq,zG2];intro e;subst e;rw[hk]at h;cases h;cases hc)
theorem gT{row:Option Nat}{g:Nat}{T:TypeId}{vs:List Value}(h:Blk A g T vs)(hg:A.grownBy C row)(hr:∀r,row=some r->∃o:Obj,A.heap[r]?=some o/\o.isCells=false):Blk C g T vs:=
 (hg.block g h.lt (fun e=>by
  obtain⟨o,ho,hc⟩:=hr g e.symm;have h':A.heap[g]?=_:=h;rw[h']at ho;cases ho;cases hc)).trans h
theorem aC0{row:Option Nat}{T k base n:Nat}{v:Value}{xs:List Value}(h:A.ownsRow base T k v n xs)(hg:A.grownBy C row)(hr:∀r,row=some r->∃o:Obj,A.heap[r]?=some o/\o.isCells=false):C.ownsRow base T k v n xs:=
 bT h fun g hv=>hg.block g (h.lt g hv).2 (fun e=>by
  obtain⟨o,ho,hc⟩:=hr g e.symm;obtain⟨cur,h'⟩:=eI h hv;rw[h']at ho;cases ho;cases hc)
def aT (l:List Oj):Nat->List Wo
 | 0=>[]| j+1=>aT l j++fM l j
def pG (l:List Oj)(x:Nat × Ip):Option Wo:=aD8 (l.take x.1) x.2
theorem oY{α β:Type}(f:α->Option β):∀(a b:List α) (ws:List β),(a++b).map f=ws.map some->∃u v,ws=u++v/\a.map f=u.map some/\b.map f=v.map some:=by
 intro a;induction a with
 | nil=>intro b ws h;exact⟨[],ws,rfl,rfl,by simpa using h⟩
 | cons x a ih=>
  intro b ws h;cases ws with
  | nil=>simp at h| cons y ws=>
   simp only[List.cons_append,zH2,zJ2]at h;obtain⟨u,v,rfl,h1,h2⟩:=ih b ws h.2;exact⟨y :: u,v,rfl,by simp[h.1,h1],h2⟩
theorem aBb (l:List Oj):∀(n:Nat) (ws:List Wo),(cE l n).map (pG l)=ws.map some->jM l n/\ws=aT l n:=by
 intro n;induction n with
 | zero=>
  intro ws h;simp only[cE,List.map_nil]at h;exact⟨fun j hj=>by omega,by cases ws with|nil=>rfl|cons x l=>simp at h⟩
 | succ n ih=>
  intro ws h;obtain⟨u,v,rfl,h1,h2⟩:=oY (pG l) (cE l n) (dP l n) ws h;obtain⟨g1,e1⟩:=ih u h1;have h3:∀(is:List Ip) (v:List Wo),(is.map fun i=>(n,i)).map (pG l)=v.map some->(∀i ∈ is,aD8 (l.take n) i ≠ none)/\v=is.map fun i=>(aD8 (l.take n) i).getD dC:=by
   intro is;induction is with
   | nil=>intro v hv;exact⟨by simp,by cases v with|nil=>rfl|cons x l=>simp at hv⟩
   | cons i is ih2=>
    intro v hv;cases v with
    | nil=>simp at hv| cons y v=>
     simp only[zH2,zJ2]at hv;obtain⟨p1,p2⟩:=ih2 v hv.2;have hi:aD8 (l.take n) i=some y:=hv.1;refine⟨fun z hz=>?_,by simp[hi,p2]⟩;rcases zG3.1 hz with rfl|hz
     .
      rw[hi];simp
     .
      exact p1 z hz
  obtain⟨g2,e2⟩:=h3 (mG l n).im v h2;refine⟨fun j hj i hi=>?_,by rw[e1,e2];rfl⟩;by_cases e:j=n
  .
   subst e;exact g2 i hi
  .
   exact g1 j A0 i hi
theorem aDa{n:Nat}{x:Nat × Ip}(hx:x ∈ cE l n)(h:pG l x=none):¬jM l n:=by
 intro hg;induction n with
 | zero=>simp[cE]at hx| succ n ih=>
  rw[cE,List.mem_append]at hx;rcases hx with hx|hx
  .
   exact ih hx fun j hj=>hg j A0
  .
   obtain⟨i,hi,rfl⟩:=zE1.1 hx;exact hg n A0 i hi h
theorem aHo{own:Nat}{o:Oj}(hu:aCo l)(hm:m<own)(ho:l[m]?=some o)(hn:o.name=i.mod)(hx:gQ o i.name i.print=some x):aD8 (l.take own) i=some (aEv m x):=by
 have hf:sH (l.take own) i.mod=some m:=by
  refine kR (x:=o) (by rw[List.getElem?_take,if_pos hm];exact ho) A81 fun k y hk hy=>?_;obtain⟨_,hy'⟩:=yD hy;have:=hu m (zC1.1 ho).1;rw[cA ho]at this;obtain⟨_,_,_,Ai⟩:=dZ this;have:=Ai k y hk hy';rw[hn]at this;exact this
 unfold aD8;rw[hf];simp only[List.getElem?_take,if_pos hm,ho,zI0,hx]
theorem aD7{own:Nat}(h:∀(m:Nat) (o:Oj),m<own->l[m]?=some o->o.name=i.mod->gQ o i.name i.print=none):aD8 (l.take own) i=none:=by
 unfold aD8;cases hf:sH (l.take own) i.mod with
 | none=>rfl| some f=>
  obtain⟨o,ho,hp,_⟩:=dZ hf;obtain⟨hl,ho'⟩:=yD ho;simp only[ho,zI0,h f o hl ho' (by simpa using hp)]
structure En (l:List Oj) (w:World) (a:Option Addr) (n c:Nat) (pre:List (IrR w n)) (W:World):Prop where
 box:Blk W w.heap.size 23 [.slice a n c]
 r1:Blk W (w.heap.size+1) 26 [.slice none 0 0]
 r2:Blk W (w.heap.size+1+1) 4 [.bool false]
 ev:∃v ws,Blk W (w.heap.size+1+1+1) 26 [v]/\W.ownsRow w.heap.size 100 7 v pre.length (cO ws)/\(pre.map IrR.key).map (pG l)=ws.map some
 y:Below w.heap.size w W
theorem En.grown{n:Nat}{pre:List (IrR w n)}(h:En l w a n c pre W)(hg:W.grownBy C none):En l w a n c pre C:=by
 have b:=aA hg;obtain⟨v,ws,h1,h2,h3⟩:=h.ev;exact⟨h.box.below b h.box.lt,h.r1.below b h.r1.lt,h.r2.below b h.r2.lt,⟨v,ws,h1.below b h1.lt,bT h2 (fun g hv=>b.block g (h2.lt g hv).2),h3⟩,h.y.trans (b.mono h.y.size)⟩
theorem En.own{n:Nat}{pre:List (IrR w n)}{row:Option Nat}(h:En l w a n c pre A)(hg:A.grownBy C row)(hr:∀r,row=some r->w.heap.size<=r/\∃o:Obj,A.heap[r]?=some o/\o.isCells=false):En l w a n c pre C:=by
 have Di:=fun r e=>(hr r e).2;obtain⟨v,ws,h1,h2,h3⟩:=h.ev;exact⟨gT h.box hg Di,gT h.r1 hg Di,gT h.r2 hg Di,⟨v,ws,gT h1 hg Di,aC0 h2 hg Di,h3⟩,h.y.grown hg h.y.size (fun k hk=>(hr k hk).1)⟩
theorem En.push{n:Nat}{pre:List (IrR w n)}{x:IrR w n}{v v':Value}{ws:List Wo}{e:Wo}(h:En l w a n c pre W)(h1:Blk W (w.heap.size+1+1+1) 26 [v])(h2:W.ownsRow w.heap.size 100 7 v pre.length (cO ws))(h3:(pre.map IrR.key).map (pG l)=ws.map some)
  (hx:pG l x.key=some e) (hr:C.ownsRow w.heap.size 100 7 v' (pre.length+1) (cO ws++cO [e])) (hg:W.grownBy C v.ownBlock):En l w a n c (pre++[x]) (C.setCell ⟨w.heap.size+1+1+1,0,none⟩ v')/\Blk C (w.heap.size+1+1+1) 26 [v]/\KeepsOthers W (C.setCell ⟨w.heap.size+1+1+1,0,none⟩ v')/\Kt w.heap.size W (C.setCell ⟨w.heap.size+1+1+1,0,none⟩ v'):=by
 have o1:∀{g T:Nat} {vs:List Value},Blk W g T vs->T ≠ 100->Blk C g T vs:=fun hb hT=>(dS h2 hg hT ⟨_,hb⟩).trans hb;have e3:=o1 h1 A6;refine⟨⟨(o1 h.box A6).other A0,(o1 h.r1 A6).other A0,(o1 h.r2 A6).other A0,⟨v',ws++[e],e3.set (i:=0) v', ?_, ?_⟩, ?_⟩,e3, ?_, ?_⟩
 .
  rw[zA1,iK];refine bT hr fun g hv=>heap_setCell_other C ⟨w.heap.size+1+1+1,0,none⟩ g v' fun e=>?_;have e':g=w.heap.size+1+1+1:=e;obtain⟨cur,hc⟩:=eI hr hv;rw[e']at hc;exact absurd (lN hc e3) A6
 .
  rw[List.map_append,List.map_append,h3,List.map_append];simp[hx]
 .
  exact(h.y.grown hg h.y.size (fun k hk=>(h2.lt k hk).1)).setCell (p:=⟨w.heap.size+1+1+1,0,none⟩) (by show w.heap.size<=w.heap.size+1+1+1;omega) _
 .
  exact(KeepsOthers.of_grownBy hg (fun j o hj ho=>by
   obtain⟨cur,hc⟩:=eI h2 hj;rw[hc]at ho;cases ho;rfl)).trans (KeepsOthers.setCell _ _ _)
 .
  have hs:(C.setCell ⟨w.heap.size+1+1+1,0,none⟩ v').heap.size=C.heap.size:=by simp
  refine⟨hg.os,hg.tape,hg.output,by rw[hs];exact hg.size,fun k hk=>?_,fun k cc T f hc hT=>?_⟩
  .
   rw[heap_setCell_other C ⟨w.heap.size+1+1+1,0,none⟩ k v' (by show k ≠ w.heap.size+1+1+1;omega)];exact hg.block k (Nat.lt_of_lt_of_le hk h.y.size) (fun e=>by have:=(h2.lt k e.symm).1;omega)
  .
   have Ae:k ≠ w.heap.size+1+1+1:=fun e=>by
    subst e;rw[show W.heap[w.heap.size+1+1+1]?=_ from h1]at hc;simp only[zG2,Obj.cells.injEq]at hc;rcases hT with h9|h9|h9 <;> (rw[h9]at hc;exact absurd hc.2.1 A6)
   rw[heap_setCell_other C ⟨w.heap.size+1+1+1,0,none⟩ k v' Ae];refine hg.block k (zI3.1 hc).1 fun e=>?_;obtain⟨cur,Dc⟩:=eI h2 e.symm;rw[Dc]at hc;simp only[zG2,Obj.cells.injEq]at hc;rcases hT with h9|h9|h9 <;> (rw[h9]at hc;exact absurd hc.2.1 A6)
def aTv (l:List Oj)(n:Nat)(w:World)(e:Ending)(w':World):Prop:=
 Below w.heap.size w w'/\((∃v,e=.returned (.tuple #[v,.bool true])/\jM l n/\w'.ownsRow w.heap.size 100 7 v (aT l n).length (cO (aT l n)))\/(e=.returned (.tuple #[.slice none 0 0,.bool false])/\¬jM l n))
theorem aC9 (l:List Oj)(h:∀o ∈ l,o.im.length<=8):∀n,n<=l.length->(cE l n).length<=n*8:=by
 intro n;induction n with
 | zero=>intro _;simp[cE]| succ n ih=>
  intro hn;have h1:=ih A0;have h2:=h (l[n]' A0) (List.getElem_mem _);have h3:mG l n=l[n]' A0:=cA (zA0 _);simp only[cE,zA1,dP,zB2,h3];omega
theorem aH9(hm:m<=7)(hx:x<=4000)(W:World):Calls Tryz.prog 38 #[.int .i64 (m:Int),.int .i64 (x:Int)] W fun e w'=>e=.returned (.tuple #[.agg #[.bool true,.int .i64 0,.int .i64 0,.int .i64 0,.int .i64 (x:Int),.int .i64 16,.int .i64 ((m:Int)+1)],.bool true])/\Below W.heap.size W w':=by
 have h:=aJq (m:Int) (x:Int) W;rw[aIa hm hx]at h;exact h
theorem aMl (m:Nat)(W:World):Calls Tryz.prog 38 #[.int .i64 (m:Int),.int .i64 (-1)] W fun e w'=>e=.returned (.tuple #[.agg #[.bool false,.int .i64 0,.int .i64 0,.int .i64 0,.int .i64 0,.int .i64 0,.int .i64 0],.bool false])/\Below W.heap.size W w':=by
 have h:=aJq (m:Int) (-1) W;rw[show xN (m:Int) (-1)=false by simp[xN,inR]]at h;exact h
theorem mJ{F:Fence}{fn:Nat}{ops:Array Oper}{rest:List Oper}{o:Oper}{a:Act}{Q:Exit->Act->World->Prop}(Le:o.guard=none)(s x:Operand)
  (ho:o.op=.call { callee:=.builtin .append,args:=#[s,x],argTypes:=#[26,26] })
  (base:Nat) (v:Value) (n:Nat) (ws:List Wo) (hs:a.eval s=v) (Aj:w.ownsRow base 100 7 v n (cO ws))
  (g:Nat) (e:Wo) (hx:a.eval x=.slice (some ⟨g,0,none⟩) 1 1) (hr:Blk w g 100 e.vals) (Bg:n<=1048576) (Bw:base<=w.heap.size)
  (h:∀v' w',w'.ownsRow base 100 7 v' (n+1) (cO ws++cO [e])->w.grownBy w' v.ownBlock->wpListIn F fn Tryz.prog ops Q rest (a.put o.dst v') w'):wpListIn F fn Tryz.prog ops Q (o :: rest) a w:=by
 obtain⟨i0,hi,Dd,Db,Cz⟩:=info_parts zU;refine wpListIn_append_own w Le s x 26 ho base 100 i0 _ 7 56 Tryz.underlying26 hi Dd Db Cz rfl A6 v n _ hs Aj ⟨g,0,none⟩ 1 1 (cO [e]) hx (by rw[gN];rfl) ?_ (pJ _) A11 A0 Bw ?_
 .
  intro j u hu;rw[Addr.add_lit,zJ0];exact hr.cell (by simpa [cO] using hu)
 .
  exact QA109
theorem En.start (l:List Oj)(w:World)(a:Option Addr)(n c:Nat):En l w a n c [] (((((w.alloc (.cells #[.slice a n c] 23 (0,0))).alloc (.cells #[.slice none 0 0] 26 (0,0))).alloc (.cells #[.bool false] 4 (0,0))).alloc (.cells #[.slice none 0 0] 26 (0,0))).alloc (.cells #[.slice a n c] 23 (0,0)))/\Blk (((((w.alloc (.cells #[.slice a n c] 23 (0,0))).alloc (.cells #[.slice none 0 0] 26 (0,0))).alloc (.cells #[.bool false] 4 (0,0))).alloc (.cells #[.slice none 0 0] 26 (0,0))).alloc (.cells #[.slice a n c] 23 (0,0))) (w.heap.size+1+1+1+1) 23 [.slice a n c]/\(((((w.alloc (.cells #[.slice a n c] 23 (0,0))).alloc (.cells #[.slice none 0 0] 26 (0,0))).alloc (.cells #[.bool false] 4 (0,0))).alloc (.cells #[.slice none 0 0] 26 (0,0))).alloc (.cells #[.slice a n c] 23 (0,0))).heap.size=w.heap.size+5:=by
 have b0:=(((((Blk.new w 23 [.slice a n c]).old (o:=.cells #[.slice none 0 0] 26 (0,0))).old (o:=.cells #[.bool false] 4 (0,0))).old (o:=.cells #[.slice none 0 0] 26 (0,0))).old (o:=.cells #[.slice a n c] 23 (0,0)));have b1:=(((Blk.new (w.alloc (.cells #[.slice a n c] 23 (0,0))) 26 [.slice none 0 0]).old (o:=.cells #[.bool false] 4 (0,0))).old (o:=.cells #[.slice none 0 0] 26 (0,0))).old (o:=.cells #[.slice a n c] 23 (0,0));have b2:=((Blk.new ((w.alloc (.cells #[.slice a n c] 23 (0,0))).alloc (.cells #[.slice none 0 0] 26 (0,0))) 4 [.bool false]).old (o:=.cells #[.slice none 0 0] 26 (0,0))).old (o:=.cells #[.slice a n c] 23 (0,0));have b3:=(Blk.new (((w.alloc (.cells #[.slice a n c] 23 (0,0))).alloc (.cells #[.slice none 0 0] 26 (0,0))).alloc (.cells #[.bool false] 4 (0,0))) 26 [.slice none 0 0]).old (o:=.cells #[.slice a n c] 23 (0,0));have b4:=Blk.new ((((w.alloc (.cells #[.slice a n c] 23 (0,0))).alloc (.cells #[.slice none 0 0] 26 (0,0))).alloc (.cells #[.bool false] 4 (0,0))).alloc (.cells #[.slice none 0 0] 26 (0,0))) 23 [.slice a n c];simp only[List.toArray,World.size_alloc]at b0 b1 b2 b3 b4;refine⟨⟨b0,b1,b2,⟨.slice none 0 0,[],b3,World.ownsRow_nil _ _ _ _,rfl⟩, ?_⟩,b4,by simp⟩;exact(((((zD2 _ w).alloc (zB0 _) _).alloc A8 _).alloc A10 _).alloc A10 _).alloc A10 _
set_option maxHeartbeats 8000000 in
theorem aCc (l:List Oj)(a:Option Addr)(n c:Nat)(w:World)(hL:aW w a c 5 (l.map Oj.fl))(hn:l.length=n)(hn8:n<=8)(hu:aCo l)(hf:∀o ∈ l,cU o.ob=true):
  Calls Tryz.prog 17 #[.slice a n c] w (aTv l n w):=by
 have HL:=hid hL;have HN:=hid hn;have HU:=hid hu;have Py:=hid hf;have Qr:=hL.cap;rw[zB2,hn]at Qr;obtain⟨e0,bB,Bg⟩:=En.start l w a n c;clear hu hf;refine callsIn_wide (n:=5) |>.1 ?_
 refine callsIn_of_wp_marks Tryz.func17 rfl trivial ?_ rfl;simp only[Tryz.ntmps17,List.size_toArray,zB1,zC3,Nat.reduceAdd,Nat.reduceSub,Array.replicate_succ,Array.replicate_zero,List.push_toArray,List.append_toArray,List.nil_append,List.cons_append];gi_wp2_with fail;refine wpIn_wide.2 (wp_scope_straight ((wpIn_wide (n:=5)).1 ?_));gi_wp2_with fail;refine wpIn_label ?_;gi_wp2_with (refine⟨trivial, ?_⟩;gi_at_call 36;refine(callsIn_wide.2 (aBu _ _ _ _)).mono ?_;rintro e w' ⟨rfl,rfl⟩);have Gv:=e0.y;obtain⟨W0,hW0⟩:∃W0,(((((w.alloc (.cells #[.slice a n c] 23 (0,0))).alloc (.cells #[.slice none 0 0] 26 (0,0))).alloc (.cells #[.bool false] 4 (0,0))).alloc (.cells #[.slice none 0 0] 26 (0,0))).alloc (.cells #[.slice a n c] 23 (0,0)))=W0:=⟨_,rfl⟩
 rw[hW0]at e0 bB Bg Gv;have hW0':((((w.alloc (.cells { toList:=[.slice a n c] } 23 (0,0))).alloc (.cells #[.slice none 0 0] 26 (0,0))).alloc (.cells #[.bool false] 4 (0,0))).alloc (.cells #[.slice none 0 0] 26 (0,0))).alloc (.cells #[.slice a n c] 23 (0,0))=W0:=hW0;first|rw[hW0]|rw[hW0']
 clear hW0 hW0';refine wpIn_rangeFunc_ownH rfl A0 (gf:=69) (lb:=#[.pointer (some ⟨w.heap.size+1+1+1+1,0,none⟩)]) rfl trivial (enters_of Tryz.func69 A1 rfl)
  (aBt w W0 4 w.heap.size (w.heap.size+1+1+1+1) l a n c hL hn Gv (zB0 _) Gv.size bB) Kt.trans (aU1 Gv.size) (zD2 _ _) (fun _=>rfl)
  (fun pre W=>En l w a n c pre W)
  (fun cd pre W=>cd=.ret/\(∃x ∈ pre,pG l x.key=none)/\Blk W (w.heap.size+1) 26 [.slice none 0 0]/\Blk W (w.heap.size+1+1) 4 [.bool false]/\Below w.heap.size w W)
  (fun s A C row hs hg hr=>hs.own hg (fun r e=>⟨zF2 Gv.size (hr r e).1,(hr r e).2⟩))
  (fun cd s A C row hs hg hr=>⟨hs.1,hs.2.1,gT hs.2.2.1 hg (fun r e=>(hr r e).2),gT hs.2.2.2.1 hg (fun r e=>(hr r e).2),hs.2.2.2.2.grown hg hs.2.2.2.2.size (fun k hk=>zF2 Gv.size (hr k hk).1)⟩)
  e0
  (fun x a' W=>∃Bx,Blk W Bx 42 [.slice x.am x.ip.mod.length x.cm,.slice x.an x.ip.name.length x.cn,.int .i64 x.ip.print]/\a'={ tmps:=#[.slice a n c,.pointer (some ⟨w.heap.size,0,none⟩),.pointer (some ⟨w.heap.size+1,0,none⟩),.pointer (some ⟨w.heap.size+1+1,0,none⟩),.pointer (some ⟨w.heap.size+1+1+1,0,none⟩),.int .i64 x.own,.pointer (some ⟨Bx,0,none⟩),undef,undef,undef,undef,.slice a n c,.func (.func 69) #[] #[.pointer (some ⟨w.heap.size+1+1+1+1,0,none⟩)],.int .i64 x.own,.agg #[.slice x.am x.ip.mod.length x.cm,.slice x.an x.ip.name.length x.cn,.int .i64 x.ip.print],undef,undef,undef,undef,undef,undef,undef,undef,undef,undef,undef,undef,undef,undef,undef,undef,undef,undef,undef,undef,undef,undef,undef,undef,undef,undef,undef,undef,undef,undef,undef,undef,undef],defers:=[] })
  (fun x a' _ A C row hs hg hr=>by obtain⟨Bx,h2,h3⟩:=hs;exact⟨Bx,gT h2 hg (fun r e=>(hr r e).2),h3⟩)
  ?assign ?body ?done ?stop
 case assign=>
  rintro l' pre x W K hE hK;have HK:=hid hK;clear hK;simp only[IrR.enc];gi_wp2_with fail;exact HK.out _ _ ((KeepsOthers.alloc _ _).from _) (Kt.grown (aE W _ none) hE.y.size) (hE.grown (aE W _ none)) ⟨W.heap.size,Blk.new W 42 [.slice x.am x.ip.mod.length x.cm,.slice x.an x.ip.name.length x.cn,.int .i64 x.ip.print],rfl⟩
 case body=>
  rintro l' pre x a' W hl ⟨r,hr⟩ hE ⟨Bx,bX,rfl⟩ Ad;have Qh:pre.length<=64:=by
   have h1:=aC9 l (fun o ho=>(dE (Py.out o ho)).2.1) n (by rw[HN.out];exact zB0 _);omega
  clear hl hr Ad bB Bg hL hn e0 Gv;have HXI:Hid (x.key=(x.own,x.ip)):=rfl;have HBM:=hid x.hm;have Mk:=hid x.hn;have Aj:=x.lt;obtain⟨xo,hxo⟩:=zx (x.own);obtain⟨ip,hip⟩:=zx (x.ip);rw[<-hxo,<-hip]at HXI;rw[<-hip]at HBM Mk bX ⊢;rw[<-hxo]at Aj ⊢;obtain⟨am,ham⟩:=zx (x.am);obtain⟨an,han⟩:=zx (x.an);obtain⟨cm,Oi⟩:=zx (x.cm);obtain⟨cn,Qq⟩:=zx (x.cn);rw[<-ham]at HBM bX ⊢;rw[<-han]at Mk bX ⊢;rw[<-Oi]at bX ⊢;rw[<-Qq]at bX ⊢;clear ham han Oi Qq hxo hip;obtain⟨b,off,rfl⟩:=aW.addr HL.out A59;generalize ip.mod.length=nm at *;generalize ip.name.length=nn at *;have cB:=hE.box.k 0;have z0:(0:Int)<=(xo:Int):=A0;have z1:(xo:Int)<=(c:Int):=A0;have z2:(xo:Int)<=(n:Int):=A0;have HE:=hid hE;have HBX:=hid bX;have HY:=hid hE.y;clear hE bX;gi_wp2_with fail;gi_loopw [7,8,9,10,19] (fun _ _ _ _ i wr=>∃m:Nat,m<=xo/\i=.int .i64 m/\Hid (∀(m':Nat) (o:Oj),m'<m->l[m']?=some o->o.name=ip.mod->gQ o ip.name ip.print=none)/\Hid (W.grownBy wr none)) (fun _ _ _ _ i _=>xo-(intOf i).toNat)
  case atStart=>exact⟨0,zD1 _,rfl,(by show ∀_ _,_;omega),aP _ _⟩
  case round=>
   obtain⟨m,hm,rfl,Ai,Al⟩:=hrel;clear cB;by_cases hlm:m<xo
   .
    obtain⟨o,v0,v1,v2,v3,v4,ho,hv,c0,c1,c2,c3,c4⟩:=lQ HL.out HN.out m A0;have yw:=HY.out.trans ((aA Al.out).mono HY.out.size);have b0:=aB c0 yw;have b1:=aB c1 yw;have b2:=aB c2 yw;have b3:=aB c3 yw;have b4:=aB c4 yw;have HV:=hid hv;obtain⟨a0,e0,a1,e1,a2,e2,a4,e4,rfl,rfl,rfl,rfl,rfl,Gv,_⟩:=kJ hv;have HO:=hid ho;have Pz:=hid Gv;have HUE:=(dE (Py.out o (zA3 ho))).2.2.2.2.2.1;have HX8:Hid (∀(x:Nat) (z:Xp),o.ex[x]?=some z->x<=4000):=fun x z hz=>by have h1:=(zC1.1 hz).1;have h2:=(dE (Py.out o (zA3 ho))).1;omega
    have HXP:Hid (∀(W1:World),Below w.heap.size w W1->Calls Tryz.prog 18 #[.agg #[.slice a0 o.name.length e0,.slice a1 o.ex.length e1,.slice a2 o.im.length e2,.int .i64 o.data,.slice a4 o.code.length e4],.slice an nn cn,.int .i64 ip.print] W1 fun e w'=>e=.returned (.int .i64 (qO (gQ o ip.name ip.print)))/\W1.grownBy w' none):=fun W1 hb=>nF o _ _ _ _ _ W1 (aL.below HV.out hb) HUE an nn cn ip.name (aV.below Mk.out hb) ip.print;have hm':(m:Int)<(xo:Int):=A0;have hmn:(m:Int)<(n:Int):=A0;generalize o.name.length=n0 at *;generalize o.ex.length=n1 at *;generalize o.im.length=n2 at *;generalize o.code.length=n4 at *;generalize o.data=d3 at *;have yO:=aE wr (.cells #[.slice a0 n0 e0,.slice a1 n1 e1,.slice a2 n2 e2,.int .i64 d3,.slice a4 n4 e4] 39 (0,0)) none;have oB:=Blk.new wr 39 [.slice a0 n0 e0,.slice a1 n1 e1,.slice a2 n2 e2,.int .i64 d3,.slice a4 n4 e4];have bX1:=HBX.out.below (aA (aC Al.out yO)) HBX.out.lt;have g1:=aC Al.out yO;simp only[List.toArray]at oB;clear c0 c1 c2 c3 c4 ho hv Gv HUE yO;gi_upto_region 8 with fail
    generalize wr.alloc (.cells #[.slice a0 n0 e0,.slice a1 n1 e1,.slice a2 n2 e2,.int .i64 d3,.slice a4 n4 e4] 39 (0,0))=w1 at *;generalize wr.heap.size=gO at *;clear b0 b1 b2 b3 b4 yw Al;have y1:=HY.out.trans ((aA g1).mono HY.out.size);have oc0:=oB.k 0;have xc0:=bX1.k 0;have Tp:=jJ a0 n0 e0 o.name am nm cm ip.mod w1 (aV.below Pz.out y1) (aV.below HBM.out y1);have G1:=hid g1;by_cases Ae:o.name=ip.mod
    .
     rw[zB3 Ae]at Tp;have Kr:=hid Ae;clear Ae g1;have oc1:=oB.k 1;have oc2:=oB.k 2;have oc3:=oB.k 3;have oc4:=oB.k 4;have xc1:=bX1.k 1;have xc2:=bX1.k 2;have H2:=HXP.out w1 y1;obtain⟨fx,Wn⟩:=zx (gQ o ip.name ip.print);rw[<-Wn]at H2;have HFX:=hid Wn.symm;clear Wn HXP;cases fx with
     | none=>
      have HN9:Hid (∀(m':Nat) (o:Oj),m'<m+1->l[m']?=some o->o.name=ip.mod->gQ o ip.name ip.print=none):=fun m' o' h1 h2 h3=>by
       by_cases e:m'=m
       .
        subst e;have:=HO.out;rw[h2]at this;cases this;exact HFX.out
       .
        exact Ai.out m' o' A0 h2 h3
      simp only[qO]at H2;clear Ai;gi_wp2_with (first
       | (refine⟨trivial, ?_⟩;gi_at_call 37;refine(CallsIn.inRound l' (callsIn_wide.2 Tp)).mono ?_;rintro e w' ⟨rfl,rfl⟩)| (refine⟨trivial, ?_⟩;gi_at_call 18;refine(CallsIn.inRound l' (callsIn_wide.2 H2)).mono ?_;rintro e w2 ⟨rfl,hg2⟩)| (refine⟨trivial, ?_⟩;gi_at_call 38;refine(CallsIn.inRound l' (callsIn_wide.2 (aMl m w2))).mono ?_;rintro e w3 ⟨rfl,Iz⟩))
      have G9:Hid (W.grownBy (w3.alloc (.cells #[.bool false,.int .i64 0,.int .i64 0,.int .i64 0,.int .i64 0,.int .i64 0,.int .i64 0] 100 (0,0))) none):=aC (aC (aC G1.out hg2) (aM Iz none)) (aE w3 _ none);go_roundw
      case rel=>exact⟨m+1,by omega,by go_num,HN9,G9⟩
      case measure=>simp[intOf];omega
     | some x9=>
      obtain⟨_,Gx,_,_⟩:=dZ HFX.out;have hx8:=HX8.out x9 _ Gx;have HIM:Hid (pG l x.key=some (aEv m x9)):=by
       show _=_
       rw[HXI.out];exact aHo HU.out hlm HO.out Kr.out HFX.out
      simp only[qO]at H2;clear Ai Gx;gi_upto_region 11 with (first
       | (refine⟨trivial, ?_⟩;gi_at_call 37;refine(CallsIn.inRound l' (callsIn_wide.2 Tp)).mono ?_;rintro e w' ⟨rfl,rfl⟩)| (refine⟨trivial, ?_⟩;gi_at_call 18;refine(CallsIn.inRound l' (callsIn_wide.2 H2)).mono ?_;rintro e w2 ⟨rfl,hg2⟩)| (refine⟨trivial, ?_⟩;gi_at_call 38;refine(CallsIn.inRound l' (callsIn_wide.2 (aH9 (show m<=7 by omega) hx8 w2))).mono ?_;rintro e w3 ⟨rfl,Iz⟩))
      have g9:W.grownBy (w3.alloc (.cells #[.bool true,.int .i64 0,.int .i64 0,.int .i64 0,.int .i64 x9,.int .i64 16,.int .i64 ((m:Int)+1)] 100 (0,0))) none:=aC (aC (aC G1.out hg2) (aM Iz none)) (aE w3 _ none);have wB:=Blk.new w3 100 [.bool true,.int .i64 0,.int .i64 0,.int .i64 0,.int .i64 x9,.int .i64 16,.int .i64 ((m:Int)+1)];simp only[List.toArray]at wB;clear Tp H2 oc0 oc1 oc2 oc3 oc4 xc0 xc1 xc2 hg2 Iz oB bX1 y1 G1 HX8;generalize w3.alloc (.cells #[.bool true,.int .i64 0,.int .i64 0,.int .i64 0,.int .i64 x9,.int .i64 16,.int .i64 ((m:Int)+1)] 100 (0,0))=w4 at *;generalize w3.heap.size=gW at *;have q0:=wB.k 0;have q1:=wB.k 1;have q2:=wB.k 2;have q3:=wB.k 3;have q4:=wB.k 4;have q5:=wB.k 5;have q6:=wB.k 6;have g5:=aC g9 (aE w4 (.cells #[.bool true,.int .i64 0,.int .i64 0,.int .i64 0,.int .i64 x9,.int .i64 16,.int .i64 ((m:Int)+1)] 100 (0,0)) none);have e5:=HE.out.grown g5;obtain⟨v,ws,k1,k2,k3⟩:=e5.ev;have E5:=hid e5;have e4:=(HE.out.grown g9).ev;have ec:w4.cell? ⟨w.heap.size+1+1+1,0,none⟩=some v:=by
       obtain⟨v4,_,j1,_⟩:=e4;have:=j1.below (aA (aE w4 (.cells #[.bool true,.int .i64 0,.int .i64 0,.int .i64 0,.int .i64 x9,.int .i64 16,.int .i64 ((m:Int)+1)] 100 (0,0)) none)) j1.lt;have h9:=this.k 0;rw[k1.k 0]at h9;cases h9;exact j1.k 0
      obtain⟨av,cv,rfl,_⟩:=aH k2;have K1:=hid k1;have K2:=hid k2;have K3:=hid k3;have KB:=hid (Blk.new w4 100 (aEv m x9).vals);have KY:=hid e5.y.size;have G5:=hid g5;clear e5 k1 k2 k3 e4 g9 g5 wB;gi_wp2_with (gi_at_builtin;refine mJ rfl _ _ rfl w.heap.size _ pre.length ws rfl K2.out w4.heap.size (aEv m x9) rfl KB.out A0 KY.out ?_);intro v' w6 Iu Bt;obtain⟨E6,B6,KO6,KT6⟩:=E5.out.push (x:=x) K1.out K2.out K3.out HIM.out Iu Bt;have rc:=B6.k 0;have rf:=B6.free 0;obtain⟨Ls,Lq,rfl,_⟩:=aH Iu;have HFI:Hid (KeepsFrom W0.heap.size W (w6.setCell ⟨w.heap.size+1+1+1,0,none⟩ (.slice Ls (pre.length+1) Lq))/\Kt w.heap.size W (w6.setCell ⟨w.heap.size+1+1+1,0,none⟩ (.slice Ls (pre.length+1) Lq))/\En l w (some ⟨b,off,none⟩) n c (pre++[x]) (w6.setCell ⟨w.heap.size+1+1+1,0,none⟩ (.slice Ls (pre.length+1) Lq))):=
       ⟨((KeepsOthers.of_grownBy G5.out (fun j o hj=>by cases hj)).trans KO6).from _,(Kt.grown G5.out HY.out.size).trans KT6,E6⟩
      clear E6 B6 KO6 KT6 Iu Bt E5 K1 K2 K3 KB KY G5 q0 q1 q2 q3 q4 q5 q6 ec;gi_wp2_with fail;exact HFI.out
    .
     rw[zC2 Ae]at Tp;have HN9:Hid (∀(m':Nat) (o:Oj),m'<m+1->l[m']?=some o->o.name=ip.mod->gQ o ip.name ip.print=none):=fun m' o' h1 h2 h3=>by
      by_cases e:m'=m
      .
       subst e;have:=HO.out;rw[h2]at this;cases this;exact absurd h3 Ae
      .
       exact Ai.out m' o' A0 h2 h3
     clear Ae Ai g1;gi_wp2_with (refine⟨trivial, ?_⟩;gi_at_call 37;refine(CallsIn.inRound l' (callsIn_wide.2 Tp)).mono ?_;rintro e w' ⟨rfl,rfl⟩);go_roundw
     case rel=>exact⟨m+1,by omega,by go_num,HN9,G1⟩
     case measure=>simp[intOf];omega
   .
    have:xo=m:=A0;subst this;have HMI:Hid (pG l x.key=none):=by
     show _=_
     rw[HXI.out];exact aD7 Ai.out
    have e9:=HE.out.grown Al.out;have r1:=e9.r1.k 0;have f1:=e9.r1.free 0;have r2:=e9.r2.k 0;have f2:=e9.r2.free 0;have HF:Hid (KeepsFrom W0.heap.size W ((wr.setCell ⟨w.heap.size+1,0,none⟩ (.slice none 0 0)).setCell ⟨w.heap.size+1+1,0,none⟩ (.bool false))/\(∃y ∈ pre++[x],pG l y.key=none)/\Blk ((wr.setCell ⟨w.heap.size+1,0,none⟩ (.slice none 0 0)).setCell ⟨w.heap.size+1+1,0,none⟩ (.bool false)) (w.heap.size+1) 26 [.slice none 0 0]/\Blk ((wr.setCell ⟨w.heap.size+1,0,none⟩ (.slice none 0 0)).setCell ⟨w.heap.size+1+1,0,none⟩ (.bool false)) (w.heap.size+1+1) 4 [.bool false]/\Below w.heap.size w ((wr.setCell ⟨w.heap.size+1,0,none⟩ (.slice none 0 0)).setCell ⟨w.heap.size+1+1,0,none⟩ (.bool false))):=by
     have n12:w.heap.size+1 ≠ w.heap.size+1+1:=A0;refine⟨((KeepsOthers.of_grownBy Al.out (fun j o hj=>by cases hj)).trans ((KeepsOthers.setCell _ _ _).trans (KeepsOthers.setCell _ _ _))).from _,⟨x,by simp,HMI.out⟩,(e9.r1.set (i:=0) _).other n12,(e9.r2.other (Ne.symm n12)).set (i:=0) _, ?_⟩;exact(e9.y.setCell (p:=⟨w.heap.size+1,0,none⟩) A65 _).setCell (p:=⟨w.heap.size+1+1,0,none⟩) A62 _
    clear e9 Ai Al;gi_wp2_with fail;exact⟨HF.out.1,rfl,HF.out.2⟩
 case done=>
  rintro D xs W hD hS hE hK;obtain⟨v,ws,k1,k2,k3⟩:=hE.ev;rw[hS]at k3;obtain⟨Le,hws⟩:=aBb l n ws k3;have Ah:xs.length=ws.length:=by
   have h1:=congrArg List.length hS;have h2:=congrArg List.length k3;rw[zB2]at h1 h2;rw[zB2]at h2;omega
  subst hws;rw[Ah]at k2;obtain⟨av,cv,rfl,_⟩:=aH k2;have HG:=hid Le;have c3:=k1.k 0;have c1:=hE.r1.k 0;have f1:=hE.r1.free 0;have c2:=hE.r2.k 0;have f2:=hE.r2.free 0;have n12:w.heap.size+1 ≠ w.heap.size+1+1:=A0;have B1:Hid (Blk ((W.setCell ⟨w.heap.size+1,0,none⟩ (.slice av (aT l n).length cv)).setCell ⟨w.heap.size+1+1,0,none⟩ (.bool true)) (w.heap.size+1) 26 [.slice av (aT l n).length cv]):=(hE.r1.set (i:=0) _).other n12;have B2:Hid (Blk ((W.setCell ⟨w.heap.size+1,0,none⟩ (.slice av (aT l n).length cv)).setCell ⟨w.heap.size+1+1,0,none⟩ (.bool true)) (w.heap.size+1+1) 4 [.bool true]):=(hE.r2.other (Ne.symm n12)).set (i:=0) _;have R9:Hid (((W.setCell ⟨w.heap.size+1,0,none⟩ (.slice av (aT l n).length cv)).setCell ⟨w.heap.size+1+1,0,none⟩ (.bool true)).ownsRow w.heap.size 100 7 (.slice av (aT l n).length cv) (aT l n).length (cO (aT l n))):=by
   refine bT k2 fun g hv=>?_;obtain⟨cur,hc⟩:=eI k2 hv;have n1:g ≠ w.heap.size+1:=fun e=>by rw[e]at hc;exact absurd (lN hc hE.r1) A6
   have n2:g ≠ w.heap.size+1+1:=fun e=>by rw[e]at hc;exact absurd (lN hc hE.r2) A6
   rw[heap_setCell_other _ ⟨w.heap.size+1+1,0,none⟩ g _ n2,heap_setCell_other _ ⟨w.heap.size+1,0,none⟩ g _ n1]
  have Y9:Hid (Below w.heap.size w ((W.setCell ⟨w.heap.size+1,0,none⟩ (.slice av (aT l n).length cv)).setCell ⟨w.heap.size+1+1,0,none⟩ (.bool true))):=(hE.y.setCell (p:=⟨w.heap.size+1,0,none⟩) A65 _).setCell (p:=⟨w.heap.size+1+1,0,none⟩) A62 _;have hK':=((KeepsOthers.setCell W ⟨w.heap.size+1,0,none⟩ (.slice av (aT l n).length cv)).trans (KeepsOthers.setCell _ ⟨w.heap.size+1+1,0,none⟩ (.bool true))).same D _ hK rfl;have HK':=hid hK';have hDw:=zF2 Gv.size hD;clear hE k1 k2 k3 Le hK hK' hS;gi_wp2_with fail;generalize (W.setCell ⟨w.heap.size+1,0,none⟩ (.slice av (aT l n).length cv)).setCell ⟨w.heap.size+1+1,0,none⟩ (.bool true)=W9 at *;refine⟨by simp,.inl ⟨_,_,rfl,run_takeDeferred HK'.out, ?_⟩⟩;have hrr:∀r,some D=some r->∃o:Obj,W9.heap[r]?=some o/\o.isCells=false:=fun r e=>by cases e;exact⟨_,HK'.out,rfl⟩
  have d1:=(gT B1.out (grownBy_putObj' _ D (.deferred none)) hrr).k 0;have d2:=(gT B2.out (grownBy_putObj' _ D (.deferred none)) hrr).k 0;refine⟨.tuple #[.slice av (aT l n).length cv,.bool true], ?_, ?_,.inl ⟨_,rfl,HG.out,aC0 R9.out (grownBy_putObj' _ D (.deferred none)) hrr⟩⟩
  .
   simp only[results,Tryz.results17];simp[go_sem,d1,d2]
  .
   exact Y9.out.grown (grownBy_putObj' W9 D (.deferred none)) Y9.out.size (fun k hk=>by cases hk;exact hDw)
 case stop=>
  rintro D cd pre W hD hpre ⟨rfl,Ha,b1,b2,hY⟩ hK;have HG:Hid (¬jM l n):=by
   obtain⟨x,hx,Ae⟩:=Ha;exact aDa (hpre.subset (zE1.2 ⟨x,hx,rfl⟩)) Ae
  have hDw:=zF2 Gv.size hD;gi_wp2_with fail;refine⟨by simp,.inl ⟨_,_,rfl,run_takeDeferred hK, ?_⟩⟩;have hrr:∀r,some D=some r->∃o:Obj,W.heap[r]?=some o/\o.isCells=false:=fun r e=>by cases e;exact⟨_,hK,rfl⟩
  have d1:=(gT b1 (grownBy_putObj' _ D (.deferred none)) hrr).k 0;have d2:=(gT b2 (grownBy_putObj' _ D (.deferred none)) hrr).k 0;refine⟨.tuple #[.slice none 0 0,.bool false], ?_, ?_,.inr ⟨rfl,HG.out⟩⟩
  .
   simp only[results,Tryz.results17];simp[go_sem,d1,d2]
  .
   exact hY.grown (grownBy_putObj' W D (.deferred none)) hY.size (fun k hk=>by cases hk;exact hDw)
end Go.Proofs.YtcbhdhmhidpdgaaGreatDoor

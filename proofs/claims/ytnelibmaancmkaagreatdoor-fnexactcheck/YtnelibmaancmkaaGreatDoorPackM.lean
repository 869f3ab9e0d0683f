import Derived.Test.YtnelibmaancmkaaGreatDoorPackX
namespace Go.Proofs.YtnelibmaancmkaaGreatDoor
open Go.RowKit
set_option maxHeartbeats 4000000
set_option linter.unusedVariables false
set_option linter.unusedSimpArgs false
set_option maxRecDepth 100000
theorem V71{p:Prop}(h:p:=by simp only[results,Tryz.results143];simp[go_sem,e0,e1]):p:=h
theorem V73{p:Prop}(h:p:=by simp only[results,Tryz.results88];simp[go_sem,e0,e1]):p:=h
theorem U115{p:Prop}(h:p:=by
 rw[List.take_succ_eq_append_getElem hj,List.foldl_append]
 rfl):p:=h
abbrev Mn:=Int × List Int
def nC (g:List Int->Mn)(x:List Int)(v:Mn):List Int->Mn:=fun t=>if t=x then v else g t
def stG (g:List Int->Mn)(l:List (List Int × Mn)):List Int->Mn:=l.foldl (fun g p=>nC g p.1 p.2) g
theorem vR {g:List Int->Mn}{l:List (List Int × Mn)}{j:Nat}{p:List Int × Mn}(h:l[j]?=some p):stG g (l.take (j+1))=nC (stG g (l.take j)) p.1 p.2:=by
 obtain⟨hj,rfl⟩:=List.getElem?_eq_some_iff.1 h;unfold stG;exact U115
def aCl (g:List Int->Mn)(l:List (List Int × Mn))(j:Nat):Bool:=decide ((stG g (l.take j) (l[j]?.getD ([],(0,[]))).1).1=0)
def okG (g:List Int->Mn)(l:List (List Int × Mn)):Bool:=(List.range l.length).all (aCl g l)
theorem wX {w:World}{b o:Nat}{es:Array MapEntry}{c:Nat}(h:w.heap[b]?=some (.map es c)):w.cell? ⟨b,o,none⟩=none:=by
 unfold World.cell?
 simp[h]
def MnR (w:World)(v:Value)(s:Mn):Prop:=∃kv,v=.agg #[.int .i64 s.1,kv]/\(Fl.i s.2).Rd w kv
theorem MnR.below {w w':World}{v:Value}{s:Mn}(h:MnR w v s)(hb:Below w.heap.size w w'):MnR w' v s:=by
 obtain⟨kv,e,h1⟩:=h;exact⟨kv,e,h1.below hb⟩
theorem MnR.turn {w w':World}{b k:Nat}{f:List Int->Value}{v:Value}{s:Mn}(h:MnR w v s)(hm:NM w b k f)(hg:w.grownBy w' (some b)):MnR w' v s:=by
 obtain⟨kv,e,a,c,rfl,⟨h1,h2,h3⟩,r⟩:=h
 refine⟨_,e,a,c,rfl,⟨h1,h2,fun hn=>?_⟩,r⟩
 obtain⟨bx,off,rfl,hc⟩:=h3 hn
 refine⟨bx,off,rfl,fun i hi=>?_⟩
 have hx:=hc i hi;obtain⟨D,⟨es,cl,hb,_⟩,_⟩:=hm.ex
 have hne:bx ≠ b:=fun e=>by rw[e,wX hb]at hx;cases hx
 have Ai:bx<w.heap.size:=World.block_lt_of_cell? w _ hx
 have:=hg.block bx Ai (by simpa using hne)
 unfold World.cell? at hx ⊢
 simp only at hx ⊢
 rw[this];exact hx
structure NT (w:World) (b k:Nat) (g:List Int->Mn):Prop where
 ex:∃f,NM w b k f/\∀s,Bt s->MnR w (f s) (g s)
theorem NT.lt {w:World}{b k:Nat}{g:List Int->Mn}(h:NT w b k g):b<w.heap.size:=by obtain⟨f,h1,_⟩:=h.ex;exact h1.lt
theorem NT.below {w w':World}{b k:Nat}{g:List Int->Mn}(h:NT w b k g)(hb:Below w.heap.size w w'):NT w' b k g:=by
 obtain⟨f,h1,h2⟩:=h.ex
 exact⟨⟨f,h1.below hb,fun s hs=>(h2 s hs).below hb⟩⟩
theorem NT.grown {w w':World}{b k:Nat}{g:List Int->Mn}(h:NT w b k g)(hg:w.grownBy w' none):NT w' b k g:=h.below (aA hg)
theorem NT.made (w:World):NT (w.alloc (.map #[] 0)) w.heap.size 0 (fun _=>(0,[])):=
 ⟨⟨_,NM.made w,fun s _=>⟨.slice none 0 0,rfl,none,0,rfl,⟨rfl,by simp,by simp⟩,by simp,by simp,fun _=>rfl⟩⟩⟩
theorem NT.put {w w':World}{b k k':Nat}{g:List Int->Mn}{f:List Int->Value}{s:List Int}{v:Value}{mn:Mn}(h1:NM w b k f)(h2:∀s,Bt s->MnR w (f s) (g s))(h':NM w' b k' (upd f s v))(hg:w.grownBy w' (some b))(hv:MnR w v mn):NT w' b k' (nC g s mn):=by
 refine⟨⟨_,h',fun t ht=>?_⟩⟩
 unfold upd nC
 by_cases e:t=s
 .
  rw[if_pos e,if_pos e];exact hv.turn h1 hg
 .
  rw[if_neg e,if_neg e];exact(h2 t ht).turn h1 hg
def kT (v:Va):Mn:=(if v.size=0 then 1 else 2,[])
def jF (a:Pa):Mn:=(if a.arr then 2 else 1,[])
def pR (q:Pr):Mn:=(3,cP q.params)
theorem wE (w:World):(Fl.i []).Rd w (.slice none 0 0):=⟨none,0,rfl,⟨rfl,by simp,by simp⟩,by simp,by simp,fun _=>rfl⟩
theorem tH {w:World}{g:Nat}{x y:Value}:Blk w g 148 [.int .i64 0,.slice none 0 0]->Blk ((w.setCell ⟨g,0,none⟩ x).setCell ⟨g,1,none⟩ y) g 148 [x,y]:=fun h=>(h.set (i:=0) x).set (i:=1) y
theorem xH (v:Va)(vs:List Value)(w:World)(h:aO w v.fl vs):
  Calls Tryz.prog 88 #[agg vs] w fun e w'=>e=.returned (.agg #[.int .i64 (kT v).1,.slice none 0 0])/\Below w.heap.size w w':=by
 obtain⟨v0,_,rfl,_,v1,_,rfl,rfl,rfl⟩:=h;have x0:=(Blk.new w 125 [v0,.int .i64 v.size]).old (o:=.cells #[.int .i64 0,.slice none 0 0] 148 (0,0));have z0:=Blk.new (w.alloc (.cells #[v0,.int .i64 v.size] 125 (0,0))) 148 [.int .i64 0,.slice none 0 0]
 have hg:(w.alloc (.cells #[v0,.int .i64 v.size] 125 (0,0))).heap.size=w.heap.size+1:=by simp
 have y0:Below w.heap.size w ((w.alloc (.cells #[v0,.int .i64 v.size] 125 (0,0))).alloc (.cells #[.int .i64 0,.slice none 0 0] 148 (0,0))):=((Below.refl _ _).alloc (Nat.le_refl _) _).alloc V15 _
 simp only[List.toArray]at x0 z0;rw[hg]at z0;clear hg;simp only[agg];go_enter Tryz.func88,Tryz.ntmps88;go_upto_region 1 with fail;generalize (w.alloc (.cells #[v0,.int .i64 v.size] 125 (0,0))).alloc (.cells #[.int .i64 0,.slice none 0 0] 148 (0,0))=w1 at *;have k1:=x0.cell (i:=1) rfl;obtain⟨d0,d1⟩:=z0.c2;have f0:=z0.free 0;have f1:=z0.free 1
 by_cases hs:v.size=0
 .
  have HE:Hid ((kT v).1=1):=if_pos hs
  rw[hs]at k1;have z9:=tH (x:=.int .i64 1) (y:=.slice none 0 0) z0
  have y9:Below w.heap.size w ((w1.setCell ⟨w.heap.size+1,0,none⟩ (.int .i64 1)).setCell ⟨w.heap.size+1,1,none⟩ (.slice none 0 0)):=(y0.setCell (Nat.le_succ _) _).setCell (Nat.le_succ _) _
  clear hs;go_wp2_with fail;generalize (w1.setCell ⟨w.heap.size+1,0,none⟩ (.int .i64 1)).setCell ⟨w.heap.size+1,1,none⟩ (.slice none 0 0)=w9 at *;obtain⟨e0,e1⟩:=z9.c2
  refine bodyPost_ret (v:=.agg #[.int .i64 1,.slice none 0 0]) V73 rfl ⟨by rw[HE.out],y9⟩
 .
  have HE:Hid ((kT v).1=2):=if_neg hs
  have hsb:(v.size == 0)=false:=by simpa using hs
  have z9:=tH (x:=.int .i64 2) (y:=.slice none 0 0) z0
  have y9:Below w.heap.size w ((w1.setCell ⟨w.heap.size+1,0,none⟩ (.int .i64 2)).setCell ⟨w.heap.size+1,1,none⟩ (.slice none 0 0)):=(y0.setCell (Nat.le_succ _) _).setCell (Nat.le_succ _) _
  clear hs;go_wp2_with fail;generalize (w1.setCell ⟨w.heap.size+1,0,none⟩ (.int .i64 2)).setCell ⟨w.heap.size+1,1,none⟩ (.slice none 0 0)=w9 at *;obtain⟨e0,e1⟩:=z9.c2
  refine bodyPost_ret (v:=.agg #[.int .i64 2,.slice none 0 0]) V73 rfl ⟨by rw[HE.out],y9⟩
theorem yW (a:Pa)(vs:List Value)(w:World)(h:aO w a.fl vs):
  Calls Tryz.prog 143 #[agg vs] w fun e w'=>e=.returned (.agg #[.int .i64 (jF a).1,.slice none 0 0])/\Below w.heap.size w w':=by
 obtain⟨v0,_,rfl,_,v1,_,rfl,rfl,rfl⟩:=h;have x0:=(Blk.new w 128 [v0,.bool a.arr]).old (o:=.cells #[.int .i64 0,.slice none 0 0] 148 (0,0));have z0:=Blk.new (w.alloc (.cells #[v0,.bool a.arr] 128 (0,0))) 148 [.int .i64 0,.slice none 0 0]
 have hg:(w.alloc (.cells #[v0,.bool a.arr] 128 (0,0))).heap.size=w.heap.size+1:=by simp
 have y0:Below w.heap.size w ((w.alloc (.cells #[v0,.bool a.arr] 128 (0,0))).alloc (.cells #[.int .i64 0,.slice none 0 0] 148 (0,0))):=((Below.refl _ _).alloc (Nat.le_refl _) _).alloc V15 _
 simp only[List.toArray]at x0 z0;rw[hg]at z0;clear hg;simp only[agg];go_enter Tryz.func143,Tryz.ntmps143;go_upto_region 1 with fail;generalize (w.alloc (.cells #[v0,.bool a.arr] 128 (0,0))).alloc (.cells #[.int .i64 0,.slice none 0 0] 148 (0,0))=w1 at *;have k1:=x0.cell (i:=1) rfl;obtain⟨d0,d1⟩:=z0.c2;have f0:=z0.free 0;have f1:=z0.free 1
 cases hs:a.arr
 .
  have HE:Hid ((jF a).1=1):=by show _=_;unfold jF;rw[hs];rfl
  rw[hs]at k1;have z9:=tH (x:=.int .i64 1) (y:=.slice none 0 0) z0
  have y9:Below w.heap.size w ((w1.setCell ⟨w.heap.size+1,0,none⟩ (.int .i64 1)).setCell ⟨w.heap.size+1,1,none⟩ (.slice none 0 0)):=(y0.setCell (Nat.le_succ _) _).setCell (Nat.le_succ _) _
  clear hs;go_wp2_with fail;generalize (w1.setCell ⟨w.heap.size+1,0,none⟩ (.int .i64 1)).setCell ⟨w.heap.size+1,1,none⟩ (.slice none 0 0)=w9 at *;obtain⟨e0,e1⟩:=z9.c2
  refine bodyPost_ret (v:=.agg #[.int .i64 1,.slice none 0 0]) V71 rfl ⟨by rw[HE.out],y9⟩
 .
  have HE:Hid ((jF a).1=2):=by show _=_;unfold jF;rw[hs];rfl
  rw[hs]at k1;have z9:=tH (x:=.int .i64 2) (y:=.slice none 0 0) z0
  have y9:Below w.heap.size w ((w1.setCell ⟨w.heap.size+1,0,none⟩ (.int .i64 2)).setCell ⟨w.heap.size+1,1,none⟩ (.slice none 0 0)):=(y0.setCell (Nat.le_succ _) _).setCell (Nat.le_succ _) _
  clear hs;go_wp2_with fail;generalize (w1.setCell ⟨w.heap.size+1,0,none⟩ (.int .i64 2)).setCell ⟨w.heap.size+1,1,none⟩ (.slice none 0 0)=w9 at *;obtain⟨e0,e1⟩:=z9.c2
  refine bodyPost_ret (v:=.agg #[.int .i64 2,.slice none 0 0]) V71 rfl ⟨by rw[HE.out],y9⟩
theorem uC (q:Pr)(vs:List Value)(w:World)(h:aO w q.fl vs)(hn:q.params.length<=1048576):
  Calls Tryz.prog 91 #[agg vs] w fun e w'=>∃kv,e=.returned (.agg #[.int .i64 3,kv])/\(Fl.i (cP q.params)).Rd w' kv/\Below w.heap.size w w':=by
 obtain⟨v0,_,rfl,_,v1,_,rfl,_,v2,_,rfl,h2,v3,_,rfl,_,v4,_,rfl,_,rfl⟩:=h;obtain⟨ap,cp,rfl,hP⟩:=h2.list;rw[List.length_map]
 obtain⟨np,hnp⟩:∃z,z=q.params.length:=⟨_,rfl⟩
 have HNP:Hid (q.params.length=np):=hnp.symm
 rw[<-hnp]at hn ⊢
 have HP:Hid (aS w ap cp 2 (q.params.map Pa.fl)):=hP
 clear hP h2 hnp;have x0:=(Blk.new w 72 [v0,v1,.slice ap np cp,v3,v4]).old (o:=.cells #[.int .i64 0,.slice none 0 0] 148 (0,0));have z0:=Blk.new (w.alloc (.cells #[v0,v1,.slice ap np cp,v3,v4] 72 (0,0))) 148 [.int .i64 0,.slice none 0 0]
 have hg:(w.alloc (.cells #[v0,v1,.slice ap np cp,v3,v4] 72 (0,0))).heap.size=w.heap.size+1:=by simp
 have y0:Below w.heap.size w ((w.alloc (.cells #[v0,v1,.slice ap np cp,v3,v4] 72 (0,0))).alloc (.cells #[.int .i64 0,.slice none 0 0] 148 (0,0))):=((Below.refl _ _).alloc (Nat.le_refl _) _).alloc V15 _
 simp only[List.toArray]at x0 z0;rw[hg]at z0;clear hg;simp only[agg];go_enter Tryz.func91,Tryz.ntmps91;go_upto_region 1 with fail;generalize (w.alloc (.cells #[v0,v1,.slice ap np cp,v3,v4] 72 (0,0))).alloc (.cells #[.int .i64 0,.slice none 0 0] 148 (0,0))=w1 at *;have k2:=x0.cell (i:=2) rfl;have H1:=aKt q.params ap np cp w1 HNP.out (aS.below HP.out y0) hn;go_wp2_with fail;refine H1.mono ?_;rintro e w2 ⟨kv,rfl,ho,hb⟩;have z2:=z0.below hb z0.lt
 have y2:Below w.heap.size w w2:=y0.trans (hb.mono y0.size)
 have As:(cP q.params).length=np:=by unfold cP;rw[List.length_map,HNP.out]
 have hrd:(Fl.i (cP q.params)).Rd w2 kv:=Ob.irow (l:=cP q.params) (by rw[As];exact ho) (mN _)
 obtain⟨ak,ck,rfl,_,_,_,_⟩:=gN ho.own;clear H1 x0 z0 y0 k2;obtain⟨d0,d1⟩:=z2.c2;have f0:=z2.free 0;have f1:=z2.free 1;have z9:=tH (x:=.int .i64 3) (y:=.slice ak np ck) z2
 have y9:Below w.heap.size w ((w2.setCell ⟨w.heap.size+1,0,none⟩ (.int .i64 3)).setCell ⟨w.heap.size+1,1,none⟩ (.slice ak np ck)):=(y2.setCell (Nat.le_succ _) _).setCell (Nat.le_succ _) _
 have hob2:Ob ((w2.setCell ⟨w.heap.size+1,0,none⟩ (.int .i64 3)).setCell ⟨w.heap.size+1,1,none⟩ (.slice ak np ck)) 3 w1.heap.size w2.heap.size (.slice ak np ck) np (iV (cP q.params)):=ho.stays (fun g p1 p2 r=>by
  obtain⟨c,r⟩:=r
  have hne:g ≠ w.heap.size+1:=fun e=>by
   rw[e]at r
   have:=(show w2.heap[w.heap.size+1]?=_ from z2).symm.trans r
   simp only[Option.some.injEq,Obj.cells.injEq]at this
   exact absurd this.2.1 (by decide)
  exact(heap_setCell_other _ ⟨w.heap.size+1,1,none⟩ g _ hne).trans (heap_setCell_other w2 ⟨w.heap.size+1,0,none⟩ g _ hne))
 have HRD:Hid ((Fl.i (cP q.params)).Rd ((w2.setCell ⟨w.heap.size+1,0,none⟩ (.int .i64 3)).setCell ⟨w.heap.size+1,1,none⟩ (.slice ak np ck)) (.slice ak np ck)):=Ob.irow (l:=cP q.params) (by rw[As];exact hob2) (mN _)
 clear hob2 hrd ho;go_wp2_with fail;generalize (w2.setCell ⟨w.heap.size+1,0,none⟩ (.int .i64 3)).setCell ⟨w.heap.size+1,1,none⟩ (.slice ak np ck)=w9 at *;obtain⟨e0,e1⟩:=z9.c2
 refine bodyPost_ret (v:=.agg #[.int .i64 3,.slice ak np ck]) (by simp only[results,Tryz.results91];simp[go_sem,e0,e1]) rfl ⟨_,rfl,HRD.out,y9⟩
structure tL (w w':World) (b k:Nat) (g:List Int->Mn) (x:List Int) (mn:Mn):Prop where
 yes:(g x).1=0->NT w' b (k+1) (nC g x mn)
 no:(g x).1 ≠ 0->NT w' b k g
 grown:w.grownBy w' (some b)
theorem nU (w:World)(b k:Nat)(g:List Int->Mn)(h:NT w b k g)(hk:k<1000000)(a:Option Addr)(n c:Nat)(x:List Int)(hx:bW w a n x)(hn:n<=1048576)(s:Int)(kv:Value)(ks:List Int)(hkv:(Fl.i ks).Rd w kv):
  Calls Tryz.prog 87 #[.map (some b),.slice a n c,.agg #[.int .i64 s,kv]] w fun e w'=>e=.returned (.bool (decide ((g x).1=0)))/\tL w w' b k g x (s,ks):=by
 have hbt:Bt x:=hx.2.1
 have hxl:x.length<=maxLen:=by rw[hx.1];unfold maxLen;omega
 have x0:=Blk.new w 148 [.int .i64 s,kv];have y0:=aC w (.cells #[.int .i64 s,kv] 148 (0,0)) none;have h1:=h.grown y0;have hx1:=hx.below (aA y0);have hkv1:=hkv.below (aA y0);simp only[List.toArray]at x0;clear h hx hkv;go_enter Tryz.func87,Tryz.ntmps87;go_upto_region 1 with fail;generalize w.alloc (.cells #[.int .i64 s,kv] 148 (0,0))=w1 at *
 have HN:Hid (NT w1 b k g):=h1
 obtain⟨f,hf1,hf2⟩:=h1.ex;have kc:=aT c hx1;have hlk:=hf1.lookup hbt hxl;obtain⟨_,ef,a0,c0,rfl,_⟩:=hf2 x hbt;rw[ef]at hlk;generalize (g x).2.length=n0 at *
 have hfd:∀(z:Int) (w:World),(Instr.field 148 (.agg #[.int .i64 z,.slice a0 n0 c0]) 0).run Tryz.prog w=.ok (.int .i64 z) w:=fun z w=>by kernel_rfl
 obtain⟨ak,ck,rfl,hkr⟩:=hkv1;obtain⟨q0,q1⟩:=x0.c2
 have Y0:Hid (w.grownBy w1 none):=y0
 by_cases hz:(g x).1=0
 .
  have HF:Hid (decide ((g x).1=0)=true):=decide_eq_true hz
  have HZ:Hid ((g x).1=0):=hz
  rw[hz]at hlk;clear hz
  go_wp2_with (at_mapUpdate;refine tP rfl _ _ _ rfl hf1 V14 x (.agg #[.int .i64 s,.slice ak ks.length ck]) rfl rfl rfl hbt hxl ?_)
  intro w2 hN2 Be
  have HD:Hid (tL w w2 b k g x (s,ks)):=⟨fun _=>NT.put hf1 hf2 hN2 Be ⟨_,rfl,ak,ck,rfl,hkr⟩,fun e=>absurd HZ.out e,⟨Be.os.trans Y0.out.os,Be.tape.trans Y0.out.tape,Be.output.trans Y0.out.output,Nat.le_trans Y0.out.size Be.size,fun i hi hne=>(Be.block i (Nat.lt_of_lt_of_le hi Y0.out.size) hne).trans (Y0.out.block i hi V15)⟩⟩
  clear hN2 Be hlk hf1 hf2 q0 q1 x0 hkr kc;go_wp2_with fail;go_ret;exact⟨aE HF.out.symm,HD.out⟩
 .
  have HF:Hid (decide ((g x).1=0)=false):=decide_eq_false hz
  have hzb:((g x).1 != 0)=true:=by simpa using hz
  have HD:Hid (tL w w1 b k g x (s,ks)):=⟨fun e=>absurd e hz,fun _=>HN.out,bU Y0.out _⟩
  clear hz hf1 hf2;go_wp2_with fail;go_ret;exact⟨aE HF.out.symm,HD.out⟩
theorem V4{p:Prop}(h:p:=by kernel_rfl):p:=h
theorem U88{p:Prop}(h:p:=by
 clear HS Al HS2 HS3 Aa hM H5 hd c1 c2 c3 hx3 x0 x2 N2
 go_wp2_with fail
 go_ret
 exact⟨rfl,HD.out⟩):p:=h
theorem NT.cell {w w':World}{b k nb i:Nat}{g:List Int->Mn}{v:Value}(h:NT w b k g)(hc:w.cell? ⟨nb,i,none⟩=some v)(hg:w.grownBy w' (some b)):w'.cell? ⟨nb,i,none⟩=some v:=by
 obtain⟨f,hm,_⟩:=h.ex;obtain⟨D,⟨es,cl,hb,_⟩,_⟩:=hm.ex
 have hne:nb ≠ b:=fun e=>by rw[e,wX hb]at hc;cases hc
 have:=hg.block nb (World.block_lt_of_cell? w _ hc) (by simpa using hne)
 unfold World.cell? at hc ⊢
 simp only at hc ⊢
 rw[this];exact hc
theorem cO {w0 w w':World}{b:Nat}(hb:Below w0.heap.size w0 w)(hg:w.grownBy w' (some b))(h0:w0.heap.size<=b):Below w0.heap.size w0 w':=hb.grown hg hb.size (fun k hk=>by cases hk;exact h0)
theorem iN {w w1 w':World}{b:Nat}(hg:w.grownBy w1 none)(h:w1.grownBy w' (some b)):w.grownBy w' (some b):=aD (bU hg _) h
theorem tL.from {w w1 w':World}{b k:Nat}{g:List Int->Mn}{x:List Int}{mn:Mn}(hg:w.grownBy w1 none)(h:tL w1 w' b k g x mn):tL w w' b k g x mn:=⟨h.yes,h.no,iN hg h.grown⟩
theorem nV (G nb b k:Nat)(g:List Int->Mn)(mkv:List Value->Value)(w0:World)(a:Option Addr)(c K:Nat)(rs:List (List Fl))(l:List (List Int × Mn))(hlen:rs.length=l.length)(ent:Ent G)(each:∀r ∈ rs,r.length=K)(hL:aS w0 a c K rs)(Ar:w0.heap.size<=b)(hk:k+l.length<=1000000)
  (HG:∀(j:Nat) (r:List Fl) (p:List Int × Mn) (wr:World) (vs:List Value) (g':List Int->Mn) (k':Nat),rs[j]?=some r->l[j]?=some p->Below w0.heap.size w0 wr->aO wr r vs->NT wr b k' g'->k'<1000000->wr.cell? ⟨nb,0,none⟩=some (.map (some b)) →
   Calls Tryz.prog G (#[mkv vs] ++ #[.pointer (some ⟨nb,0,none⟩)]) wr fun e w'=>e=.returned (.bool (decide ((g' p.1).1=0)))/\tL wr w' b k' g' p.1 p.2):
  aGt false G #[.pointer (some ⟨nb,0,none⟩)] (some b) mkv a c K rs (aCl g l) (fun j wr=>NT wr b (k+j) (stG g (l.take j))/\wr.cell? ⟨nb,0,none⟩=some (.map (some b))/\Below w0.heap.size w0 wr) (fun _ _=>True):=by
 refine⟨ent,fun j wr hi=>hL.below hi.2.2,each, ?_⟩
 rintro j r wr vs hr ⟨hN,hc,hb⟩ Ad _
 obtain⟨p,hp⟩:∃p,l[j]?=some p:=⟨_,List.getElem?_eq_getElem (by rw[<-hlen];exact(List.getElem?_eq_some_iff.1 hr).1)⟩
 have hj:j<l.length:=(List.getElem?_eq_some_iff.1 hp).1;refine(HG j r p wr vs _ _ hr hp hb Ad hN V6 hc).mono ?_;rintro e w' ⟨rfl,hd⟩
 have ef:aCl g l j=decide ((stG g (l.take j) p.1).1=0):=by unfold aCl;rw[hp];rfl
 refine⟨by rw[ef],hd.grown,fun Bc=>?_,fun _=>trivial⟩
 rw[ef]at Bc
 have hz:(stG g (l.take j) p.1).1=0:=by simpa using Bc
 refine⟨?_,hN.cell hc hd.grown,cO hb hd.grown Ar⟩
 have:=hd.yes hz
 rw[vR hp];exact this
theorem lH {n nb b k:Nat}{g:List Int->Mn}{w0 w':World}{l:List (List Int × Mn)}{r:Bool}(hn:l.length=n)
  (h:aJf false n (aCl g l) (fun j wr=>NT wr b (k+j) (stG g (l.take j))/\wr.cell? ⟨nb,0,none⟩=some (.map (some b))/\Below w0.heap.size w0 wr) (fun _ _=>True) (!r) w'):r=okG g l/\(r=true->NT w' b (k+n) (stG g l)):=by
 refine⟨?_,fun e=>?_⟩
 .
  unfold okG;rw[hn];exact fV h
 .
  have h2:=(h.no (by rw[e];rfl)).2.1
  rw[List.take_of_length_le V6]at h2;exact h2
theorem mC {b k nb:Nat}{g:List Int->Mn}{w0:World}{l:List (List Int × Mn)}:∀j w w',(NT w b (k+j) (stG g (l.take j))/\w.cell? ⟨nb,0,none⟩=some (.map (some b))/\Below w0.heap.size w0 w)->w.grownBy w' none->(NT w' b (k+j) (stG g (l.take j))/\w'.cell? ⟨nb,0,none⟩=some (.map (some b))/\Below w0.heap.size w0 w'):=
 fun j w w' h hg=>⟨h.1.grown hg,aB h.2.1 (aA hg),h.2.2.trans ((aA hg).mono h.2.2.size)⟩
theorem aMg (x:Va)(vs:List Value)(w:World)(b k nb:Nat)(g:List Int->Mn)(h:aO w x.fl vs)(hN:NT w b k g)(hk:k<1000000)(hc:w.cell? ⟨nb,0,none⟩=some (.map (some b)))(hnl:x.name.length<=1048576):
  Calls Tryz.prog 86 #[agg vs,.pointer (some ⟨nb,0,none⟩)] w fun e w'=>e=.returned (.bool (decide ((g x.name).1=0)))/\tL w w' b k g x.name (kT x):=by
 have hh:=h;obtain⟨v0,_,rfl,⟨ax,cx,rfl,hbx,_⟩,v1,_,rfl,_,rfl⟩:=hh;have x0:=Blk.new w 125 [.slice ax x.name.length cx,v1];have y0:=aC w (.cells #[.slice ax x.name.length cx,v1] 125 (0,0)) none;have N1:=hN.grown y0;have c1:=aB hc (aA y0)
 have HX:Hid (bW (w.alloc (.cells #[.slice ax x.name.length cx,v1] 125 (0,0))) ax x.name.length x.name):=hbx.below (aA y0)
 have Ai:w.heap.size<(w.alloc (.cells #[.slice ax x.name.length cx,v1] 125 (0,0))).heap.size:=x0.lt
 simp only[List.toArray]at x0;simp only[agg]at h ⊢;go_enter Tryz.func86,Tryz.ntmps86;go_upto_region 1 with fail
 have hM:Calls Tryz.prog 88 #[.agg #[.slice ax x.name.length cx,v1]] (w.alloc (.cells #[.slice ax x.name.length cx,v1] 125 (0,0))).drew _:=xH x [.slice ax x.name.length cx,v1] (w.alloc (.cells #[.slice ax x.name.length cx,v1] 125 (0,0))).drew (aO.below h ((aA y0).drew))
 generalize w.alloc (.cells #[.slice ax x.name.length cx,v1] 125 (0,0))=w1 at *
 have Y0:Hid (w.grownBy w1 none):=y0
 have HN1:Hid (NT w1 b k g):=N1
 clear hN N1 h hbx hc y0;go_wp2_with fail
 have HS:∀{wl:World},wl.cell? ⟨nb,0,none⟩=some (.map (some b))->Blk wl w.heap.size 125 [.slice ax x.name.length cx,v1]->wl.cell? ⟨nb,0,none⟩=some (.map (some b))/\wl.cell? ⟨w.heap.size,0,none⟩=some (.slice ax x.name.length cx)/\wl.cell? ⟨w.heap.size,1,none⟩=some (v1):=fun h1 h2=>⟨h1,h2.cell (i:=0) rfl,h2.cell (i:=1) rfl⟩
 have Al:=HS (wl:=w1.drew) c1 x0
 refine wp_region_held_drew (S:=fun wl=>wl.cell? ⟨nb,0,none⟩=some (.map (some b))/\wl.cell? ⟨w.heap.size,0,none⟩=some (.slice ax x.name.length cx)/\wl.cell? ⟨w.heap.size,1,none⟩=some (v1)) V4 Al (fun Aa=>?_)
 refine ta 0 ?_ Aa;refine ta 1 ?_ Aa;refine ta 2 ?_ Aa;try simp only[nrm]
 refine ta 3 ?_ Aa;try simp only[nrm]
 refine ra 4 fun K hK=>?_
 go_simp
 (with_reducible refine hM.mono ?_)
 rintro e w2 ⟨rfl,b2⟩
 have b12:Below w1.heap.size w1 w2:=(Below.refl w1.heap.size w1).drew.trans b2
 have c2:=aB c1 b12;have x2:=x0.below b12 Ai;have HS2:=HS c2 x2;have N2:=HN1.out.below b12;have H5:=nU w2 b k g N2 hk ax x.name.length cx x.name (bW.below HX.out b12) hnl (kT x).1 (.slice none 0 0) [] (wE w2);go_wp2_with fail
 refine hK.out _ _ (HS2) (fun Aa=>?_)
 clear hK K;try simp only[nrm]
 refine ra 5 fun K hK=>?_
 go_simp
 (with_reducible refine H5.mono ?_)
 rintro e w3 ⟨rfl,hd⟩;have c3:=N2.cell c2 hd.grown
 have hx3:w3.cell? ⟨w.heap.size,0,none⟩=some (.slice ax x.name.length cx)/\w3.cell? ⟨w.heap.size,1,none⟩=some (v1):=⟨N2.cell (x2.cell (i:=0) rfl) hd.grown,N2.cell (x2.cell (i:=1) rfl) hd.grown⟩
 have HS3:w3.cell? ⟨nb,0,none⟩=some (.map (some b))/\w3.cell? ⟨w.heap.size,0,none⟩=some (.slice ax x.name.length cx)/\w3.cell? ⟨w.heap.size,1,none⟩=some (v1):=⟨c3,hx3⟩
 go_wp2_with fail
 refine hK.out _ _ (HS3) (fun Aa=>?_)
 clear hK K;try simp only[nrm]
 refine ta 6 ?_ Aa;try simp only[nrm]
 refine wpAnyH_done V4 ?_ _
 have HD:Hid (tL w w3 b k g x.name (kT x)):=tL.from (aD Y0.out (aI b12 none)) hd
 exact U88
theorem aK9 (x:Pr)(vs:List Value)(w:World)(b k nb:Nat)(g:List Int->Mn)(h:aO w x.fl vs)(hN:NT w b k g)(hk:k<1000000)(hc:w.cell? ⟨nb,0,none⟩=some (.map (some b)))(hnl:x.name.length<=1048576)(hpl:x.params.length<=1048576):
  Calls Tryz.prog 90 #[agg vs,.pointer (some ⟨nb,0,none⟩)] w fun e w'=>e=.returned (.bool (decide ((g x.name).1=0)))/\tL w w' b k g x.name (pR x):=by
 have hh:=h;obtain⟨v0,_,rfl,⟨ax,cx,rfl,hbx,_⟩,v1,_,rfl,_,v2,_,rfl,_,v3,_,rfl,_,v4,_,rfl,_,rfl⟩:=hh;have x0:=Blk.new w 72 [.slice ax x.name.length cx,v1,v2,v3,v4];have y0:=aC w (.cells #[.slice ax x.name.length cx,v1,v2,v3,v4] 72 (0,0)) none;have N1:=hN.grown y0;have c1:=aB hc (aA y0)
 have HX:Hid (bW (w.alloc (.cells #[.slice ax x.name.length cx,v1,v2,v3,v4] 72 (0,0))) ax x.name.length x.name):=hbx.below (aA y0)
 have Ai:w.heap.size<(w.alloc (.cells #[.slice ax x.name.length cx,v1,v2,v3,v4] 72 (0,0))).heap.size:=x0.lt
 simp only[List.toArray]at x0;simp only[agg]at h ⊢;go_enter Tryz.func90,Tryz.ntmps90;go_upto_region 1 with fail
 have hM:Calls Tryz.prog 91 #[.agg #[.slice ax x.name.length cx,v1,v2,v3,v4]] (w.alloc (.cells #[.slice ax x.name.length cx,v1,v2,v3,v4] 72 (0,0))).drew _:=uC x [.slice ax x.name.length cx,v1,v2,v3,v4] (w.alloc (.cells #[.slice ax x.name.length cx,v1,v2,v3,v4] 72 (0,0))).drew (aO.below h ((aA y0).drew)) hpl
 generalize w.alloc (.cells #[.slice ax x.name.length cx,v1,v2,v3,v4] 72 (0,0))=w1 at *
 have Y0:Hid (w.grownBy w1 none):=y0
 have HN1:Hid (NT w1 b k g):=N1
 clear hN N1 h hbx hc y0;go_wp2_with fail
 have HS:∀{wl:World},wl.cell? ⟨nb,0,none⟩=some (.map (some b))->Blk wl w.heap.size 72 [.slice ax x.name.length cx,v1,v2,v3,v4]->wl.cell? ⟨nb,0,none⟩=some (.map (some b))/\wl.cell? ⟨w.heap.size,0,none⟩=some (.slice ax x.name.length cx)/\wl.cell? ⟨w.heap.size,1,none⟩=some (v1)/\wl.cell? ⟨w.heap.size,2,none⟩=some (v2)/\wl.cell? ⟨w.heap.size,3,none⟩=some (v3)/\wl.cell? ⟨w.heap.size,4,none⟩=some (v4):=fun h1 h2=>⟨h1,h2.cell (i:=0) rfl,h2.cell (i:=1) rfl,h2.cell (i:=2) rfl,h2.cell (i:=3) rfl,h2.cell (i:=4) rfl⟩
 have Al:=HS (wl:=w1.drew) c1 x0
 refine wp_region_held_drew (S:=fun wl=>wl.cell? ⟨nb,0,none⟩=some (.map (some b))/\wl.cell? ⟨w.heap.size,0,none⟩=some (.slice ax x.name.length cx)/\wl.cell? ⟨w.heap.size,1,none⟩=some (v1)/\wl.cell? ⟨w.heap.size,2,none⟩=some (v2)/\wl.cell? ⟨w.heap.size,3,none⟩=some (v3)/\wl.cell? ⟨w.heap.size,4,none⟩=some (v4)) V4 Al (fun Aa=>?_)
 refine ta 0 ?_ Aa;refine ta 1 ?_ Aa;refine ta 2 ?_ Aa;try simp only[nrm]
 refine ta 3 ?_ Aa;try simp only[nrm]
 refine ra 4 fun K hK=>?_
 go_simp
 (with_reducible refine hM.mono ?_)
 rintro e w2 ⟨kv,rfl,hkv,b2⟩
 have b12:Below w1.heap.size w1 w2:=(Below.refl w1.heap.size w1).drew.trans b2
 have c2:=aB c1 b12;have x2:=x0.below b12 Ai;have HS2:=HS c2 x2;have N2:=HN1.out.below b12;have H5:=nU w2 b k g N2 hk ax x.name.length cx x.name (bW.below HX.out b12) hnl 3 kv (cP x.params) hkv;go_wp2_with fail
 refine hK.out _ _ (HS2) (fun Aa=>?_)
 clear hK K;try simp only[nrm]
 refine ra 5 fun K hK=>?_
 go_simp
 (with_reducible refine H5.mono ?_)
 rintro e w3 ⟨rfl,hd⟩;have c3:=N2.cell c2 hd.grown
 have hx3:w3.cell? ⟨w.heap.size,0,none⟩=some (.slice ax x.name.length cx)/\w3.cell? ⟨w.heap.size,1,none⟩=some (v1)/\w3.cell? ⟨w.heap.size,2,none⟩=some (v2)/\w3.cell? ⟨w.heap.size,3,none⟩=some (v3)/\w3.cell? ⟨w.heap.size,4,none⟩=some (v4):=⟨N2.cell (x2.cell (i:=0) rfl) hd.grown,N2.cell (x2.cell (i:=1) rfl) hd.grown,N2.cell (x2.cell (i:=2) rfl) hd.grown,N2.cell (x2.cell (i:=3) rfl) hd.grown,N2.cell (x2.cell (i:=4) rfl) hd.grown⟩
 have HS3:w3.cell? ⟨nb,0,none⟩=some (.map (some b))/\w3.cell? ⟨w.heap.size,0,none⟩=some (.slice ax x.name.length cx)/\w3.cell? ⟨w.heap.size,1,none⟩=some (v1)/\w3.cell? ⟨w.heap.size,2,none⟩=some (v2)/\w3.cell? ⟨w.heap.size,3,none⟩=some (v3)/\w3.cell? ⟨w.heap.size,4,none⟩=some (v4):=⟨c3,hx3⟩
 go_wp2_with fail
 refine hK.out _ _ (HS3) (fun Aa=>?_)
 clear hK K;try simp only[nrm]
 refine ta 6 ?_ Aa;try simp only[nrm]
 refine wpAnyH_done V4 ?_ _
 have HD:Hid (tL w w3 b k g x.name (pR x)):=tL.from (aD Y0.out (aI b12 none)) hd
 exact U88
theorem aMe (x:Pa)(vs:List Value)(w:World)(b k nb:Nat)(g:List Int->Mn)(h:aO w x.fl vs)(hN:NT w b k g)(hk:k<1000000)(hc:w.cell? ⟨nb,0,none⟩=some (.map (some b)))(hnl:x.name.length<=1048576):
  Calls Tryz.prog 142 #[agg vs,.pointer (some ⟨nb,0,none⟩)] w fun e w'=>e=.returned (.bool (decide ((g x.name).1=0)))/\tL w w' b k g x.name (jF x):=by
 have hh:=h;obtain⟨v0,_,rfl,⟨ax,cx,rfl,hbx,_⟩,v1,_,rfl,_,rfl⟩:=hh;have x0:=Blk.new w 128 [.slice ax x.name.length cx,v1];have y0:=aC w (.cells #[.slice ax x.name.length cx,v1] 128 (0,0)) none;have N1:=hN.grown y0;have c1:=aB hc (aA y0)
 have HX:Hid (bW (w.alloc (.cells #[.slice ax x.name.length cx,v1] 128 (0,0))) ax x.name.length x.name):=hbx.below (aA y0)
 have Ai:w.heap.size<(w.alloc (.cells #[.slice ax x.name.length cx,v1] 128 (0,0))).heap.size:=x0.lt
 simp only[List.toArray]at x0;simp only[agg]at h ⊢;go_enter Tryz.func142,Tryz.ntmps142;go_upto_region 1 with fail
 have hM:Calls Tryz.prog 143 #[.agg #[.slice ax x.name.length cx,v1]] (w.alloc (.cells #[.slice ax x.name.length cx,v1] 128 (0,0))).drew _:=yW x [.slice ax x.name.length cx,v1] (w.alloc (.cells #[.slice ax x.name.length cx,v1] 128 (0,0))).drew (aO.below h ((aA y0).drew))
 generalize w.alloc (.cells #[.slice ax x.name.length cx,v1] 128 (0,0))=w1 at *
 have Y0:Hid (w.grownBy w1 none):=y0
 have HN1:Hid (NT w1 b k g):=N1
 clear hN N1 h hbx hc y0;go_wp2_with fail
 have HS:∀{wl:World},wl.cell? ⟨nb,0,none⟩=some (.map (some b))->Blk wl w.heap.size 128 [.slice ax x.name.length cx,v1]->wl.cell? ⟨nb,0,none⟩=some (.map (some b))/\wl.cell? ⟨w.heap.size,0,none⟩=some (.slice ax x.name.length cx)/\wl.cell? ⟨w.heap.size,1,none⟩=some (v1):=fun h1 h2=>⟨h1,h2.cell (i:=0) rfl,h2.cell (i:=1) rfl⟩
 have Al:=HS (wl:=w1.drew) c1 x0
 refine wp_region_held_drew (S:=fun wl=>wl.cell? ⟨nb,0,none⟩=some (.map (some b))/\wl.cell? ⟨w.heap.size,0,none⟩=some (.slice ax x.name.length cx)/\wl.cell? ⟨w.heap.size,1,none⟩=some (v1)) V4 Al (fun Aa=>?_)
 refine ta 0 ?_ Aa;refine ta 1 ?_ Aa;refine ta 2 ?_ Aa;try simp only[nrm]
 refine ta 3 ?_ Aa;try simp only[nrm]
 refine ra 4 fun K hK=>?_
 go_simp
 (with_reducible refine hM.mono ?_)
 rintro e w2 ⟨rfl,b2⟩
 have b12:Below w1.heap.size w1 w2:=(Below.refl w1.heap.size w1).drew.trans b2
 have c2:=aB c1 b12;have x2:=x0.below b12 Ai;have HS2:=HS c2 x2;have N2:=HN1.out.below b12;have H5:=nU w2 b k g N2 hk ax x.name.length cx x.name (bW.below HX.out b12) hnl (jF x).1 (.slice none 0 0) [] (wE w2);go_wp2_with fail
 refine hK.out _ _ (HS2) (fun Aa=>?_)
 clear hK K;try simp only[nrm]
 refine ra 5 fun K hK=>?_
 go_simp
 (with_reducible refine H5.mono ?_)
 rintro e w3 ⟨rfl,hd⟩;have c3:=N2.cell c2 hd.grown
 have hx3:w3.cell? ⟨w.heap.size,0,none⟩=some (.slice ax x.name.length cx)/\w3.cell? ⟨w.heap.size,1,none⟩=some (v1):=⟨N2.cell (x2.cell (i:=0) rfl) hd.grown,N2.cell (x2.cell (i:=1) rfl) hd.grown⟩
 have HS3:w3.cell? ⟨nb,0,none⟩=some (.map (some b))/\w3.cell? ⟨w.heap.size,0,none⟩=some (.slice ax x.name.length cx)/\w3.cell? ⟨w.heap.size,1,none⟩=some (v1):=⟨c3,hx3⟩
 go_wp2_with fail
 refine hK.out _ _ (HS3) (fun Aa=>?_)
 clear hK K;try simp only[nrm]
 refine ta 6 ?_ Aa;try simp only[nrm]
 refine wpAnyH_done V4 ?_ _
 have HD:Hid (tL w w3 b k g x.name (jF x)):=tL.from (aD Y0.out (aI b12 none)) hd
 exact U88
theorem aMf (x:List Int)(v:Value)(w:World)(b k nb:Nat)(g:List Int->Mn)(h:(Fl.b x).Rd w v)(hN:NT w b k g)(hk:k<1000000)(hc:w.cell? ⟨nb,0,none⟩=some (.map (some b)))(hnl:x.length<=1048576):
  Calls Tryz.prog 145 #[v,.pointer (some ⟨nb,0,none⟩)] w fun e w'=>e=.returned (.bool (decide ((g x).1=0)))/\tL w w' b k g x (1,[]):=by
 obtain⟨ax,cx,rfl,hbx,_⟩:=h;have H5:=nU w b k g hN hk ax x.length cx x hbx hnl 1 (.slice none 0 0) [] (wE w);clear hN hbx;go_enter Tryz.func145,Tryz.ntmps145;go_wp2_with fail;refine H5.mono ?_;rintro e w2 ⟨rfl,hd⟩
 have HD:Hid _:=hd
 clear H5 hd hc;go_wp2_with fail;go_ret;exact⟨rfl,HD.out⟩
theorem V56{p:Prop}(h:p:=by intro r hr;obtain⟨y,_,rfl⟩:=List.mem_map.1 hr;rfl):p:=h
theorem U104{p:Prop}(h:p:=by
 go_wp2_with fail
 go_ret
 exact⟨aE HF.out.symm,by rw[HF.out];exact HD.out⟩):p:=h
theorem U110{p:Prop}(h:p:=by
 clear er1 hN2 HO1 x2 q2 x0 x1 q0 N1
 go_wp2_with fail
 go_ret
 exact⟨aE HF.out.symm,⟨fun e=>absurd (HF.out.symm.trans e) V15,G2.out⟩⟩):p:=h
structure Dn (w w':World) (b k:Nat) (g:List Int->Mn) (ok:Bool):Prop where
 yes:ok=true->NT w' b k g
 grown:w.grownBy w' (some b)
theorem pJ (x:Mo)(vs:List Value)(w0 w:World)(b k:Nat)(g:List Int->Mn)(h:aO w0 x.fl vs)(hw:Below w0.heap.size w0 w)(Ar:w0.heap.size<=b)(hN:NT w b k g)(hk:k+(x.vars.map fun v=>(v.name,kT v)).length+(x.procs.map fun q=>(q.name,pR q)).length<=1000000)(HB1:Hid (∀v ∈ x.vars,v.name.length<=1048576))(HB2:Hid (∀q ∈ x.procs,q.name.length<=1048576/\q.params.length<=1048576)):
  Calls Tryz.prog 37 #[.map (some b),agg vs] w fun e w'=>e=.returned (.bool (okG g (x.vars.map fun v=>(v.name,kT v)) && okG (stG g (x.vars.map fun v=>(v.name,kT v))) (x.procs.map fun q=>(q.name,pR q))))/\Dn w w' b (k+(x.vars.map fun v=>(v.name,kT v)).length+(x.procs.map fun q=>(q.name,pR q)).length) (stG (stG g (x.vars.map fun v=>(v.name,kT v))) (x.procs.map fun q=>(q.name,pR q))) (okG g (x.vars.map fun v=>(v.name,kT v)) && okG (stG g (x.vars.map fun v=>(v.name,kT v))) (x.procs.map fun q=>(q.name,pR q))):=by
 have hmf:∀(fn:Fn) (first cap:Array Value) (w:World),(Instr.makeFunc fn first cap).run Tryz.prog w=.ok (.func fn first cap) w:=fun _ _ _ _=>rfl
 obtain⟨v0,_,rfl,h0,v1,_,rfl,h1,v2,_,rfl,h2,v3,_,rfl,h3,rfl⟩:=h;obtain⟨a1,c1,rfl,hL1⟩:=h2.list;obtain⟨a2,c2,rfl,hL2⟩:=h3.list
 have el1:(x.vars.map Va.fl).length=(x.vars.map fun v=>(v.name,kT v)).length:=by simp[bH]
 have el2:(x.procs.map Pr.fl).length=(x.procs.map fun q=>(q.name,pR q)).length:=by simp[bH]
 rw[el1,el2]
 obtain⟨n1,hn1⟩:∃z,z=(x.vars.map fun v=>(v.name,kT v)).length:=⟨_,rfl⟩
 obtain⟨n2,hn2⟩:∃z,z=(x.procs.map fun q=>(q.name,pR q)).length:=⟨_,rfl⟩
 have HN1:Hid ((x.vars.map fun v=>(v.name,kT v)).length=n1):=hn1.symm
 have HN2:Hid ((x.procs.map fun q=>(q.name,pR q)).length=n2):=hn2.symm
 have HL1:Hid (aS w0 a1 c1 2 (x.vars.map Va.fl)):=hL1
 have HL2:Hid (aS w0 a2 c2 5 (x.procs.map Pr.fl)):=hL2
 rw[<-hn1,<-hn2];rw[<-hn1,<-hn2]at hk;clear hL1 hL2 h2 h3 hn1 hn2;have x0:=(Blk.new w 82 [.map (some b)]).old (o:=.cells #[v0,v1,.slice a1 n1 c1,.slice a2 n2 c2] 35 (0,0));have x1:=Blk.new (w.alloc (.cells #[.map (some b)] 82 (0,0))) 35 [v0,v1,.slice a1 n1 c1,.slice a2 n2 c2]
 have hg1:(w.alloc (.cells #[.map (some b)] 82 (0,0))).heap.size=w.heap.size+1:=by simp
 have y0:w.grownBy ((w.alloc (.cells #[.map (some b)] 82 (0,0))).alloc (.cells #[v0,v1,.slice a1 n1 c1,.slice a2 n2 c2] 35 (0,0))) none:=aD (aC w _ none) (aC _ _ none)
 have N1:=hN.grown y0;have hw1:=hw.trans ((aA y0).mono hw.size);simp only[List.toArray]at x0 x1;rw[hg1]at x1
 have HW:Hid (w.heap.size<=w.heap.size):=Nat.le_refl _
 clear hg1 hN hw;simp only[agg];go_enter Tryz.func37,Tryz.ntmps37;go_upto_region 1 with fail;generalize (w.alloc (.cells #[.map (some b)] 82 (0,0))).alloc (.cells #[v0,v1,.slice a1 n1 c1,.slice a2 n2 c2] 35 (0,0))=w1 at *;have q0:=x0.cell (i:=0) rfl;have k1:=x1.cell (i:=2) rfl
 have A1:=nV 86 w.heap.size b k g agg w0 a1 c1 2 (x.vars.map Va.fl) (x.vars.map fun v=>(v.name,kT v)) el1 (cK Tryz.func86 rfl rfl) V56 HL1.out Ar (by rw[HN1.out];omega) (by
  intro j r p wr vs g' k' hr hp hbw Ad hNT hk' hc;rw[List.getElem?_map]at hr hp;obtain⟨z,hz,rfl⟩:=Option.map_eq_some_iff.1 hr;rw[hz]at hp;simp only[Option.map_some,Option.some.injEq]at hp;subst hp
  exact aMg z vs wr b k' w.heap.size g' Ad hNT hk' hc (HB1.out z (List.mem_of_getElem? hz)))
 have H1:=aGp 86 #[.pointer (some ⟨w.heap.size,0,none⟩)] (some b) a1 n1 c1 (x.vars.map Va.fl) _ _ _ w1 A1 (by rw[el1,HN1.out]) ⟨by simpa [stG] using N1,q0,hw1⟩ mC (fun j hj=>by cases hj;exact N1.lt) (cK Tryz.func137 rfl rfl)
 have HO1:Hid (okG g (x.vars.map fun v=>(v.name,kT v))=okG g (x.vars.map fun v=>(v.name,kT v))):=rfl
 go_wp2_with fail;refine H1.mono ?_;rintro e w2 ⟨r1,rfl,Be,ht2⟩;obtain⟨er1,hN2⟩:=lH HN1.out ht2;have q2:=N1.cell q0 Be
 have x2:w2.cell? ⟨w.heap.size+1,3,none⟩=some (.slice a2 n2 c2):=N1.cell (x1.cell (i:=3) rfl) Be
 have hw2:=cO hw1 Be Ar
 have G2:Hid (w.grownBy w2 (some b)):=iN y0 Be
 clear H1 A1 ht2 k1 Be;cases r1
 .
  have HF:Hid ((okG g (x.vars.map fun v=>(v.name,kT v)) && okG (stG g (x.vars.map fun v=>(v.name,kT v))) (x.procs.map fun q=>(q.name,pR q)))=false):=by show _=_;rw[<-er1];rfl
  exact U110
 .
  have N2:=hN2 rfl
  have ER1:Hid (okG g (x.vars.map fun v=>(v.name,kT v))=true):=er1.symm
  clear er1 hN2 HO1
  have A2:=nV 90 w.heap.size b (k+n1) (stG g (x.vars.map fun v=>(v.name,kT v))) agg w0 a2 c2 5 (x.procs.map Pr.fl) (x.procs.map fun q=>(q.name,pR q)) el2 (cK Tryz.func90 rfl rfl) V56 HL2.out Ar (by rw[HN2.out];omega) (by
   intro j r p wr vs g' k' hr hp hbw Ad hNT hk' hc;rw[List.getElem?_map]at hr hp;obtain⟨z,hz,rfl⟩:=Option.map_eq_some_iff.1 hr;rw[hz]at hp;simp only[Option.map_some,Option.some.injEq]at hp;subst hp
   exact aK9 z vs wr b k' w.heap.size g' Ad hNT hk' hc (HB2.out z (List.mem_of_getElem? hz)).1 (HB2.out z (List.mem_of_getElem? hz)).2)
  have H2:=rM 90 #[.pointer (some ⟨w.heap.size,0,none⟩)] (some b) a2 n2 c2 (x.procs.map Pr.fl) _ _ _ w2 A2 (by rw[el2,HN2.out]) ⟨by simpa [stG] using N2,q2,hw2⟩ mC (fun j hj=>by cases hj;exact N2.lt) (cK Tryz.func139 rfl rfl)
  clear x0 x1 q0 N1 A2;go_wp2_with fail;refine H2.mono ?_;rintro e w3 ⟨r2,rfl,hg3,ht3⟩;obtain⟨er2,hN3⟩:=lH HN2.out ht3
  have HF:Hid ((okG g (x.vars.map fun v=>(v.name,kT v)) && okG (stG g (x.vars.map fun v=>(v.name,kT v))) (x.procs.map fun q=>(q.name,pR q)))=r2):=by show _=_;rw[ER1.out,<-er2];rfl
  have HD:Hid (Dn w w3 b (k+n1+n2) (stG (stG g (x.vars.map fun v=>(v.name,kT v))) (x.procs.map fun q=>(q.name,pR q))) r2):=⟨hN3,aD G2.out hg3⟩
  clear H2 er2 hN3 ht3 hg3 x2 q2 N2;exact U104
theorem aGl (x:Pr)(vs:List Value)(w0 w:World)(b k:Nat)(g:List Int->Mn)(h:aO w0 x.fl vs)(hw:Below w0.heap.size w0 w)(Ar:w0.heap.size<=b)(hN:NT w b k g)(hk:k+(x.params.map fun a=>(a.name,jF a)).length+(x.locals.map fun y=>(y,((1,[]):Mn))).length<=1000000)(HB1:Hid (∀a ∈ x.params,a.name.length<=1048576))(HB2:Hid (∀y ∈ x.locals,y.length<=1048576)):
  Calls Tryz.prog 93 #[.map (some b),agg vs] w fun e w'=>e=.returned (.bool (okG g (x.params.map fun a=>(a.name,jF a)) && okG (stG g (x.params.map fun a=>(a.name,jF a))) (x.locals.map fun y=>(y,((1,[]):Mn)))))/\Dn w w' b (k+(x.params.map fun a=>(a.name,jF a)).length+(x.locals.map fun y=>(y,((1,[]):Mn))).length) (stG (stG g (x.params.map fun a=>(a.name,jF a))) (x.locals.map fun y=>(y,((1,[]):Mn)))) (okG g (x.params.map fun a=>(a.name,jF a)) && okG (stG g (x.params.map fun a=>(a.name,jF a))) (x.locals.map fun y=>(y,((1,[]):Mn)))):=by
 have hmf:∀(fn:Fn) (first cap:Array Value) (w:World),(Instr.makeFunc fn first cap).run Tryz.prog w=.ok (.func fn first cap) w:=fun _ _ _ _=>rfl
 obtain⟨v0,_,rfl,h0,v1,_,rfl,h1,v2,_,rfl,h2,v3,_,rfl,h3,v4,_,rfl,h4,rfl⟩:=h;obtain⟨a1,c1,rfl,hL1⟩:=h2.list;obtain⟨a2,c2,rfl,hL2⟩:=h3.list
 have el1:(x.params.map Pa.fl).length=(x.params.map fun a=>(a.name,jF a)).length:=by simp[bH]
 have el2:(bH x.locals).length=(x.locals.map fun y=>(y,((1,[]):Mn))).length:=by simp[bH]
 rw[el1,el2]
 obtain⟨n1,hn1⟩:∃z,z=(x.params.map fun a=>(a.name,jF a)).length:=⟨_,rfl⟩
 obtain⟨n2,hn2⟩:∃z,z=(x.locals.map fun y=>(y,((1,[]):Mn))).length:=⟨_,rfl⟩
 have HN1:Hid ((x.params.map fun a=>(a.name,jF a)).length=n1):=hn1.symm
 have HN2:Hid ((x.locals.map fun y=>(y,((1,[]):Mn))).length=n2):=hn2.symm
 have HL1:Hid (aS w0 a1 c1 2 (x.params.map Pa.fl)):=hL1
 have HL2:Hid (aS w0 a2 c2 1 (bH x.locals)):=hL2
 rw[<-hn1,<-hn2];rw[<-hn1,<-hn2]at hk;clear hL1 hL2 h2 h3 hn1 hn2;have x0:=(Blk.new w 82 [.map (some b)]).old (o:=.cells #[v0,v1,.slice a1 n1 c1,.slice a2 n2 c2,v4] 72 (0,0));have x1:=Blk.new (w.alloc (.cells #[.map (some b)] 82 (0,0))) 72 [v0,v1,.slice a1 n1 c1,.slice a2 n2 c2,v4]
 have hg1:(w.alloc (.cells #[.map (some b)] 82 (0,0))).heap.size=w.heap.size+1:=by simp
 have y0:w.grownBy ((w.alloc (.cells #[.map (some b)] 82 (0,0))).alloc (.cells #[v0,v1,.slice a1 n1 c1,.slice a2 n2 c2,v4] 72 (0,0))) none:=aD (aC w _ none) (aC _ _ none)
 have N1:=hN.grown y0;have hw1:=hw.trans ((aA y0).mono hw.size);simp only[List.toArray]at x0 x1;rw[hg1]at x1
 have HW:Hid (w.heap.size<=w.heap.size):=Nat.le_refl _
 clear hg1 hN hw;simp only[agg];go_enter Tryz.func93,Tryz.ntmps93;go_upto_region 1 with fail;generalize (w.alloc (.cells #[.map (some b)] 82 (0,0))).alloc (.cells #[v0,v1,.slice a1 n1 c1,.slice a2 n2 c2,v4] 72 (0,0))=w1 at *;have q0:=x0.cell (i:=0) rfl;have k1:=x1.cell (i:=2) rfl
 have A1:=nV 142 w.heap.size b k g agg w0 a1 c1 2 (x.params.map Pa.fl) (x.params.map fun a=>(a.name,jF a)) el1 (cK Tryz.func142 rfl rfl) V56 HL1.out Ar (by rw[HN1.out];omega) (by
  intro j r p wr vs g' k' hr hp hbw Ad hNT hk' hc;rw[List.getElem?_map]at hr hp;obtain⟨z,hz,rfl⟩:=Option.map_eq_some_iff.1 hr;rw[hz]at hp;simp only[Option.map_some,Option.some.injEq]at hp;subst hp
  exact aMe z vs wr b k' w.heap.size g' Ad hNT hk' hc (HB1.out z (List.mem_of_getElem? hz)))
 have H1:=xE 142 #[.pointer (some ⟨w.heap.size,0,none⟩)] (some b) a1 n1 c1 (x.params.map Pa.fl) _ _ _ w1 A1 (by rw[el1,HN1.out]) ⟨by simpa [stG] using N1,q0,hw1⟩ mC (fun j hj=>by cases hj;exact N1.lt) (cK Tryz.func193 rfl rfl)
 have HO1:Hid (okG g (x.params.map fun a=>(a.name,jF a))=okG g (x.params.map fun a=>(a.name,jF a))):=rfl
 go_wp2_with fail;refine H1.mono ?_;rintro e w2 ⟨r1,rfl,Be,ht2⟩;obtain⟨er1,hN2⟩:=lH HN1.out ht2;have q2:=N1.cell q0 Be
 have x2:w2.cell? ⟨w.heap.size+1,3,none⟩=some (.slice a2 n2 c2):=N1.cell (x1.cell (i:=3) rfl) Be
 have hw2:=cO hw1 Be Ar
 have G2:Hid (w.grownBy w2 (some b)):=iN y0 Be
 clear H1 A1 ht2 k1 Be;cases r1
 .
  have HF:Hid ((okG g (x.params.map fun a=>(a.name,jF a)) && okG (stG g (x.params.map fun a=>(a.name,jF a))) (x.locals.map fun y=>(y,((1,[]):Mn))))=false):=by show _=_;rw[<-er1];rfl
  exact U110
 .
  have N2:=hN2 rfl
  have ER1:Hid (okG g (x.params.map fun a=>(a.name,jF a))=true):=er1.symm
  clear er1 hN2 HO1
  have A2:=nV 145 w.heap.size b (k+n1) (stG g (x.params.map fun a=>(a.name,jF a))) one w0 a2 c2 1 (bH x.locals) (x.locals.map fun y=>(y,((1,[]):Mn))) el2 (cK Tryz.func145 rfl rfl) (by intro r hr;unfold bH at hr;obtain⟨y,_,rfl⟩:=List.mem_map.1 hr;rfl) HL2.out Ar (by rw[HN2.out];omega) (by
   intro j r p wr vs g' k' hr hp hbw Ad hNT hk' hc;unfold bH at hr;rw[List.getElem?_map]at hr hp;obtain⟨z,hz,rfl⟩:=Option.map_eq_some_iff.1 hr;rw[hz]at hp;simp only[Option.map_some,Option.some.injEq]at hp;subst hp;obtain⟨v,us,rfl,hv,rfl⟩:=Ad
   exact aMf z v wr b k' w.heap.size g' hv hNT hk' hc (HB2.out z (List.mem_of_getElem? hz)))
  have H2:=aGq 145 #[.pointer (some ⟨w.heap.size,0,none⟩)] (some b) a2 n2 c2 (bH x.locals) _ _ _ w2 A2 (by rw[el2,HN2.out]) ⟨by simpa [stG] using N2,q2,hw2⟩ mC (fun j hj=>by cases hj;exact N2.lt) (cK Tryz.func194 rfl rfl)
  clear x0 x1 q0 N1 A2;go_wp2_with fail;refine H2.mono ?_;rintro e w3 ⟨r2,rfl,hg3,ht3⟩;obtain⟨er2,hN3⟩:=lH HN2.out ht3
  have HF:Hid ((okG g (x.params.map fun a=>(a.name,jF a)) && okG (stG g (x.params.map fun a=>(a.name,jF a))) (x.locals.map fun y=>(y,((1,[]):Mn))))=r2):=by show _=_;rw[ER1.out,<-er2];rfl
  have HD:Hid (Dn w w3 b (k+n1+n2) (stG (stG g (x.params.map fun a=>(a.name,jF a))) (x.locals.map fun y=>(y,((1,[]):Mn)))) r2):=⟨hN3,aD G2.out hg3⟩
  clear H2 er2 hN3 ht3 hg3 x2 q2 N2;exact U104
theorem V72{p:Prop}(h:p:=by rw[HN1.out];exact Ai):p:=h
theorem U63{p:Prop}(h:p:=by
 go_wp2_with fail
 go_roundw
 case rel=>exact⟨j+1,by omega,by go_num,HF⟩
 case measure=>simp[intOf];omega):p:=h
def eG (g:List Int->Mn)(l:List (List Int)):List Int->Mn:=l.foldl (fun g x=>nC g x (0,[])) g
theorem qB {g:List Int->Mn}{l:List (List Int)}{j:Nat}{x:List Int}(h:l[j]?=some x):eG g (l.take (j+1))=nC (eG g (l.take j)) x (0,[]):=by
 obtain⟨hj,rfl⟩:=List.getElem?_eq_some_iff.1 h;unfold eG;exact U115
theorem aJn (w:World):MnR w zM (0,[]):=⟨.slice none 0 0,rfl,wE w⟩
set_option maxHeartbeats 4000000 in
theorem aGe (x:Pr)(vs:List Value)(w0 w:World)(b k:Nat)(g:List Int->Mn)(h:aO w0 x.fl vs)(hw:Below w0.heap.size w0 w)(Ar:w0.heap.size<=b)(hN:NT w b k g)(HB1:Hid (∀a ∈ x.params,a.name.length<=1048576))(HB2:Hid (∀y ∈ x.locals,y.length<=1048576)):
  Calls Tryz.prog 94 #[.map (some b),agg vs] w fun e w'=>e=.returned (.tuple #[])/\NT w' b k (eG (eG g (x.params.map Pa.name)) x.locals)/\w.grownBy w' (some b):=by
 obtain⟨v0,_,rfl,h0,v1,_,rfl,h1,v2,_,rfl,h2,v3,_,rfl,h3,v4,_,rfl,h4,rfl⟩:=h;obtain⟨a1,c1,rfl,hL1⟩:=h2.list;obtain⟨a2,c2,rfl,hL2⟩:=h3.list
 have e2:(bH x.locals).length=x.locals.length:=by simp[bH]
 have h91:=hL1.len9;have h92:=hL2.len9;rw[e2]at h92;simp only[List.length_map,e2]at h91 ⊢
 obtain⟨n1,hn1⟩:∃z,z=x.params.length:=⟨_,rfl⟩
 obtain⟨n2,hn2⟩:∃z,z=x.locals.length:=⟨_,rfl⟩
 have HN1:Hid (x.params.length=n1):=hn1.symm
 have HN2:Hid (x.locals.length=n2):=hn2.symm
 have HL1:Hid (aS w0 a1 c1 2 (x.params.map Pa.fl)):=hL1
 have HL2:Hid (aS w0 a2 c2 1 (bH x.locals)):=hL2
 rw[<-hn1,<-hn2];rw[<-hn1]at h91;rw[<-hn2]at h92;clear hL1 hL2 h0 h1 h2 h3 h4 hn1 hn2;have x1:=Blk.new w 72 [v0,v1,.slice a1 n1 c1,.slice a2 n2 c2,v4];have y0:=aC w (.cells #[v0,v1,.slice a1 n1 c1,.slice a2 n2 c2,v4] 72 (0,0)) none;have N1:=hN.grown y0;have hw1:=hw.trans ((aA y0).mono hw.size);simp only[List.toArray]at x1;simp only[agg];go_enter Tryz.func94,Tryz.ntmps94;go_upto_region 1 with fail;generalize w.alloc (.cells #[v0,v1,.slice a1 n1 c1,.slice a2 n2 c2,v4] 72 (0,0))=w1 at *;have k2:=x1.cell (i:=2) rfl
 have K3:Hid (w1.cell? ⟨w.heap.size,3,none⟩=some (.slice a2 n2 c2)):=x1.cell (i:=3) rfl
 have S0:Hid (NT w1 b k (eG g ((x.params.map Pa.name).take 0))/\Below w0.heap.size w0 w1/\w.grownBy w1 (some b)/\w1.cell? ⟨w.heap.size,3,none⟩=some (.slice a2 n2 c2)):=⟨by simpa [eG] using N1,hw1,bU y0 _,K3.out⟩
 clear hN hw x1 N1 hw1 y0 K3;go_wp2_with fail;clear k2
 go_loopw [11] (fun i wr=>∃j:Nat,j<=n1/\i=.int .i64 j/\Hid (NT wr b k (eG g ((x.params.map Pa.name).take j))/\Below w0.heap.size w0 wr/\w.grownBy wr (some b)/\wr.cell? ⟨w.heap.size,3,none⟩=some (.slice a2 n2 c2))) (fun i _=>n1-(intOf i).toNat)
 case atStart=>exact⟨0,Nat.zero_le _,rfl,S0⟩
 case round=>
  obtain⟨j,hj,rfl,hst⟩:=hrel;obtain⟨hN,hb,hg,hc3⟩:=hst.out;clear S0 hst
  by_cases Ai:j<n1
  .
   obtain⟨y,hy⟩:∃y,x.params[j]?=some y:=⟨_,List.getElem?_eq_getElem V72⟩
   have hyn:(x.params.map Pa.name)[j]?=some y.name:=by rw[List.getElem?_map,hy];rfl
   have hyl:=HB1.out y (List.mem_of_getElem? hy)
   obtain⟨bx,off,ys,rfl,hys,Ab⟩:=aS.cellsAt HL1.out (show(x.params.map Pa.fl)[j]?=some y.fl by rw[List.getElem?_map,hy];rfl)
   obtain⟨s0,_,rfl,⟨ax,cx,rfl,hbx,_⟩,s1,_,rfl,rfl,rfl⟩:=hys;have r0:=aB (Ab 0 _ rfl) hb;have r1:=aB (Ab 1 _ rfl) hb;rw[Nat.add_zero]at r0;have z5:=Blk.new wr 128 [.slice ax y.name.length cx,.bool y.arr];have g5:=aC wr (.cells #[.slice ax y.name.length cx,.bool y.arr] 128 (0,0)) none;simp only[List.toArray]at z5;have N5:=hN.grown g5;have b5:=hb.trans ((aA g5).mono hb.size)
   have G5:Hid (w.grownBy (wr.alloc (.cells #[.slice ax y.name.length cx,.bool y.arr] 128 (0,0))) (some b)):=aD hg (bU g5 _)
   have c5:=aB hc3 (aA g5)
   have HB5:Hid (Below w0.heap.size w0 (wr.alloc (.cells #[.slice ax y.name.length cx,.bool y.arr] 128 (0,0)))):=b5
   have HDN:Hid (eG g ((x.params.map Pa.name).take (j+1))=nC (eG g ((x.params.map Pa.name).take j)) y.name (0,[])):=qB hyn
   have hbt:Bt y.name:=hbx.2.1
   have HX5:Hid (bW (wr.alloc (.cells #[.slice ax y.name.length cx,.bool y.arr] 128 (0,0))) ax y.name.length y.name):=hbx.below b5
   clear Ab hy hyn hbx hN hb hg hc3 b5 g5;go_upto_region 4 with fail;generalize wr.alloc (.cells #[.slice ax y.name.length cx,.bool y.arr] 128 (0,0))=w5 at *;have q0:=z5.cell (i:=0) rfl;have kc:=aT cx HX5.out;obtain⟨f,hf1,hf2⟩:=N5.ex;clear r0 r1 z5
   go_wp2_with (at_delete;refine nY rfl _ _ rfl hf1 y.name rfl rfl hbt V14 ?_)
   intro w6 hN6 hg6
   have HF:Hid (NT w6 b k (eG g ((x.params.map Pa.name).take (j+1)))/\Below w0.heap.size w0 w6/\w.grownBy w6 (some b)/\w6.cell? ⟨w.heap.size,3,none⟩=some (.slice a2 n2 c2)):=⟨by rw[HDN.out];exact NT.put hf1 hf2 hN6 hg6 (aJn w5),cO HB5.out hg6 Ar,aD G5.out hg6,N5.cell c5 hg6⟩
   clear hN6 hg6 hf1 hf2 N5 c5 kc q0 HX5;exact U63
  .
   have:n1=j:=by omega
   subst this
   rw[List.take_of_length_le (by rw[List.length_map,HN1.out];exact Nat.le_refl _)]at hN
   have S1:Hid (NT wr b k (eG (eG g (x.params.map Pa.name)) (x.locals.take 0))/\Below w0.heap.size w0 wr/\w.grownBy wr (some b)):=⟨by simpa [eG] using hN,hb,hg⟩
   clear hN hb hg;go_wp2_with fail;clear hc3;generalize wr=w7 at *
   go_loopw [23] (fun i wr=>∃j:Nat,j<=n2/\i=.int .i64 j/\Hid (NT wr b k (eG (eG g (x.params.map Pa.name)) (x.locals.take j))/\Below w0.heap.size w0 wr/\w.grownBy wr (some b))) (fun i _=>n2-(intOf i).toNat)
   case atStart=>exact⟨0,Nat.zero_le _,rfl,S1⟩
   case round=>
    obtain⟨j,hj,rfl,hst⟩:=hrel;obtain⟨hN,hb,hg⟩:=hst.out;clear S1 hst
    by_cases Ai:j<n2
    .
     obtain⟨y,hy⟩:∃y,x.locals[j]?=some y:=⟨_,List.getElem?_eq_getElem (by rw[HN2.out];exact Ai)⟩
     have hyl:=HB2.out y (List.mem_of_getElem? hy)
     obtain⟨bx,off,ys,rfl,hys,Ab⟩:=aS.cellsAt HL2.out (show(bH x.locals)[j]?=some [Fl.b y] by unfold bH;rw[List.getElem?_map,hy];rfl)
     obtain⟨s0,_,rfl,⟨ax,cx,rfl,hbx,_⟩,rfl⟩:=hys;have r0:=aB (Ab 0 _ rfl) hb;simp only[Nat.add_zero,Nat.mul_one]at r0
     have HDN:Hid (eG (eG g (x.params.map Pa.name)) (x.locals.take (j+1))=nC (eG (eG g (x.params.map Pa.name)) (x.locals.take j)) y (0,[])):=qB hy
     have hbt:Bt y:=hbx.2.1
     have kc:=aT cx (hbx.below hb);obtain⟨f,hf1,hf2⟩:=hN.ex;clear Ab hy hbx
     go_wp2_with (at_delete;refine nY rfl _ _ rfl hf1 y rfl rfl hbt V14 ?_)
     intro w6 hN6 hg6
     have HF:Hid (NT w6 b k (eG (eG g (x.params.map Pa.name)) (x.locals.take (j+1)))/\Below w0.heap.size w0 w6/\w.grownBy w6 (some b)):=⟨by rw[HDN.out];exact NT.put hf1 hf2 hN6 hg6 (aJn wr),cO hb hg6 Ar,aD hg hg6⟩
     clear hN6 hg6 hf1 hf2 kc hN hb hg r0;exact U63
    .
     have:n2=j:=by omega
     subst this
     rw[List.take_of_length_le (by rw[HN2.out];exact Nat.le_refl _)]at hN
     have HF:Hid (NT wr b k (eG (eG g (x.params.map Pa.name)) x.locals)):=hN
     clear hN hb;go_wp2_with fail;exact bodyPost_end (results_none rfl _ _ _) rfl ⟨rfl,HF.out,hg⟩
theorem V64{p:Prop}(h:p:=by obtain⟨a,ha,rfl⟩:=List.mem_map.1 hp;exact List.mem_map.2 ⟨a,ha,e⟩):p:=h
theorem V83{p:Prop}(h:p:=by cases e):p:=h
theorem U131{p:Prop}(h:p:=by
 obtain⟨a,ha,rfl⟩:=List.mem_map.1 h1
 exact(hc _ (f1 (a.name,jF a) (List.mem_map.2 ⟨a,ha,rfl⟩))).symm):p:=h
def paL (q:Pr):List (List Int × Mn):=q.params.map fun a=>(a.name,jF a)
def loL (q:Pr):List (List Int × Mn):=q.locals.map fun y=>(y,((1,[]):Mn))
def enG (g:List Int->Mn)(q:Pr):List Int->Mn:=stG (stG g (paL q)) (loL q)
def lD (g:List Int->Mn)(q:Pr):Bool:=okG g (paL q) && okG (stG g (paL q)) (loL q)
def pL (g:List Int->Mn):Prop:=∀x,(g x).1=0->g x=(0,[])
theorem nM (g:List Int->Mn)(p:List Int × Mn)(l:List (List Int × Mn)):stG g (p :: l)=stG (nC g p.1 p.2) l:=rfl
theorem wB (g:List Int->Mn)(p:List Int × Mn)(l:List (List Int × Mn)):okG g (p :: l)=(decide ((g p.1).1=0) && okG (nC g p.1 p.2) l):=by
 unfold okG;rw[List.length_cons,List.range_succ_eq_map,List.all_cons,List.all_map]
 rfl
theorem vY:∀{l:List (List Int × Mn)} {g:List Int->Mn},okG g l=true->∀p ∈ l,(g p.1).1=0:=by
 intro l
 induction l with
 | nil=>intro g _ p hp;simp at hp
 | cons q l ih=>
  intro g h p hp;rw[wB,Bool.and_eq_true]at h
  have h1:(g q.1).1=0:=by simpa using h.1
  rcases List.mem_cons.1 hp with rfl|hp
  .
   exact h1
  .
   have:=ih h.2 p hp
   unfold nC at this
   by_cases e:p.1=q.1
   .
    rw[e];exact h1
   .
    rw[if_neg e]at this;exact this
theorem dI:∀{l:List (List Int × Mn)} {g:List Int->Mn} {t:List Int},(∀p ∈ l,p.1 ≠ t)->stG g l t=g t:=by
 intro l
 induction l with
 | nil=>intro g t _;rfl
 | cons q l ih=>
  intro g t h
  rw[nM,ih (fun p hp=>h p (List.mem_cons_of_mem _ hp))]
  unfold nC
  rw[if_neg (fun e=>h q V15 e.symm)]
theorem lB:∀{l:List (List Int)} {g:List Int->Mn} {t:List Int},t ∉ l->eG g l t=g t:=by
 intro l
 induction l with
 | nil=>intro g t _;rfl
 | cons q l ih=>
  intro g t h
  have e:eG g (q :: l)=eG (nC g q (0,[])) l:=rfl
  rw[e,ih (fun hp=>h (List.mem_cons_of_mem _ hp))]
  unfold nC
  rw[if_neg (fun e=>h (by rw[e];simp))]
theorem wV:∀{l:List (List Int)} {g:List Int->Mn} {t:List Int},t ∈ l->eG g l t=(0,[]):=by
 intro l
 induction l with
 | nil=>intro g t h;simp at h
 | cons q l ih=>
  intro g t h
  have e:eG g (q :: l)=eG (nC g q (0,[])) l:=rfl
  rw[e]
  by_cases hl:t ∈ l
  .
   exact ih hl
  .
   have:t=q:=by rcases List.mem_cons.1 h with h|h;exact h;exact absurd h hl
   rw[lB hl];unfold nC;rw[if_pos this]
theorem sR {g:List Int->Mn}{q:Pr}(hc:pL g)(h:lD g q=true):eG (eG (enG g q) (q.params.map Pa.name)) q.locals=g:=by
 unfold lD at h;rw[Bool.and_eq_true]at h;have f1:=vY h.1;have f2:=vY h.2
 funext t
 by_cases h2:t ∈ q.locals
 .
  rw[wV h2];have e2:=f2 (t,(1,[])) (List.mem_map.2 ⟨t,h2,rfl⟩)
  simp only at e2
  by_cases h1:t ∈ q.params.map Pa.name
  .
   exact U131
  .
   rw[dI (fun p hp e=>h1 V64)]at e2
   exact(hc t e2).symm
 .
  rw[lB h2]
  by_cases h1:t ∈ q.params.map Pa.name
  .
   rw[wV h1];exact U131
  .
   rw[lB h1];unfold enG
   rw[dI (fun p hp e=>h2 (by obtain⟨y,hy,rfl⟩:=List.mem_map.1 hp;rw[<-e];exact hy)),dI (fun p hp e=>h1 V64)]
theorem NT.mono {w:World}{b k k':Nat}{g:List Int->Mn}(h:NT w b k g)(hk:k<=k'):NT w b k' g:=by
 obtain⟨f,hm,h2⟩:=h.ex;obtain⟨D,h3,r⟩:=hm.ex;exact⟨⟨f,⟨⟨D,h3.mono hk,r⟩⟩,h2⟩⟩
structure vK (q:Pr):Prop where
 np:q.params.length<=4
 nl:q.locals.length<=8
 pn:∀a ∈ q.params,a.name.length<=1048576
 ln:∀y ∈ q.locals,y.length<=1048576
theorem aH5 (q:Pr)(vs:List Value)(w0 w:World)(b k nb:Nat)(g:List Int->Mn)(h:aO w0 q.fl vs)(hw:Below w0.heap.size w0 w)(Ar:w0.heap.size<=b)(hN:NT w b k g)(hk:k+12<=1000000)(hc:w.cell? ⟨nb,0,none⟩=some (.map (some b)))(Ab:pL g)(hpl:vK q):
  Calls Tryz.prog 92 #[agg vs,.pointer (some ⟨nb,0,none⟩)] w fun e w'=>e=.returned (.bool (lD g q))/\Dn w w' b (k+12) g (lD g q):=by
 obtain⟨v0,v1,v2,v3,v4,rfl⟩:∃v0 v1 v2 v3 v4,vs=[v0,v1,v2,v3,v4]:=by
  have hl:=h.len
  match vs,hl with
  | [v0,v1,v2,v3,v4],_=>exact⟨v0,v1,v2,v3,v4,rfl⟩
 have x0:=Blk.new w 72 [v0,v1,v2,v3,v4];have y0:=aC w (.cells #[v0,v1,v2,v3,v4] 72 (0,0)) none;have N1:=hN.grown y0;have c1:=aB hc (aA y0);have hw1:=hw.trans ((aA y0).mono hw.size)
 have e1:(paL q).length=q.params.length:=by simp[paL]
 have e2:(loL q).length=q.locals.length:=by simp[loL]
 have p4:=hpl.np;have p8:=hpl.nl;simp only[List.toArray]at x0;simp only[agg];go_enter Tryz.func92,Tryz.ntmps92;go_upto_region 1 with fail;generalize w.alloc (.cells #[v0,v1,v2,v3,v4] 72 (0,0))=w1 at *
 have H1:=aGl q _ w0 w1 b k g h hw1 Ar N1 (by show k+(paL q).length+(loL q).length<=_;omega) hpl.pn hpl.ln
 have HE:Hid (NT w1 b k g):=N1
 change Calls _ _ _ _ (fun e w'=>e=.returned (.bool (lD g q))/\Dn w1 w' b (k+(paL q).length+(loL q).length) (enG g q) (lD g q)) at H1
 simp only[agg,List.toArray]at H1;obtain⟨q0,q1,q2,q3,q4⟩:=x0.c5
 have Y0:Hid (w.grownBy w1 none):=y0
 have HH:Hid (aO w0 q.fl [v0,v1,v2,v3,v4]):=h
 have HP:Hid (vK q):=hpl
 clear hN hc hw y0 h hpl
 cases hok:lD g q
 .
  rw[hok]at H1
  have HF:Hid (lD g q=false):=hok
  clear hok;go_wp2_with fail;refine H1.mono ?_;rintro e w2 ⟨rfl,hd⟩
  have HD:Hid (Dn w w2 b (k+12) g false):=⟨fun e=> V83,iN Y0.out hd.grown⟩
  clear H1 hd q0 q1 q2 q3 q4 x0 N1 c1;exact U104
 .
  rw[hok]at H1
  have HT:Hid (lD g q=true):=hok
  have HL:Hid (eG (eG (enG g q) (q.params.map Pa.name)) q.locals=g):=sR Ab hok
  clear hok;go_wp2_with fail;refine H1.mono ?_;rintro e w2 ⟨rfl,hd⟩;have N2:=hd.yes rfl;have Be:=hd.grown;have c2:=HE.out.cell c1 Be;have r0:=HE.out.cell q0 Be;have r1:=HE.out.cell q1 Be;have r2:=HE.out.cell q2 Be;have r3:=HE.out.cell q3 Be;have r4:=HE.out.cell q4 Be;have hw2:=cO hw1 Be Ar;have H2:=aGe q _ w0 w2 b _ _ HH.out hw2 Ar N2 HP.out.pn HP.out.ln;rw[HL.out]at H2;simp only[agg,List.toArray]at H2
  have G2:Hid (w.grownBy w2 (some b)):=iN Y0.out Be
  clear H1 hd q0 q1 q2 q3 q4 x0 N1 c1 Be HE N2;go_wp2_with fail;refine H2.mono ?_;rintro e w3 ⟨rfl,hN3,hg3⟩
  have HD:Hid (Dn w w3 b (k+12) g true):=⟨fun _=>hN3.mono V6,aD G2.out hg3⟩
  clear H2 hN3 hg3 c2 r0 r1 r2 r3 r4 hw2;go_wp2_with fail;go_ret
  exact⟨aE HT.out.symm,by rw[HT.out];exact HD.out⟩
theorem aF9 (l:List Pr)(a:Option Addr)(n c:Nat)(w0 w:World)(b k:Nat)(g:List Int->Mn)(hL:aS w0 a c 5 (l.map Pr.fl))(hn:l.length=n)(hw:Below w0.heap.size w0 w)(Ar:w0.heap.size<=b)(hN:NT w b k g)(hk:k+12*n<=999000)(Ab:pL g)(hpl:∀q ∈ l,vK q):
  Calls Tryz.prog 38 #[.map (some b),.slice a n c] w fun e w'=>e=.returned (.bool (l.all (lD g)))/\Dn w w' b (k+12*n) g (l.all (lD g)):=by
 have hmf:∀(fn:Fn) (first cap:Array Value) (w:World),(Instr.makeFunc fn first cap).run Tryz.prog w=.ok (.func fn first cap) w:=fun _ _ _ _=>rfl
 have x0:=Blk.new w 82 [.map (some b)];have y0:=aC w (.cells #[.map (some b)] 82 (0,0)) none;have N1:=hN.grown y0;have hw1:=hw.trans ((aA y0).mono hw.size);simp only[List.toArray]at x0;go_enter Tryz.func38,Tryz.ntmps38;go_upto_region 1 with fail;generalize w.alloc (.cells #[.map (some b)] 82 (0,0))=w1 at *;have q0:=x0.cell (i:=0) rfl
 have A:aGt false 92 #[.pointer (some ⟨w.heap.size,0,none⟩)] (some b) agg a c 5 (l.map Pr.fl) (fun j=>lD g (l[j]?.getD ⟨[],false,[],[],[]⟩)) (fun j wr=>(NT wr b (k+12*j) g/\wr.cell? ⟨w.heap.size,0,none⟩=some (.map (some b))/\Below w0.heap.size w0 wr)/\j<=n) (fun _ _=>True):=by
  refine⟨cK Tryz.func92 rfl rfl,fun j wr hi=>hL.below hi.1.2.2,by intro r hr;obtain⟨y,_,rfl⟩:=List.mem_map.1 hr;rfl, ?_⟩
  rintro j r wr vs hr ⟨⟨hN,hc,hb⟩,hj⟩ Ad hcs;have Ai:=(List.getElem?_eq_some_iff.1 hr).1;rw[List.length_map,hn]at Ai;have hvl:vs.length=r.length:=Ad.len;have hv0:=iM hL hb hr hvl hcs;rw[List.getElem?_map]at hr;obtain⟨q,hq,rfl⟩:=Option.map_eq_some_iff.1 hr;rw[hq];refine(aH5 q vs w0 wr b (k+12*j) w.heap.size g hv0 hb Ar hN V6 hc Ab (hpl q (List.mem_of_getElem? hq))).mono ?_;rintro e w' ⟨rfl,hd⟩
  exact⟨rfl,hd.grown,fun hy=>⟨⟨(hd.yes hy).mono V6,hN.cell hc hd.grown,cO hb hd.grown Ar⟩,by omega⟩,fun _=>trivial⟩
 have H1:=rM 92 #[.pointer (some ⟨w.heap.size,0,none⟩)] (some b) a n c (l.map Pr.fl) _ _ _ w1 A (by rw[List.length_map,hn]) ⟨⟨by simpa using N1,q0,hw1⟩,Nat.zero_le _⟩ (fun j w w' h hg=>⟨⟨h.1.1.grown hg,aB h.1.2.1 (aA hg),h.1.2.2.trans ((aA hg).mono h.1.2.2.size)⟩,h.2⟩) (fun j hj=>by cases hj;exact N1.lt) (cK Tryz.func139 rfl rfl)
 go_wp2_with fail;refine H1.mono ?_;rintro e w2 ⟨r,rfl,Be,ht⟩
 have er:r=l.all (lD g):=by
  rw[fV ht,<-hn];exact fM l ⟨[],false,[],[],[]⟩ (lD g)
 have HD:Hid (Dn w w2 b (k+12*n) g r):=⟨fun e=>((ht.no (by rw[e];rfl)).2).1.1,iN y0 Be⟩
 have ER:Hid (r=l.all (lD g)):=er
 clear H1 A ht er Be q0 x0 N1 hN;go_wp2_with fail;go_ret
 exact⟨aE ER.out,by rw[<-ER.out];exact HD.out⟩
end Go.Proofs.YtnelibmaancmkaaGreatDoor

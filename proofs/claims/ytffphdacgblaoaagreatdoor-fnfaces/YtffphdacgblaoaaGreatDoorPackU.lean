import Derived.Test.YtffphdacgblaoaaGreatDoorPackL
import Derived.ProofKit
import Derived.LaidMore
import Derived.OpenShut
import Derived.OpenVars
import Derived.ChangeVars
import Derived.LaidLaws
import Derived.Test.YtffphdacgblaoaaGreatDoorPackK
import Derived.WideShapes
import Derived.ChangeArms
import Derived.ChangeSlices
namespace Go.Proofs.YtffphdacgblaoaaGreatDoor
open Go.ChangeShapes Go.WideShapes Go.ChangeAt Go.RowKit
set_option linter.unusedVariables false
set_option maxRecDepth 100000
set_option linter.unusedSimpArgs false
theorem Q4{p:Prop}(h:p:=by kernel_rfl):p:=h
def aCq:List (String × DataW Unit):=Rows.fnFacesRow.laid
theorem gEx : Tryz.prog.globalNamed "loop.example/g00335/impl.exForms" = some 3 := by kernel_rfl
theorem gSt : Tryz.prog.globalNamed "loop.example/g00335/impl.stForms" = some 2 := by kernel_rfl
theorem tEx:(Tryz.prog.globals[3]?).map (·.type)=some 184:=by kernel_rfl
theorem tSt:(Tryz.prog.globals[2]?).map (·.type)=some 184:=by kernel_rfl
theorem tSp:(Tryz.prog.globals[5]?).map (·.type)=some 208:=by kernel_rfl
theorem aSl:(Tryz.prog.globals[4]?).map (·.type)=some 204:=by kernel_rfl
def rM (f:Fm):DataW Unit:=.agg [.lit (.string f.txt),.lit (.int .i64 f.lo),.lit (.int .i64 f.hi),.lit (.int .i64 f.le),.lit (.int .i64 f.mo)]
theorem aMi:(Rows.laid_loop_example_g00335_impl_exForms:DataW Unit)=.agg ((List.range 8).map fun i=>rM (exF i)):=rfl
theorem aK3:(Rows.laid_loop_example_g00335_impl_stForms:DataW Unit)=.agg ((List.range 8).map fun i=>rM (stF i)):=rfl
theorem aK5:(Rows.laid_strings_asciiSpace:DataW Unit)=Lib.tabData .u8 Lib.asciiSpaceTab:=by kernel_rfl
theorem aH1:(Rows.laid_internal_strconv_uint64pow10:DataW Unit)=Lib.tabData .u64 Lib.pow10Tab:=by kernel_rfl
theorem vN {α:Type}{l:List α}(h:l.length=5):∃a b c d e,l=[a,b,c,d,e]:=by
 match l,h with
 | [a,b,c,d,e],_=>exact⟨a,b,c,d,e,rfl⟩
theorem aIw {w:World}{fuel:Nat}{cs:List Value}{f:Fm}{p:List MemPlace}(h:DataW.trod (fun _=>()) Tryz.prog w 0 (fun _=>true) false fuel 183 cs=some (rM f,p)):cs=[.string ⟨f.txt.toArray⟩,.int .i64 f.lo,.int .i64 f.hi,.int .i64 f.le,.int .i64 f.mo]:=by
 obtain⟨zs,m,rfl,hz,hl,hn,hzs⟩:=DataW.trod_struct Tryz.underlying183 h
 have hc:Tryz.prog.cellsOf 183=5:=by kernel_rfl
 have hi:Tryz.prog.cellsOf 3=1:=by kernel_rfl
 have hs:Tryz.prog.cellsOf 9=1:=by kernel_rfl
 rw[hc]at hl;obtain⟨c0,c1,c2,c3,c4,rfl⟩:=vN hl;obtain⟨⟨d0,p0⟩,⟨d1,p1⟩,⟨d2,p2⟩,⟨d3,p3⟩,⟨d4,p4⟩,rfl⟩:=vN hn;have hz1:=congrArg Prod.fst hz;unfold rM at hz1;simp only[zH2,List.map_nil,DataW.agg.injEq,zK0,and_true]at hz1;obtain⟨e0,e1,e2,e3,e4⟩:=hz1
 have h0:DataW.trod (fun _=>()) Tryz.prog w 0 (fun _=>true) false m 9 [c0]=some (d0,p0):=by have:=hzs 0 _ rfl;simpa [hs] using this
 have h1:DataW.trod (fun _=>()) Tryz.prog w 0 (fun _=>true) false m 3 [c1]=some (d1,p1):=by have:=hzs 1 _ rfl;simpa [hi] using this
 have h2:DataW.trod (fun _=>()) Tryz.prog w 0 (fun _=>true) false m 3 [c2]=some (d2,p2):=by have:=hzs 2 _ rfl;simpa [hi] using this
 have h3:DataW.trod (fun _=>()) Tryz.prog w 0 (fun _=>true) false m 3 [c3]=some (d3,p3):=by have:=hzs 3 _ rfl;simpa [hi] using this
 have h4:DataW.trod (fun _=>()) Tryz.prog w 0 (fun _=>true) false m 3 [c4]=some (d4,p4):=by have:=hzs 4 _ rfl;simpa [hi] using this
 obtain⟨s,k0,x0,_⟩:=DataW.trod_string Tryz.underlying9 h0;obtain⟨n1,k1,x1,_⟩:=DataW.trod_int Tryz.underlying3 h1;obtain⟨n2,k2,x2,_⟩:=DataW.trod_int Tryz.underlying3 h2;obtain⟨n3,k3,x3,_⟩:=DataW.trod_int Tryz.underlying3 h3;obtain⟨n4,k4,x4,_⟩:=DataW.trod_int Tryz.underlying3 h4;simp only[zK0,and_true,Prod.mk.injEq]at k0 k1 k2 k3 k4 x0 x1 x2 x3 x4;subst k0 k1 k2 k3 k4;rw[x0.1]at e0;rw[x1.1]at e1;rw[x2.1]at e2;rw[x3.1]at e3;rw[x4.1]at e4;simp only[DataW.lit.injEq,Lit.string.injEq,Lit.int.injEq,true_and]at e0 e1 e2 e3 e4;subst e1 e2 e3 e4;rw[e0]
theorem aAi {W:World}{n:String}{g fuel:Nat}{cs:Array Value}{F:Nat->Fm}{p:List MemPlace}(hg:Tryz.prog.globalNamed n=some g)(hv:W.var? Tryz.prog n=some cs)(hd:DataW.trod (fun _=>()) Tryz.prog W 0 (fun _=>true) false fuel 184 cs.toList=some (.agg ((List.range 8).map fun i=>rM (F i)),p)):∀i,i<8->aNa W g (i*5) (F i):=by
 obtain⟨xs,m,rfl,hx,hl,hn,hxs⟩:=DataW.trod_array Tryz.underlying184 hd
 have hc:Tryz.prog.cellsOf 183=5:=by kernel_rfl
 have hx1:(List.range 8).map (fun i=>rM (F i))=xs.map (·.1):=by
  have:=congrArg Prod.fst hx
  simpa using this
 intro i hi;have h1:=hxs i hi;rw[hc]at h1
 have h2:=congrArg (fun (l:List (DataW Unit))=>l[i]?) hx1
 simp only[zA2,List.getElem?_range hi,Option.map_some]at h2
 cases hy:xs[i]? with
 | none=>rw[hy]at h2;cases h2
 | some y=>
  rw[hy]at h1 h2;simp only[Option.map_some,zG2]at h2
  have h3:=aIw (f:=F i) (p:=y.2) (by rw[h1,h2])
  have Bg:∀k u,k<5->([.string ⟨(F i).txt.toArray⟩,.int .i64 (F i).lo,.int .i64 (F i).hi,.int .i64 (F i).le,.int .i64 (F i).mo]:List Value)[k]?=some u->W.cell? ⟨g,i*5+k,none⟩=some u:=by
   intro k u hk hu;rw[World.var?_cell hg hv];rw[<-h3,List.getElem?_take_of_lt hk,List.getElem?_drop]at hu
   simpa using hu
  exact⟨Bg 0 _ Q0 rfl,Bg 1 _ Q0 rfl,Bg 2 _ Q0 rfl,Bg 3 _ Q0 rfl,Bg 4 _ Q0 rfl⟩
theorem yR {W:World}{n:String}{g fuel k9:Nat}{t e:TypeId}{k:IntKind}{zs:List Int}{cs:Array Value}{p:List MemPlace}(hg:Tryz.prog.globalNamed n=some g)(ht:Tryz.prog.underlying t=some (.array k9 e))(he:Tryz.prog.underlying e=some (.int k))(hce:Tryz.prog.cellsOf e=1)(hct:Tryz.prog.cellsOf t=k9)(hv:W.var? Tryz.prog n=some cs)(hd:DataW.trod (fun _=>()) Tryz.prog W 0 (fun _=>true) false fuel t cs.toList=some (Lib.tabData k zs,p)):Lib.TabIs Tryz.prog W n k zs:=by
 unfold Lib.TabIs;rw[hv,<-Lib.cells_of_tab ht he hce hct hd]
theorem uB {W:World}(h:laidMetH Tryz.prog aCq W):nF W:=by
 rw[MakeChecks.laidMetH_plain _ _ _ Q4]at h;obtain⟨ps,h1,_,_⟩:=h;obtain⟨_,_,_,_,_,_,_,_,_,_,h2,_⟩:=h1;obtain⟨_,_,_,_,_,_,_,_,_,_,h3,_⟩:=h2;obtain⟨g3,t3,cs3,f3,p3,q3,hg3,ht3,hv3,hd3,h4,_⟩:=h3;obtain⟨_,_,_,_,_,_,_,_,_,_,h5,_⟩:=h4;obtain⟨g5,t5,cs5,f5,p5,q5,hg5,ht5,hv5,hd5,h6,_⟩:=h5;obtain⟨g6,t6,cs6,f6,p6,q6,hg6,ht6,hv6,hd6,h7,_⟩:=h6;obtain⟨g7,t7,cs7,f7,p7,q7,hg7,ht7,hv7,hd7,_,_⟩:=h7
 obtain rfl:=Option.some.inj (aRd.symm.trans hg3)
 obtain rfl:=Option.some.inj (aSl.symm.trans ht3)
 obtain rfl:=Option.some.inj (gSp.symm.trans hg5)
 obtain rfl:=Option.some.inj (tSp.symm.trans ht5)
 obtain rfl:=Option.some.inj (gEx.symm.trans hg6)
 obtain rfl:=Option.some.inj (tEx.symm.trans ht6)
 obtain rfl:=Option.some.inj (gSt.symm.trans hg7)
 obtain rfl:=Option.some.inj (tSt.symm.trans ht7)
 refine⟨aAi gEx hv6 (by rw[<-aMi];exact hd6),aAi gSt hv7 (by rw[<-aK3];exact hd7),yR gSp Tryz.underlying208 Tryz.underlying5 Q4 Q4 hv5 (by rw[<-aK5];exact hd5),yR aRd Tryz.underlying204 Tryz.underlying194 Q4 Q4 hv3 (by rw[<-aH1];exact hd3)⟩
theorem aI5 (os:Os)(args:Array Value):laidMetH Tryz.prog aCq ((World.doorLaid Tryz.prog 4000 os).forCall (fun _ _=>0) ⟨#[],args,[]⟩).memory:=
 laidMetH_of_parts3 (fuel:=8) (laidMet_of_run' 8 Q4 Q4) Q4 Q4
theorem U80{p:Prop}(h:p:=by
 rcases (by omega:i=0\/i=1\/i=2\/i=3\/i=4\/i=5\/i=6\/i=7) with rfl|rfl|rfl|rfl|rfl|rfl|rfl|rfl <;> rfl):p:=h
theorem gXs : Tryz.prog.globalNamed "loop.example/g00335/impl.exSorts" = some 1 := by kernel_rfl
theorem gSs : Tryz.prog.globalNamed "loop.example/g00335/impl.stSorts" = some 0 := by kernel_rfl
theorem tXs:(Tryz.prog.globals[1]?).map (·.type)=some 170:=by kernel_rfl
theorem tSs:(Tryz.prog.globals[0]?).map (·.type)=some 170:=by kernel_rfl
theorem aKs:(Rows.laid_loop_example_g00335_impl_exSorts:DataW Unit)=Lib.tabData .i64 [0,1,2,0,0,2,3,2]:=by kernel_rfl
theorem aK4:(Rows.laid_loop_example_g00335_impl_stSorts:DataW Unit)=Lib.tabData .i64 [1,2,0,0,0,0,0,0]:=by kernel_rfl
theorem mG {W:World}(h:laidMetH Tryz.prog aCq W):(∀i,i<8->W.cell? ⟨1,i,none⟩=some (.int .i64 (vU i)))/\(∀i,i<8->W.cell? ⟨0,i,none⟩=some (.int .i64 (wQ i))):=by
 rw[MakeChecks.laidMetH_plain _ _ _ Q3]at h;obtain⟨ps,h1,_,_⟩:=h;obtain⟨_,_,_,_,_,_,_,_,_,_,h2,_⟩:=h1;obtain⟨_,_,_,_,_,_,_,_,_,_,h3,_⟩:=h2;obtain⟨_,_,_,_,_,_,_,_,_,_,h4,_⟩:=h3;obtain⟨_,_,_,_,_,_,_,_,_,_,h5,_⟩:=h4;obtain⟨_,_,_,_,_,_,_,_,_,_,h6,_⟩:=h5;obtain⟨_,_,_,_,_,_,_,_,_,_,h7,_⟩:=h6;obtain⟨_,_,_,_,_,_,_,_,_,_,h8,_⟩:=h7;obtain⟨g8,t8,cs8,f8,p8,q8,hg8,ht8,hv8,hd8,h9,_⟩:=h8;obtain⟨g9,t9,cs9,f9,p9,q9,hg9,ht9,hv9,hd9,_,_⟩:=h9
 obtain rfl:=Option.some.inj (gXs.symm.trans hg8)
 obtain rfl:=Option.some.inj (tXs.symm.trans ht8)
 obtain rfl:=Option.some.inj (gSs.symm.trans hg9)
 obtain rfl:=Option.some.inj (tSs.symm.trans ht9)
 have e8:=yR gXs Tryz.underlying170 Tryz.underlying3 Q3 Q3 hv8 (by rw[<-aKs];exact hd8)
 have e9:=yR gSs Tryz.underlying170 Tryz.underlying3 Q3 Q3 hv9 (by rw[<-aK4];exact hd9)
 unfold Lib.TabIs at e8 e9
 refine⟨fun i hi=>?_,fun i hi=>?_⟩
 .
  rw[World.var?_cell gXs e8];exact U80
 .
  rw[World.var?_cell gSs e9];exact U80
theorem aCh {H:Type}{enc:TypeId × Value->H}{w:World}{b0:Nat}{v:Value}{d:DataW H}{ps:List MemPlace}
  (hv:Value.okWide Tryz.prog w .any b0 22 v) (h:DataW.Trod enc Tryz.prog w 0 (fun _=>true) true 22 v d ps):∃a n c zs,v=.slice a n c/\aGy .u8 w a n c zs:=by
 obtain⟨a,n,c,rfl⟩:=okWide_slice Tryz.underlying22 hv;obtain⟨fuel,hf⟩:=h
 rcases open_ints Tryz.underlying22 Tryz.underlying5 Q3 hf with⟨hcs,_⟩|⟨x,l,c,zs,hcs,_,hl,hm,hz,_,Bg,hwz⟩
 .
  simp[Value.cells]at hcs
  obtain⟨rfl,rfl,rfl⟩:=hcs;exact⟨_,_,_,[],rfl,.inl ⟨rfl,rfl,rfl,rfl⟩⟩
 .
  simp[Value.cells]at hcs
  obtain⟨rfl,rfl,rfl⟩:=hcs
  exact⟨_,_,_,zs,rfl,.inr ⟨_,rfl,hl,hm,by simpa using hz,Bg,hwz⟩⟩
end Go.Proofs.YtffphdacgblaoaaGreatDoor

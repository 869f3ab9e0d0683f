import Derived.Test.YtcbhdhmhidpdgaaGreatPackA
import Derived.WalkKit
import Derived.ProofKit
import Derived.Deep.QuietTactic
import Derived.BigQuiet
import Derived.OpenShut
import Derived.Laws.StructEq
namespace Go.Proofs.YtcbhdhmhidpdgaaGreat
open Go.RowKit
set_option linter.unusedVariables false
set_option linter.unusedSimpArgs false
theorem A4{p:Prop}(h:p:=by kernel_rfl):p:=h
theorem A8{p:Prop}(h:p:=by decide):p:=h
theorem A57{p:Prop}(h:p:=by simp[results,Tryz.results35,go_sem]):p:=h
theorem QA34{p:Prop}(h:p:=by
 go_wp2
 refine zI1 (v:=.tuple #[.agg #[.bool false,.int .i64 0,.int .i64 0,.int .i64 0,.int .i64 0,.int .i64 0,.int .i64 0],.bool false]) A57 rfl ⟨rfl,(by repeat (first|exact zD2 _ _|assumption|(refine below_drewN ?_ _)|apply Below.drew|(refine Below.alloc ?_ ?_ _)|(refine Below.setCell ?_ ?_ _)|omega|(simp;omega)|simp))⟩):p:=h
theorem rb {a b:Bool}(h:a=b):Ending.returned (.bool a)=.returned (.bool b):=by rw[h]
theorem ri {k:IntKind}{a b:Int}(h:a=b):Ending.returned (.int k a)=.returned (.int k b):=by rw[h]
theorem below_drewN {B:Nat}{a w:World}(h:Below B a w)(d:Nat):Below B a (w.drewN d):=⟨h.os,h.tape,h.output,h.size,h.block⟩
def inR (n a b:Int):Bool:=decide (a<=n) && decide (n<=b)
theorem gH (n a b:Int)(w:World):
  Calls Tryz.prog 12 #[.int .i64 n,.int .i64 a,.int .i64 b] w fun e w'=>e=.returned (.bool (inR n a b))/\w'=w:=by
 go_enter Tryz.func12,Tryz.ntmps12;unfold inR;by_cases h1:a<=n
 .
  by_cases h2:n<=b
  .
   go_wp2;go_ret;exact⟨rb (by simp[h1,h2]),rfl⟩
  .
   go_wp2;go_ret;exact⟨rb (by simp[h1,h2]),rfl⟩
 .
  go_wp2;go_ret;exact⟨rb A12,rfl⟩
theorem aEm (n:Int)(w:World):
  Calls Tryz.prog 89 #[.int .i64 n] w fun e w'=>e=.returned (.int .i64 (wrap64 (wrap32 n)))/\w'=w:=by
 go_enter Tryz.func89,Tryz.ntmps89;go_wp2;go_ret;exact⟨rfl,rfl⟩
set_option maxRecDepth 100000 in
theorem aS5 (xt:Bool)(xn xl xh xa xp xs:Int)(p:Int)(w:World):
  Calls Tryz.prog 90 #[.agg #[.bool xt,.int .i64 xn,.int .i64 xl,.int .i64 xh,.int .i64 xa,.int .i64 xp,.int .i64 xs],.int .i64 p] w fun e w'=>e=.returned (.agg #[.bool xt,.int .i64 xn,.int .i64 xl,.int .i64 xh,.int .i64 xa,.int .i64 (bits .andNot .i64 xp p),.int .i64 xs])/\∃o1 o2,w'=(w.alloc o1).alloc o2:=by
 go_enter Tryz.func90,Tryz.ntmps90;go_wp2;refine zI1 (v:=.agg #[.bool xt,.int .i64 xn,.int .i64 xl,.int .i64 xh,.int .i64 xa,.int .i64 (bits .andNot .i64 xp p),.int .i64 xs]) (by simp[results,Tryz.results90,go_sem]) rfl ⟨rfl,_,_,rfl⟩
def sel (b:Bool)(x:Int):Int:=bif b then x else 0
def rE (m a:Int):Bool:=inR m 0 7 && inR a 0 4000
set_option maxRecDepth 100000 in
theorem vM (m a:Int)(w:World):
  Calls Tryz.prog 35 #[.int .i64 m,.int .i64 a] w fun e w'=>
   e=.returned (.tuple #[.agg #[.bool (rE m a),.int .i64 0,.int .i64 0,.int .i64 0,.int .i64 (sel (rE m a) a),.int .i64 (sel (rE m a) 16),.int .i64 (sel (rE m a) (m+1))],.bool (rE m a)])/\Below w.heap.size w w':=by
 by_cases h1:inR m 0 7=true
 .
  by_cases h2:inR a 0 4000=true
  .
   have hm':0<=m/\m<=7:=by simpa [inR] using h1
   have hE:rE m a=true:=by simp[rE,h1,h2]
   rw[hE];clear hE;go_enter Tryz.func35,Tryz.ntmps35;go_wp2_with fail;refine(gH m 0 7 _).mono ?_;rintro e w1 ⟨rfl,rfl⟩;rw[h1];go_wp2_with fail;refine(gH a 0 4000 _).mono ?_;rintro e w1 ⟨rfl,rfl⟩;rw[h2];clear h1 h2;go_wp2;refine zI1 (v:=.tuple #[.agg #[.bool true,.int .i64 0,.int .i64 0,.int .i64 0,.int .i64 a,.int .i64 16,.int .i64 (m+1)],.bool true]) A57 rfl ⟨rfl,(by repeat (first|exact zD2 _ _|assumption|(refine below_drewN ?_ _)|apply Below.drew|(refine Below.alloc ?_ ?_ _)|(refine Below.setCell ?_ ?_ _)|omega|(simp;omega)|simp))⟩
  .
   rw[Bool.not_eq_true]at h2;have hE:rE m a=false:=by simp[rE,h1,h2]
   rw[hE];clear hE;go_enter Tryz.func35,Tryz.ntmps35;go_wp2_with fail;refine(gH m 0 7 _).mono ?_;rintro e w1 ⟨rfl,rfl⟩;rw[h1];go_wp2_with fail;refine(gH a 0 4000 _).mono ?_;rintro e w1 ⟨rfl,rfl⟩;rw[h2];exact QA34
 .
  rw[Bool.not_eq_true]at h1;have hE:rE m a=false:=by simp[rE,h1]
  rw[hE];clear hE;go_enter Tryz.func35,Tryz.ntmps35;go_wp2_with fail;refine(gH m 0 7 _).mono ?_;rintro e w1 ⟨rfl,rfl⟩;rw[h1];exact QA34
theorem pY (d : Nat)(f : Field)(fs : List Field)(xs ys : Array Value)(a b : Value)(r q : Bool)(w : World)(hn : f.name ≠ "_")(ha : (part f.type xs f.offset).run Tryz.prog w = .ok a w)(hb : (part f.type ys f.offset).run Tryz.prog w = .ok b w)
  (he:(Op.equalIn d f.type a b).run Tryz.prog w=.ok r w) (ht:(Op.eqFields d xs ys fs).run Tryz.prog w=.ok q w):(Op.eqFields d xs ys (f :: fs)).run Tryz.prog w=.ok (r && q) w:=by
 simp only[Op.eqFields,hn,ne_eq,not_false_eq_true,if_true,Sem.run_bind,ha,hb,he,Result.andThen_ok];cases r <;> simp[ht]
theorem aJw (xt:Bool)(xn xl xh xa xp xs:Int)(w:World):(part 4 #[.bool xt,.int .i64 xn,.int .i64 xl,.int .i64 xh,.int .i64 xa,.int .i64 xp,.int .i64 xs] 0).run Tryz.prog w=.ok (.bool xt) w:=by kernel_rfl
theorem aJv (xt:Bool)(xn xl xh xa xp xs:Int)(w:World):(part 3 #[.bool xt,.int .i64 xn,.int .i64 xl,.int .i64 xh,.int .i64 xa,.int .i64 xp,.int .i64 xs] 1).run Tryz.prog w=.ok (.int .i64 xn) w:=by kernel_rfl
theorem aJu (xt:Bool)(xn xl xh xa xp xs:Int)(w:World):(part 3 #[.bool xt,.int .i64 xn,.int .i64 xl,.int .i64 xh,.int .i64 xa,.int .i64 xp,.int .i64 xs] 2).run Tryz.prog w=.ok (.int .i64 xl) w:=by kernel_rfl
theorem aJt (xt:Bool)(xn xl xh xa xp xs:Int)(w:World):(part 3 #[.bool xt,.int .i64 xn,.int .i64 xl,.int .i64 xh,.int .i64 xa,.int .i64 xp,.int .i64 xs] 3).run Tryz.prog w=.ok (.int .i64 xh) w:=by kernel_rfl
theorem aJs (xt:Bool)(xn xl xh xa xp xs:Int)(w:World):(part 3 #[.bool xt,.int .i64 xn,.int .i64 xl,.int .i64 xh,.int .i64 xa,.int .i64 xp,.int .i64 xs] 4).run Tryz.prog w=.ok (.int .i64 xa) w:=by kernel_rfl
theorem aJr (xt:Bool)(xn xl xh xa xp xs:Int)(w:World):(part 3 #[.bool xt,.int .i64 xn,.int .i64 xl,.int .i64 xh,.int .i64 xa,.int .i64 xp,.int .i64 xs] 5).run Tryz.prog w=.ok (.int .i64 xp) w:=by kernel_rfl
theorem aJq (xt:Bool)(xn xl xh xa xp xs:Int)(w:World):(part 3 #[.bool xt,.int .i64 xn,.int .i64 xl,.int .i64 xh,.int .i64 xa,.int .i64 xp,.int .i64 xs] 6).run Tryz.prog w=.ok (.int .i64 xs) w:=by kernel_rfl
theorem wC : (Tryz.prog.fieldsOf 39).toList = [⟨ "Tag", 4, 0, false, "", "", 0⟩, ⟨ "N", 3, 1, false, "", "", 8⟩, ⟨ "Lo", 3, 2, false, "", "", 16⟩, ⟨ "Hi", 3, 3, false, "", "", 24⟩, ⟨ "At", 3, 4, false, "", "", 32⟩, ⟨ "Perm", 3, 5, false, "", "", 40⟩, ⟨ "Seal", 3, 6, false, "", "", 48⟩] := by kernel_rfl
theorem rK (xt:Bool)(xn xl xh xa xp xs:Int)(yt:Bool)(yn yl yh ya yp ys:Int)(w:World):
  (binOp .eql 39 (.agg #[.bool xt,.int .i64 xn,.int .i64 xl,.int .i64 xh,.int .i64 xa,.int .i64 xp,.int .i64 xs]) (.agg #[.bool yt,.int .i64 yn,.int .i64 yl,.int .i64 yh,.int .i64 ya,.int .i64 yp,.int .i64 ys])).run Tryz.prog w=.ok (.bool ((xt == yt) && ((xn == yn) && ((xl == yl) && ((xh == yh) && ((xa == ya) && ((xp == yp) && (xs == ys)))))))) w:=by
 have h3:Tryz.prog.underlying 3=some (.int .i64):=by kernel_rfl
 have h4:Tryz.prog.underlying 4=some .bool:=by kernel_rfl
 have hi:∀a b:Int,(Op.equalIn 9999 3 (.int .i64 a) (.int .i64 b)).run Tryz.prog w=.ok (a == b) w:=fun a b=>run_equalIn_int w 9998 _ .i64 .i64 a b h3;have hb:(Op.equalIn 9999 4 (.bool xt) (.bool yt)).run Tryz.prog w=.ok (xt == yt) w:=run_equalIn_bool' w 9998 _ xt yt h4;have e7:(Op.eqFields 9999 #[.bool xt,.int .i64 xn,.int .i64 xl,.int .i64 xh,.int .i64 xa,.int .i64 xp,.int .i64 xs] #[.bool yt,.int .i64 yn,.int .i64 yl,.int .i64 yh,.int .i64 ya,.int .i64 yp,.int .i64 ys] []).run Tryz.prog w=.ok true w:=by simp[Op.eqFields]
 have e6 := pY 9999 ⟨ "Seal", 3, 6, false, "", "", 48⟩ [] #[.bool xt, .int .i64 xn, .int .i64 xl, .int .i64 xh, .int .i64 xa, .int .i64 xp, .int .i64 xs] #[.bool yt, .int .i64 yn, .int .i64 yl, .int .i64 yh, .int .i64 ya, .int .i64 yp, .int .i64 ys] (.int .i64 xs) (.int .i64 ys) _ _ w A8 (aJq ..) (aJq ..) (hi ..) e7;have e5 := pY 9999 ⟨ "Perm", 3, 5, false, "", "", 40⟩ [⟨ "Seal", 3, 6, false, "", "", 48⟩] #[.bool xt, .int .i64 xn, .int .i64 xl, .int .i64 xh, .int .i64 xa, .int .i64 xp, .int .i64 xs] #[.bool yt, .int .i64 yn, .int .i64 yl, .int .i64 yh, .int .i64 ya, .int .i64 yp, .int .i64 ys] (.int .i64 xp) (.int .i64 yp) _ _ w A8 (aJr ..) (aJr ..) (hi ..) e6;have e4 := pY 9999 ⟨ "At", 3, 4, false, "", "", 32⟩ [⟨ "Perm", 3, 5, false, "", "", 40⟩, ⟨ "Seal", 3, 6, false, "", "", 48⟩] #[.bool xt, .int .i64 xn, .int .i64 xl, .int .i64 xh, .int .i64 xa, .int .i64 xp, .int .i64 xs] #[.bool yt, .int .i64 yn, .int .i64 yl, .int .i64 yh, .int .i64 ya, .int .i64 yp, .int .i64 ys] (.int .i64 xa) (.int .i64 ya) _ _ w A8 (aJs ..) (aJs ..) (hi ..) e5;have e3 := pY 9999 ⟨ "Hi", 3, 3, false, "", "", 24⟩ [⟨ "At", 3, 4, false, "", "", 32⟩, ⟨ "Perm", 3, 5, false, "", "", 40⟩, ⟨ "Seal", 3, 6, false, "", "", 48⟩] #[.bool xt, .int .i64 xn, .int .i64 xl, .int .i64 xh, .int .i64 xa, .int .i64 xp, .int .i64 xs] #[.bool yt, .int .i64 yn, .int .i64 yl, .int .i64 yh, .int .i64 ya, .int .i64 yp, .int .i64 ys] (.int .i64 xh) (.int .i64 yh) _ _ w A8 (aJt ..) (aJt ..) (hi ..) e4;have e2 := pY 9999 ⟨ "Lo", 3, 2, false, "", "", 16⟩ [⟨ "Hi", 3, 3, false, "", "", 24⟩, ⟨ "At", 3, 4, false, "", "", 32⟩, ⟨ "Perm", 3, 5, false, "", "", 40⟩, ⟨ "Seal", 3, 6, false, "", "", 48⟩] #[.bool xt, .int .i64 xn, .int .i64 xl, .int .i64 xh, .int .i64 xa, .int .i64 xp, .int .i64 xs] #[.bool yt, .int .i64 yn, .int .i64 yl, .int .i64 yh, .int .i64 ya, .int .i64 yp, .int .i64 ys] (.int .i64 xl) (.int .i64 yl) _ _ w A8 (aJu ..) (aJu ..) (hi ..) e3;have e1 := pY 9999 ⟨ "N", 3, 1, false, "", "", 8⟩ [⟨ "Lo", 3, 2, false, "", "", 16⟩, ⟨ "Hi", 3, 3, false, "", "", 24⟩, ⟨ "At", 3, 4, false, "", "", 32⟩, ⟨ "Perm", 3, 5, false, "", "", 40⟩, ⟨ "Seal", 3, 6, false, "", "", 48⟩] #[.bool xt, .int .i64 xn, .int .i64 xl, .int .i64 xh, .int .i64 xa, .int .i64 xp, .int .i64 xs] #[.bool yt, .int .i64 yn, .int .i64 yl, .int .i64 yh, .int .i64 ya, .int .i64 yp, .int .i64 ys] (.int .i64 xn) (.int .i64 yn) _ _ w A8 (aJv ..) (aJv ..) (hi ..) e2;have e0 := pY 9999 ⟨ "Tag", 4, 0, false, "", "", 0⟩ [⟨ "N", 3, 1, false, "", "", 8⟩, ⟨ "Lo", 3, 2, false, "", "", 16⟩, ⟨ "Hi", 3, 3, false, "", "", 24⟩, ⟨ "At", 3, 4, false, "", "", 32⟩, ⟨ "Perm", 3, 5, false, "", "", 40⟩, ⟨ "Seal", 3, 6, false, "", "", 48⟩] #[.bool xt, .int .i64 xn, .int .i64 xl, .int .i64 xh, .int .i64 xa, .int .i64 xp, .int .i64 xs] #[.bool yt, .int .i64 yn, .int .i64 yl, .int .i64 yh, .int .i64 ya, .int .i64 yp, .int .i64 ys] (.bool xt) (.bool yt) _ _ w A8 (aJw ..) (aJw ..) hb e1;rw[run_eql_struct,run_equalIn_struct w 9999 _ _ _ A4 A4,wC,e0,Result.andThen_ok,Bool.and_true]
def qX (xt:Bool)(xn xl xh xa xp xs:Int):Bool:=(!xt && ((xl == 0) && ((xh == 0) && ((xa == 0) && ((xp == 0) && (xs == 0)))))) && (xn == wrap64 (wrap32 xn))
set_option maxRecDepth 100000 in
theorem aQe (xt:Bool)(xn xl xh xa xp xs:Int)(w:World):
  Calls Tryz.prog 65 #[.agg #[.bool xt,.int .i64 xn,.int .i64 xl,.int .i64 xh,.int .i64 xa,.int .i64 xp,.int .i64 xs]] w fun e w'=>e=.returned (.bool (qX xt xn xl xh xa xp xs))/\Below w.heap.size w w':=by
 have hw:=aEm xn;unfold qX;go_enter Tryz.func65,Tryz.ntmps65;by_cases h:xt=false/\xl=0/\xh=0/\xa=0/\xp=0/\xs=0
 .
  obtain⟨rfl,rfl,rfl,rfl,rfl,rfl⟩:=h;go_wp2_with fail;go_quiet ((go_at_call 89;exact Calls.quiet_of_same (hw _)));go_wp2;go_ret;exact⟨rb A9,(by repeat (first|exact zD2 _ _|assumption|(refine below_drewN ?_ _)|apply Below.drew|(refine Below.alloc ?_ ?_ _)|(refine Below.setCell ?_ ?_ _)|omega|(simp;omega)|simp))⟩
 .
  have hq:∀w:World,(binOp .eql 39 (.agg #[.bool xt,.int .i64 xn,.int .i64 xl,.int .i64 xh,.int .i64 xa,.int .i64 xp,.int .i64 xs]) (.agg #[.bool false,.int .i64 xn,.int .i64 0,.int .i64 0,.int .i64 0,.int .i64 0,.int .i64 0])).run Tryz.prog w=.ok (.bool false) w:=by
   intro w;rw[rK];congr 2;simpa using h
  go_wp2_with fail;go_quiet ((go_at_call 89;exact Calls.quiet_of_same (hw _)));go_wp2;go_ret;exact⟨rb (by cases xt <;> simp at h ⊢;intro a1 a2 a3 a4 a5;exact absurd a5 (h a1 a2 a3 a4)),(by repeat (first|exact zD2 _ _|assumption|(refine below_drewN ?_ _)|apply Below.drew|(refine Below.alloc ?_ ?_ _)|(refine Below.setCell ?_ ?_ _)|omega|(simp;omega)|simp))⟩
def aGe (xt:Bool)(xn xl xh xa xp xs:Int):Bool:=(xt && ((xn == 0) && (xs == 0))) && (inR xp 0 31 && (decide (0<=xl) && (decide (xl<=xh) && (decide (xh<=4000) && inR xa (-4000) 8000))))
set_option maxRecDepth 100000 in
theorem aQd (xt:Bool)(xn xl xh xa xp xs:Int)(w:World):
  Calls Tryz.prog 67 #[.agg #[.bool xt,.int .i64 xn,.int .i64 xl,.int .i64 xh,.int .i64 xa,.int .i64 xp,.int .i64 xs]] w fun e w'=>e=.returned (.bool (aGe xt xn xl xh xa xp xs))/\∃o,w'=w.alloc o:=by
 unfold aGe;by_cases h:xt=true/\xn=0/\xs=0
 .
  obtain⟨rfl,rfl,rfl⟩:=h;by_cases h1:inR xp 0 31=true
  .
   rw[h1];by_cases h2:0<=xl/\xl<=xh/\xh<=4000
   .
    obtain⟨h2,h3,h4⟩:=h2;go_enter Tryz.func67,Tryz.ntmps67;go_wp2_with fail;refine(gH _ _ _ _).mono ?_;rintro e w1 ⟨rfl,rfl⟩;rw[h1];go_wp2_with fail;refine(gH _ _ _ _).mono ?_;rintro e w1 ⟨rfl,rfl⟩;go_wp2;go_ret;exact⟨rb (by simp[h2,h3,h4]),_,rfl⟩
   .
    go_enter Tryz.func67,Tryz.ntmps67;go_wp2_with fail;refine(gH _ _ _ _).mono ?_;rintro e w1 ⟨rfl,rfl⟩;rw[h1];go_wp2;all_goals go_ret
    all_goals exact⟨rb A12,_,rfl⟩
  .
   rw[Bool.not_eq_true]at h1;rw[h1];go_enter Tryz.func67,Tryz.ntmps67;go_wp2_with fail;refine(gH _ _ _ _).mono ?_;rintro e w1 ⟨rfl,rfl⟩;rw[h1];go_wp2;go_ret;exact⟨rb A9,_,rfl⟩
 .
  have hq:∀w:World,(binOp .eql 39 (.agg #[.bool xt,.int .i64 xn,.int .i64 xl,.int .i64 xh,.int .i64 xa,.int .i64 xp,.int .i64 xs]) (.agg #[.bool true,.int .i64 0,.int .i64 xl,.int .i64 xh,.int .i64 xa,.int .i64 xp,.int .i64 0])).run Tryz.prog w=.ok (.bool false) w:=by
   intro w;rw[rK];congr 2;simpa using h
  have hz:(xt && ((xn == 0) && (xs == 0)))=false:=by simpa using h
  rw[hz];go_enter Tryz.func67,Tryz.ntmps67;go_wp2;go_ret;exact⟨rb A9,_,rfl⟩
end Go.Proofs.YtcbhdhmhidpdgaaGreat

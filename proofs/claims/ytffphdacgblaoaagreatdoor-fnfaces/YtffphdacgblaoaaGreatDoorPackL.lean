import Derived.Test.YtffphdacgblaoaaGreatDoorModPure
import Derived.Test.YtffphdacgblaoaaGreatDoorPackC
import Derived.Test.YtffphdacgblaoaaGreatDoorShelf
import Derived.Deep.RegionHeld3
namespace Go.Proofs.YtffphdacgblaoaaGreatDoor
open Go.RowKit
set_option linter.unusedVariables false
set_option linter.unusedSimpArgs false
set_option maxRecDepth 100000
set_option maxHeartbeats 4000000
theorem Q5{p:Prop}(h:p:=by decide):p:=h
theorem M980{p q:Prop}(k:q)(h:Kx q->p:=by
 intro kQ
 have y0:=aB w (.cells #[.string ⟨f.txt.toArray⟩,.int .i64 f.lo,.int .i64 f.hi,.int .i64 f.le,.int .i64 f.mo] 183 (0,0)) none
 have q0:=aN w 183 #[.string ⟨f.txt.toArray⟩,.int .i64 f.lo,.int .i64 f.hi,.int .i64 f.le,.int .i64 f.mo] 0 _ rfl
 revert q0;revert y0
 exact kQ.o):p:=h ⟨k⟩
structure Fm where
 txt:List UInt8
 lo:Int
 hi:Int
 le:Int
 mo:Int
def exF:Nat->Fm
 | 0=>⟨[110,117,109], -2147483648,2147483647,0,0⟩
 | 1=>⟨[110,97,109,101],0,0,0,0⟩
 | 2=>⟨[110,97,109,101,32,91,32,107,105,100,32,93],0,0,1,1⟩
 | 3=>⟨[40,32,107,105,100,32,111,112,32,107,105,100,32,41],0,5,2,2⟩
 | 4=>⟨[73,78],0,0,0,0⟩
 | 5=>⟨[76,69,78,32,110,97,109,101],0,0,0,0⟩
 | 6=>⟨[109,111,100,32,110,97,109,101,32,97,114,103,115],0,0,0,4⟩
 | _=>⟨[64,32,110,97,109,101],0,0,0,0⟩
def stF:Nat->Fm
 | 0=>⟨[110,97,109,101,32,58,61,32,107,105,100,32,59],0,0,1,1⟩
 | 1=>⟨[110,97,109,101,32,91,32,107,105,100,32,93,32,58,61,32,107,105,100,32,59],0,0,2,2⟩
 | 2=>⟨[73,70,32,107,105,100,32,84,72,69,78,32,98,111,100,121,32,69,76,83,69,32,101,108,115,101,32,69,78,68,32,59],0,0,1,1⟩
 | 3=>⟨[87,72,73,76,69,32,107,105,100,32,68,79,32,98,111,100,121,32,69,78,68,32,59],0,0,1,1⟩
 | 4=>⟨[82,69,84,85,82,78,32,107,105,100,32,59],0,0,1,1⟩
 | 5=>⟨[79,85,84,32,107,105,100,32,59],0,0,1,1⟩
 | 6=>⟨[84,82,65,80,32,110,117,109,32,59],0,99,0,0⟩
 | _=>⟨[67,65,76,76,32,99,97,108,108,32,59],0,0,1,1⟩
def dX:List UInt8:=[110,97,109,101]
def fM:List UInt8:=[98,111,100,121]
def eV:List UInt8:=[101,108,115,101]
def dY:List UInt8:=[99,97,108,108]
def lM:List UInt8:=[109,111,100]
def Fm.val (f:Fm):Value:=.agg #[.string ⟨f.txt.toArray⟩,.int .i64 f.lo,.int .i64 f.hi,.int .i64 f.le,.int .i64 f.mo]
def Fm.words (f:Fm):List (List UInt8):=Lib.fields f.txt
def dD (f:Fm)(wd:List UInt8):Bool:=f.words.any fun x=>decide (x=wd)
structure aNa (w:World) (g o:Nat) (f:Fm):Prop where
 c0:w.cell? ⟨g,o,none⟩=some (.string ⟨f.txt.toArray⟩)
 c1:w.cell? ⟨g,o+1,none⟩=some (.int .i64 f.lo)
 c2:w.cell? ⟨g,o+2,none⟩=some (.int .i64 f.hi)
 c3:w.cell? ⟨g,o+3,none⟩=some (.int .i64 f.le)
 c4:w.cell? ⟨g,o+4,none⟩=some (.int .i64 f.mo)
theorem aNa.below {w w':World}{g o:Nat}{f:Fm}(h:aNa w g o f)(hb:Below w.heap.size w w'):aNa w' g o f:=
 ⟨aC h.c0 hb,aC h.c1 hb,aC h.c2 hb,aC h.c3 hb,aC h.c4 hb⟩
structure nF (w:World):Prop where
 ex:∀i,i<8->aNa w 3 (i*5) (exF i)
 st:∀i,i<8->aNa w 2 (i*5) (stF i)
 sp : Lib.TabIs Tryz.prog w "strings.asciiSpace" .u8 Lib.asciiSpaceTab
 p10 : Lib.TabIs Tryz.prog w "internal/strconv.uint64pow10" .u64 Lib.pow10Tab
theorem uC {w w':World}{n:String}{k:IntKind}{zs:List Int}{g:Nat}(hg:Tryz.prog.globalNamed n=some g)(h:Lib.TabIs Tryz.prog w n k zs)(hb:Below w.heap.size w w'):Lib.TabIs Tryz.prog w' n k zs:=by
 unfold Lib.TabIs World.var? at h ⊢;rw[hg]at h ⊢;simp only[Option.bind_some]at h ⊢
 cases hw:w.heap[g]? with
 | none=>rw[hw]at h;cases h
 | some o=>
  rw[hb.block g (zJ0.1 hw).1,hw];rw[hw]at h;exact h
theorem gSp : Tryz.prog.globalNamed "strings.asciiSpace" = some 5 := by kernel_rfl
theorem aRd : Tryz.prog.globalNamed "internal/strconv.uint64pow10" = some 4 := by kernel_rfl
theorem nF.below {w w':World}(h:nF w)(hb:Below w.heap.size w w'):nF w':=
 ⟨fun i hi=>(h.ex i hi).below hb,fun i hi=>(h.st i hi).below hb,uC gSp h.sp hb,uC aRd h.p10 hb⟩
def Fm.plain (f:Fm):Prop:=f.txt.length<4294967281/\(∀(j:Nat) b,f.txt[j]?=some b->b.toNat<128)/\f.words.length<=100/\0<f.words.length
theorem dS {f:Fm}(h:(decide (f.txt.length<4294967281) && (f.txt.all fun b=>decide (b.toNat<128)) && decide (f.words.length<=100) && decide (0<f.words.length))=true):f.plain:=by
 simp only[zC0,zE3,zF3]at h
 exact⟨h.1.1.1,fun j b hb=>h.1.1.2 b (zA3 hb),h.1.2,h.2⟩
theorem kA (i:Nat):(exF i).plain:=by
 match i with
 | 0=>exact dS Q5
 | 1=>exact dS Q5
 | 2=>exact dS Q5
 | 3=>exact dS Q5
 | 4=>exact dS Q5
 | 5=>exact dS Q5
 | 6=>exact dS Q5
 | n+7=>exact dS (f:=exF 7) Q5
theorem jT (i:Nat):(stF i).plain:=by
 match i with
 | 0=>exact dS Q5
 | 1=>exact dS Q5
 | 2=>exact dS Q5
 | 3=>exact dS Q5
 | 4=>exact dS Q5
 | 5=>exact dS Q5
 | 6=>exact dS Q5
 | n+7=>exact dS (f:=stF 7) Q5
def tV (l:List (List UInt8)):List Value:=l.map fun x=>.string ⟨x.toArray⟩
theorem hH (f:Fm)(hp:f.plain)(w:World)(ht:nF w):
  Calls Tryz.prog 157 #[f.val] w fun e w'=>∃g,e=.returned (.slice (some ⟨g,0,none⟩) f.words.length f.words.length)/\Blk w' g 9 (tV f.words)/\w.heap.size<=g/\w.grownBy w' none:=by
 refine M980 ?_;intro y0 q0
 have H:=Tryz.strings_Fields ⟨f.txt.toArray⟩ _ (by simpa [ByteArray.size] using hp.1) (by simpa using hp.2.1) (ht.below (aA y0)).sp
 unfold Fm.val;clear ht;simp only[List.toList_toArray]at H;go_enter Tryz.func157,Tryz.ntmps157;go_upto_region 1 with fail;generalize w.alloc (.cells #[.string ⟨f.txt.toArray⟩,.int .i64 f.lo,.int .i64 f.hi,.int .i64 f.le,.int .i64 f.mo] 183 (0,0))=w1 at *;go_wp2_with fail;refine H.mono ?_;rintro e w2 ⟨rfl,rfl⟩;go_wp2;go_ret;exact⟨_,rfl,zJ1 w1 _,y0.size,aD y0 (aB _ _ _)⟩
theorem aAy (a b:List UInt8):((⟨a.toArray⟩:ByteArray)=⟨b.toArray⟩) ↔ a=b:=by
 constructor
 .
  intro h
  have h1:=congrArg (fun x=>x.data.toList) h
  simpa using h1
 .
  intro h;rw[h]
theorem aFn (f:Fm)(hp:f.plain)(wd:List UInt8)(w:World)(ht:nF w):
  Calls Tryz.prog 153 #[f.val,.string ⟨wd.toArray⟩] w fun e w'=>e=.returned (.bool (dD f wd))/\w.grownBy w' none:=by
 refine M980 ?_;intro y0 q0;have q1:=aN w 183 #[.string ⟨f.txt.toArray⟩,.int .i64 f.lo,.int .i64 f.hi,.int .i64 f.le,.int .i64 f.mo] 1 _ rfl;have q2:=aN w 183 #[.string ⟨f.txt.toArray⟩,.int .i64 f.lo,.int .i64 f.hi,.int .i64 f.le,.int .i64 f.mo] 2 _ rfl;have q3:=aN w 183 #[.string ⟨f.txt.toArray⟩,.int .i64 f.lo,.int .i64 f.hi,.int .i64 f.le,.int .i64 f.mo] 3 _ rfl;have q4:=aN w 183 #[.string ⟨f.txt.toArray⟩,.int .i64 f.lo,.int .i64 f.hi,.int .i64 f.le,.int .i64 f.mo] 4 _ rfl;have H:=hH f hp _ (ht.below (aA y0));have Ak:=hp.2.2.1;have hpos:=hp.2.2.2;unfold Fm.val at H ⊢;clear ht;go_enter Tryz.func153,Tryz.ntmps153;go_upto_region 1 with fail;generalize w.alloc (.cells #[.string ⟨f.txt.toArray⟩,.int .i64 f.lo,.int .i64 f.hi,.int .i64 f.le,.int .i64 f.mo] 183 (0,0))=w1 at *;go_wp2_with fail;refine H.mono ?_;rintro e w2 ⟨g,rfl,hB,hg,y1⟩
 have HC:=Tryz.slices_Contains_string g 0 f.words.length f.words.length (f.words.map fun x=>⟨x.toArray⟩) ⟨wd.toArray⟩ w2 Q9 Q0 (fun j hj=>by
  have hj:j<f.words.length:=by simpa using hj
  rw[zJ2];refine hB.cell ?_
  simp[tV,List.getD,hj])
 have he:Hid (Lib.containsS ((f.words.map fun x=>⟨x.toArray⟩).take f.words.length) ⟨wd.toArray⟩=dD f wd):=by
  show _=_
  rw[zD3 Q9,Bool.eq_iff_iff,Lib.containsS_iff];unfold dD;rw[List.any_eq_true]
  constructor
  .
   intro h;obtain⟨x,hx,e⟩:=zE1.1 h
   exact⟨x,hx,by simpa using (aAy x wd).1 e⟩
  .
   rintro⟨x,hx,e⟩
   exact zE1.2 ⟨x,hx,(aAy x wd).2 (by simpa using e)⟩
 clear H hB q0 q1 q2 q3 q4;go_wp2_with fail;refine HC.mono ?_;rintro e w3 ⟨rfl,rfl⟩;go_wp2;go_ret;exact⟨aE he.out,aD y0 y1⟩
def cG (f:Fm)(n:Int)(name:List Int)(nk:Nat):Bool:=inB n f.lo f.hi && inB nk f.le f.mo && (if dD f dX then aK name false else decide (name.length=0))
set_option maxHeartbeats 1000000 in
theorem aJw (f:Fm)(hp:f.plain)(n:Int)(a:Option Addr)(c:Nat)(name:List Int)(nk:Nat)(w:World)(ht:nF w)(hr:eG w a name.length name)(hn:name.length<=1073741824)(hc:name.length<=c):
  Calls Tryz.prog 152 #[f.val,.int .i64 n,.slice a name.length c,.int .i64 nk] w fun e w'=>e=.returned (.bool (cG f n name nk))/\w.grownBy w' none:=by
 have y0:=aB w (.cells #[.string ⟨f.txt.toArray⟩,.int .i64 f.lo,.int .i64 f.hi,.int .i64 f.le,.int .i64 f.mo] 183 (0,0)) none;have x0:=Blk.new w 183 [.string ⟨f.txt.toArray⟩,.int .i64 f.lo,.int .i64 f.hi,.int .i64 f.le,.int .i64 f.mo]
 have hfe:Hid (cG f n name nk=(inB n f.lo f.hi && inB nk f.le f.mo && (if dD f dX then aK name false else decide (name.length=0)))):=rfl
 have ht1:=ht.below (aA y0);have hr1:=hr.below (aA y0);simp only[List.toArray]at x0;unfold Fm.val;clear ht hr;go_enter Tryz.func152,Tryz.ntmps152;go_upto_region 1 with fail;generalize w.alloc (.cells #[.string ⟨f.txt.toArray⟩,.int .i64 f.lo,.int .i64 f.hi,.int .i64 f.le,.int .i64 f.mo] 183 (0,0))=w1 at *;obtain⟨q0,q1,q2,q3,q4⟩:=x0.c5;have R1:=iM n f.lo f.hi w1;have R2:=iM nk f.le f.mo w1;go_wp2_with fail;refine R1.mono ?_;rintro e w1 ⟨rfl,rfl⟩;clear R1
 rw[show(decide (f.lo<=n) && decide (n<=f.hi))=inB n f.lo f.hi from rfl]
 cases e1:inB n f.lo f.hi
 .
  have he:Hid (cG f n name nk=false):=by show _=_;rw[hfe.out,e1];rfl
  clear e1;go_wp2;go_ret;exact⟨aE he.out.symm,y0⟩
 have hf2:Hid (cG f n name nk=(inB nk f.le f.mo && (if dD f dX then aK name false else decide (name.length=0)))):=by show _=_;rw[hfe.out,e1];rfl
 clear e1 hfe;go_wp2_with fail;refine R2.mono ?_;rintro e w1 ⟨rfl,rfl⟩;clear R2
 rw[show(decide (f.le<=(nk:Int)) && decide ((nk:Int)<=f.mo))=inB nk f.le f.mo from rfl]
 cases e1:inB nk f.le f.mo
 .
  have he:Hid (cG f n name nk=false):=by show _=_;rw[hf2.out,e1];rfl
  clear e1;go_wp2;go_ret;exact⟨aE he.out.symm,y0⟩
 have hf3:Hid (cG f n name nk=(if dD f dX then aK name false else decide (name.length=0))):=by show _=_;rw[hf2.out,e1];rfl
 clear e1 hf2;have HW:=aFn f hp dX w1 ht1;unfold Fm.val at HW;unfold dX at HW;go_wp2_with fail;refine HW.mono ?_;rintro e w2 ⟨rfl,hg2⟩;have ht2:=ht1.below (aA hg2);have hr2:=hr1.below (aA hg2);replace x0:=x0.below (aA hg2) x0.lt;have y2:=aD y0 hg2;clear HW q0 q1 q2 q3 q4 hg2;obtain⟨q0,q1,q2,q3,q4⟩:=x0.c5
 rw[show([110,97,109,101]:List UInt8)=dX from rfl]
 cases e1:dD f dX
 .
  have hf4:Hid (cG f n name nk=decide (name.length=0)):=by show _=_;rw[hf3.out,e1];rfl
  have HW:=aFn f hp dX w2 ht2;rw[e1]at HW;unfold Fm.val dX at HW;clear e1 hf3;go_wp2_with fail;refine HW.mono ?_;rintro e w3 ⟨rfl,hg3⟩;clear HW q0 q1 q2 q3 q4;have y3:=aD y2 hg3
  by_cases hz:name.length=0
  .
   have he:Hid (cG f n name nk=true):=by show _=_;rw[hf4.out];exact zB3 hz
   rw[hz];go_wp2;go_ret;exact⟨aE he.out.symm,y3⟩
  .
   have he:Hid (cG f n name nk=false):=by show _=_;rw[hf4.out];exact zC2 hz
   have hz':((name.length:Int) == 0)=false:=by simpa using hz
   go_wp2;go_ret;exact⟨aE (he.out.symm ▸ Q9),y3⟩
 .
  have hf4:Hid (cG f n name nk=aK name false):=by show _=_;rw[hf3.out,e1];rfl
  have HN:=eH a name.length c name false w2 hr2 hn hc;have HW:=aFn f hp dX w2 ht2;rw[e1]at HW;unfold Fm.val dX at HW;clear e1 hf3;go_wp2_with fail;refine HN.mono ?_;rintro e w2 ⟨rfl,rfl⟩;clear HN
  cases e2:aK name false
  .
   have he:Hid (cG f n name nk=false):=by show _=_;rw[hf4.out,e2]
   clear e2;go_wp2_with fail;refine HW.mono ?_;rintro e w3 ⟨rfl,hg3⟩;go_wp2;go_ret;exact⟨aE he.out.symm,aD y2 hg3⟩
  .
   have he:Hid (cG f n name nk=true):=by show _=_;rw[hf4.out,e2]
   clear e2;go_wp2;go_ret;exact⟨aE he.out.symm,y2⟩
theorem aDf:dD (exF 0) dX=false:=by decide
theorem aDe:dD (exF 1) dX=true:=by decide
theorem aDd:dD (exF 2) dX=true:=by decide
theorem aDc:dD (exF 3) dX=false:=by decide
theorem aDb:dD (exF 4) dX=false:=by decide
theorem aDa:dD (exF 5) dX=true:=by decide
theorem aC9:dD (exF 6) dX=true:=by decide
theorem aC8:dD (exF 7) dX=true:=by decide
theorem aF4:dD (exF 0) lM=false:=by decide
theorem aF3:dD (exF 1) lM=false:=by decide
theorem aF2:dD (exF 2) lM=false:=by decide
theorem aF1:dD (exF 3) lM=false:=by decide
theorem aF0:dD (exF 4) lM=false:=by decide
theorem aFz:dD (exF 5) lM=false:=by decide
theorem aFy:dD (exF 6) lM=true:=by decide
theorem aFx:dD (exF 7) lM=false:=by decide
theorem aBk:dD (stF 0) dX=true:=by decide
theorem aBj:dD (stF 1) dX=true:=by decide
theorem aBi:dD (stF 2) dX=false:=by decide
theorem aBh:dD (stF 3) dX=false:=by decide
theorem aBg:dD (stF 4) dX=false:=by decide
theorem aBf:dD (stF 5) dX=false:=by decide
theorem aBe:dD (stF 6) dX=false:=by decide
theorem aBd:dD (stF 7) dX=false:=by decide
theorem aB8:dD (stF 0) fM=false:=by decide
theorem aB7:dD (stF 1) fM=false:=by decide
theorem aB6:dD (stF 2) fM=true:=by decide
theorem aB5:dD (stF 3) fM=true:=by decide
theorem aB4:dD (stF 4) fM=false:=by decide
theorem aB3:dD (stF 5) fM=false:=by decide
theorem aB2:dD (stF 6) fM=false:=by decide
theorem aB1:dD (stF 7) fM=false:=by decide
theorem aBs:dD (stF 0) eV=false:=by decide
theorem aBr:dD (stF 1) eV=false:=by decide
theorem aBq:dD (stF 2) eV=true:=by decide
theorem aBp:dD (stF 3) eV=false:=by decide
theorem aBo:dD (stF 4) eV=false:=by decide
theorem aBn:dD (stF 5) eV=false:=by decide
theorem aBm:dD (stF 6) eV=false:=by decide
theorem aBl:dD (stF 7) eV=false:=by decide
theorem aB0:dD (stF 0) dY=false:=by decide
theorem aBz:dD (stF 1) dY=false:=by decide
theorem aBy:dD (stF 2) dY=false:=by decide
theorem aBx:dD (stF 3) dY=false:=by decide
theorem aBw:dD (stF 4) dY=false:=by decide
theorem aBv:dD (stF 5) dY=false:=by decide
theorem aBu:dD (stF 6) dY=false:=by decide
theorem aBt:dD (stF 7) dY=true:=by decide
theorem U27{p:Prop}(h:p:=by
 rintro e w' ⟨rfl,hg⟩
 exact⟨rfl,hg,fun _=>aD hi hg,fun _=>trivial⟩):p:=h
def e0:Ex:=.mk 0 0 [] [] []
theorem aC2 (k:Int)(x:Ex)(vs:List Value)(g:Nat)(w:World)(h:cC w x.fl vs)(hg:w.cell? ⟨g,0,none⟩=some (.int .i64 k)):
  Calls Tryz.prog 163 (#[agg vs] ++ #[.pointer (some ⟨g,0,none⟩)]) w fun e w'=>e=.returned (.bool (decide (x.kind=k)))/\w.grownBy w' none:=by
 obtain⟨x0,x1,x2,x3,x4⟩:=x;unfold Ex.fl at h;obtain⟨y0,_,rfl,rfl,y1,_,rfl,rfl,y2,_,rfl,_,y3,_,rfl,_,y4,_,rfl,_,rfl⟩:=h;have g0:=aB w (.cells #[.int .i64 x0,.int .i64 x1,y2,y3,y4] 119 (0,0)) none;have q0:=aN w 119 #[.int .i64 x0,.int .i64 x1,y2,y3,y4] 0 _ rfl;replace hg:=aC hg (aA g0)
 show Calls Tryz.prog 163 #[.agg #[.int .i64 x0,.int .i64 x1,y2,y3,y4],.pointer (some ⟨g,0,none⟩)] w _
 have he:Hid ((x0 == k)=decide (Ex.kind (.mk x0 x1 x2 x3 x4)=k)):=by show _=_;unfold Ex.kind;by_cases h:x0=k <;> simp[h]
 go_enter Tryz.func163,Tryz.ntmps163;go_upto_region 1 with fail;generalize w.alloc (.cells #[.int .i64 x0,.int .i64 x1,y2,y3,y4] 119 (0,0))=w1 at *;go_wp2;go_ret;exact⟨aE he.out,g0⟩
theorem cF (x:Ex):x.fl.length=5:=by cases x;simp[Ex.fl]
theorem aDw (x:St):x.fl.length=6:=by cases x;simp[St.fl]
theorem gW (k:Int)(l:List Ex)(a:Option Addr)(c:Nat)(w:World)(h:bQ w a c 5 (exs l)):
  Calls Tryz.prog 154 #[.slice a l.length c,.int .i64 k] w fun e w'=>e=.returned (.bool (l.any fun x=>decide (x.kind=k)))/\w.grownBy w' none:=by
 have y0:=aB w (.cells #[.int .i64 k] 3 (0,0)) none;have x0:=aN w 3 #[.int .i64 k] 0 _ rfl;replace h:=h.below (aA y0)
 have HC:Calls Tryz.prog 160 #[.slice a l.length c,.func (.func 163) #[] #[.pointer (some ⟨w.heap.size,0,none⟩)]] (w.alloc (.cells #[.int .i64 k] 3 (0,0))) fun e w'=>e=.returned (.bool (l.any fun x=>decide (x.kind=k)))/\w.grownBy w' none:=by
  generalize w.alloc (.cells #[.int .i64 k] 3 (0,0))=W at *
  refine(oK 163 _ none a l.length c (exs l) (fun j=>decide ((l[j]?.getD e0).kind=k)) (fun _ wr=>W.grownBy wr none) (fun _ _=>True) W ⟨cQ Tryz.func163 rfl rfl,fun j wr hi=>h.below (aA hi), ?_, ?_⟩ (by simp[aQ]) (aR _ _)).mono ?_
  .
   intro r hr;rw[aQ]at hr;obtain⟨x,_,rfl⟩:=zE1.1 hr;exact cF x
  .
   intro j r wr vs hr hi Ai _;rw[aQ,zA2]at hr;obtain⟨x,hx,rfl⟩:=zF0.1 hr;rw[hx];refine(aC2 k x vs w.heap.size wr Ai (aC x0 (aA hi))).mono ?_;exact U27
  .
   rintro e w' ⟨r,rfl,hg,ht⟩;refine⟨aE ?_,aD y0 hg⟩;rw[oR ht]
   exact mL l e0 fun x=>decide (x.kind=k)
 clear h;go_enter Tryz.func154,Tryz.ntmps154;go_upto_region 1 with fail;generalize w.alloc (.cells #[.int .i64 k] 3 (0,0))=W at *;go_wp2_with fail;refine HC.mono ?_;rintro e w3 ⟨rfl,hg⟩;go_wp2;go_ret;exact⟨rfl,hg⟩
theorem U4{p:Prop}(h:p:=by
 go_wp2
 go_ret
 exact⟨aE he.out.symm,yy⟩):p:=h
theorem M91{p q:Prop}(k:q)(h:Kx q->p:=by
 intro kQ
 replace x0:=x0.below (aA hg) x0.lt
 replace fb:=fb.below (aA hg) fb.lt
 replace ht1:=ht1.below (aA hg)
 replace yy:=aD yy hg
 replace h31:=h31.below (aA hg)
 replace h41:=h41.below (aA hg)
 obtain⟨q0,q1,q2,q3,q4,q5⟩:=x0.c6
 obtain⟨f0,f1,f2,f3,f4⟩:=fb.c5
 revert f4;revert f3;revert f2;revert f1;revert f0;revert q5;revert q4;revert q3;revert q2;revert q1;revert q0;revert h41;revert h31;revert yy;revert ht1;revert fb;revert x0
 exact kQ.o):p:=h ⟨k⟩
theorem M99{p q:Prop}(k:q)(h:Kx q->p:=by
 intro kQ
 replace x0:=x0.below (aA hg) x0.lt
 replace fb:=fb.below (aA hg) fb.lt
 replace ht1:=ht1.below (aA hg)
 replace yy:=aD yy hg
 revert yy;revert ht1;revert fb;revert x0
 exact kQ.o):p:=h ⟨k⟩
theorem M919{p q:Prop}(k:q)(h:Kx q->p:=by
 intro kQ
 have z0:=hF.c0
 have z1:=hF.c1
 have z2:=hF.c2
 have z3:=hF.c3
 have z4:=hF.c4
 revert z4;revert z3;revert z2;revert z1;revert z0
 exact kQ.o):p:=h ⟨k⟩
theorem M925{p q:Prop}(k:q)(h:Kx q->p:=by
 intro kQ
 have hbl:(sts bs).length=bs.length:=by simp[bL]
 have hel:(sts es).length=es.length:=by simp[bL]
 revert hel;revert hbl
 exact kQ.o):p:=h ⟨k⟩
theorem M939{p q:Prop}(k:q)(h:Kx q->p:=by
 intro kQ
 replace h21:=h21.below (aA hg)
 replace h31:=h31.below (aA hg)
 replace h41:=h41.below (aA hg)
 obtain⟨q0,q1,q2,q3,q4⟩:=x0.c5
 obtain⟨f0,f1,f2,f3,f4⟩:=fb.c5
 revert f4;revert f3;revert f2;revert f1;revert f0;revert q4;revert q3;revert q2;revert q1;revert q0;revert h41;revert h31;revert h21
 exact kQ.o):p:=h ⟨k⟩
theorem M974{p q:Prop}(k:q)(h:Kx q->p:=by
 intro kQ
 have fb:=Blk.new w1 183 [.string ⟨F.txt.toArray⟩,.int .i64 F.lo,.int .i64 F.hi,.int .i64 F.le,.int .i64 F.mo]
 have yf:=aB w1 (.cells #[.string ⟨F.txt.toArray⟩,.int .i64 F.lo,.int .i64 F.hi,.int .i64 F.le,.int .i64 F.mo] 183 (0,0)) none
 replace x0:=x0.below (aA yf) x0.lt
 replace ht1:=ht1.below (aA yf)
 revert ht1;revert x0;revert yf;revert fb
 exact kQ.o):p:=h ⟨k⟩
def Fm.cells (f:Fm):List Value:=[.string ⟨f.txt.toArray⟩,.int .i64 f.lo,.int .i64 f.hi,.int .i64 f.le,.int .i64 f.mo]
def exT (k n:Int)(mod name:List Int)(ks:List Ex):Bool:=
 inB k 0 7 && (cG (exF k.toNat) n name ks.length && (decide (mod.length=0) || dD (exF k.toNat) lM && aK mod true) && (decide (k=6) || !(ks.any fun x=>decide (x.kind=7))))
theorem aF5 (x:Ex)(vs:List Value)(w:World)(ht:nF w)(h:cC w x.fl vs)(hs:aL x.fl<=1048576):
  Calls Tryz.prog 165 #[agg vs] w fun e w'=>e=.returned (.bool (exT x.kind x.n x.mod x.name x.kids))/\w.grownBy w' none:=by
 obtain⟨k,n,mod,name,ks⟩:=x;unfold Ex.fl at h
 have hs':mod.length<=1048576/\name.length<=1048576:=by simp only[Ex.fl,aL,Fl.len]at hs;omega
 clear hs;obtain⟨y0,_,rfl,rfl,y1,_,rfl,rfl,y2,_,rfl,⟨a2,c2,rfl,h2,hc2,_⟩,y3,_,rfl,⟨a3,c3,rfl,h3,hc3,_⟩,y4,_,rfl,Be,rfl⟩:=h;obtain⟨a4,c4,rfl,h4⟩:=Be.list;clear Be
 have An:(exs ks).length=ks.length:=by simp[aQ]
 have hk9:ks.length<=9223372036854775807:=by have h5:=h4.cap;have h6:=h4.most;unfold maxLen at h6;omega
 rw[An];simp only[agg,Ex.kind,Ex.n,Ex.mod,Ex.name,Ex.kids];have yy:=aB w (.cells #[.int .i64 k,.int .i64 n,.slice a2 mod.length c2,.slice a3 name.length c3,.slice a4 ks.length c4] 119 (0,0)) none;have x0:=Blk.new w 119 [.int .i64 k,.int .i64 n,.slice a2 mod.length c2,.slice a3 name.length c3,.slice a4 ks.length c4]
 have hfe:Hid (exT k n mod name ks=(inB k 0 7 && (cG (exF k.toNat) n name ks.length && (decide (mod.length=0) || dD (exF k.toNat) lM && aK mod true) && (decide (k=6) || !(ks.any fun x=>decide (x.kind=7)))))):=rfl
 generalize exT k n mod name ks=TG at *;have ht1:=ht.below (aA yy);have h21:=h2.below (aA yy);have h31:=h3.below (aA yy);have h41:=h4.below (aA yy);clear ht h2 h3 h4;go_enter Tryz.func165,Tryz.ntmps165;go_upto_region 1 with fail;generalize w.alloc (.cells #[.int .i64 k,.int .i64 n,.slice a2 mod.length c2,.slice a3 name.length c3,.slice a4 ks.length c4] 119 (0,0))=w1 at *;have q0:=x0.k 0;have R1:=iM k 0 7 w1;go_wp2_with fail;refine R1.mono ?_;rintro e w1 ⟨rfl,rfl⟩;clear R1
 rw[show(decide (0<=k) && decide (k<=7))=inB k 0 7 from rfl]
 cases e1:inB k 0 7
 .
  have he:Hid (TG=false):=by show _=_;rw[hfe.out,e1];rfl
  clear e1;exact U4
 have hkk:0<=k/\k<=7:=by simpa [inB] using e1
 have hf2:Hid (TG=(cG (exF k.toNat) n name ks.length && (decide (mod.length=0) || dD (exF k.toNat) lM && aK mod true) && (decide (k=6) || !(ks.any fun x=>decide (x.kind=7))))):=by show _=_;rw[hfe.out,e1];rfl
 clear e1 hfe
 obtain⟨i,rfl⟩:∃i:Nat,k=(i:Int):=⟨k.toNat,by omega⟩
 simp only[Int.toNat_natCast]at hf2;have hi:i<8:=Q0;have hp:=kA i;have hF:=ht1.ex i hi;refine M919 ?_;intro z0 z1 z2 z3 z4;clear hF;generalize hFm:exF i=F at *;clear hFm;go_upto_region 4 with fail;clear z0 z1 z2 z3 z4 q0;refine M974 ?_;clear x0 ht1;intro fb yf x0 ht1;replace h21:=h21.below (aA yf);replace h31:=h31.below (aA yf);replace h41:=h41.below (aA yf);replace yy:=aD yy yf;generalize w1.alloc (.cells #[.string ⟨F.txt.toArray⟩,.int .i64 F.lo,.int .i64 F.hi,.int .i64 F.le,.int .i64 F.mo] 183 (0,0))=w2 at *;generalize w1.heap.size=gf at *;clear yf;obtain⟨q0,q1,q2,q3,q4⟩:=x0.c5;obtain⟨f0,f1,f2,f3,f4⟩:=fb.c5;have HQ:=aJw F hp n a3 c3 name ks.length w2 ht1 h31 Q0 hc3;simp only[Fm.val,dX,lM,fM,eV,dY]at HQ;go_wp2_with fail;refine HQ.mono ?_;rintro e w3 ⟨rfl,hg⟩;clear q0 q1 q2 q3 q4 f0 f1 f2 f3 f4;refine M99 ?_;clear x0 fb ht1 yy;intro x0 fb ht1 yy;refine M939 ?_;clear h21 h31 h41 hg HQ;intro h21 h31 h41 q0 q1 q2 q3 q4 f0 f1 f2 f3 f4
 cases e1:cG F n name ks.length
 .
  have he:Hid (TG=false):=by show _=_;rw[hf2.out,e1];rfl
  exact U4
 have hf3:Hid (TG=((decide (mod.length=0) || dD F lM && aK mod true) && (decide ((i:Int)=6) || !(ks.any fun x=>decide (x.kind=7))))):=by show _=_;rw[hf2.out,e1];rfl
 clear e1 hf2
 by_cases hm:mod.length=0
 .
  have hm':((mod.length:Int) == 0)=true:=by simpa using hm
  have hf4:Hid (TG=(decide ((i:Int)=6) || !(ks.any fun x=>decide (x.kind=7)))):=by show _=_;rw[hf3.out,zB3 hm];simp
  clear hf3
  by_cases h6:(i:Int)=6
  .
   have h6':((i:Int) == 6)=true:=by simpa using h6
   have he:Hid (TG=true):=by show _=_;rw[hf4.out,zB3 h6];rfl
   exact U4
  .
   have h6':((i:Int) == 6)=false:=by simpa using h6
   have HQ:=gW 7 ks a4 c4 w3 h41;go_wp2_with fail;refine HQ.mono ?_;rintro e w4 ⟨rfl,hg⟩;clear q0 q1 q2 q3 q4 f0 f1 f2 f3 f4;refine M99 ?_;clear x0 fb ht1 yy;intro x0 fb ht1 yy;refine M939 ?_;clear h21 h31 h41 hg HQ;intro h21 h31 h41 q0 q1 q2 q3 q4 f0 f1 f2 f3 f4
   have he:Hid (TG = !(ks.any fun x=>decide (x.kind=7))):=by show _=_;rw[hf4.out,zC2 h6];simp
   exact U4
 .
  have hm':((mod.length:Int) == 0)=false:=by simpa using hm
  have HQ:=aFn F hp lM w3 ht1;simp only[Fm.val,dX,lM,fM,eV,dY]at HQ;go_wp2_with fail;refine HQ.mono ?_;rintro e w4 ⟨rfl,hg⟩;clear q0 q1 q2 q3 q4 f0 f1 f2 f3 f4;refine M99 ?_;clear x0 fb ht1 yy;intro x0 fb ht1 yy;refine M939 ?_;clear h21 h31 h41 hg HQ;intro h21 h31 h41 q0 q1 q2 q3 q4 f0 f1 f2 f3 f4
  simp only[show([109,111,100]:List UInt8)=lM from rfl]
  cases e2:dD F lM
  .
   have he:Hid (TG=false):=by show _=_;rw[hf3.out,zC2 hm,e2];simp
   exact U4
  have HQ:=eH a2 mod.length c2 mod true w4 h21 Q0 hc2;go_wp2_with fail;refine HQ.mono ?_;rintro e w5 ⟨rfl,hg⟩;clear q0 q1 q2 q3 q4 f0 f1 f2 f3 f4
  replace hg:w4.grownBy w5 none:=by rw[hg];exact aR _ _
  refine M99 ?_;clear x0 fb ht1 yy;intro x0 fb ht1 yy;refine M939 ?_;clear h21 h31 h41 hg HQ;intro h21 h31 h41 q0 q1 q2 q3 q4 f0 f1 f2 f3 f4
  cases e3:aK mod true
  .
   have he:Hid (TG=false):=by show _=_;rw[hf3.out,zC2 hm,e2,e3];simp
   exact U4
  have hf4:Hid (TG=(decide ((i:Int)=6) || !(ks.any fun x=>decide (x.kind=7)))):=by show _=_;rw[hf3.out,zC2 hm,e2,e3];simp
  clear hf3
  by_cases h6:(i:Int)=6
  .
   have h6':((i:Int) == 6)=true:=by simpa using h6
   have he:Hid (TG=true):=by show _=_;rw[hf4.out,zB3 h6];rfl
   exact U4
  .
   have h6':((i:Int) == 6)=false:=by simpa using h6
   have HQ:=gW 7 ks a4 c4 w5 h41;go_wp2_with fail;refine HQ.mono ?_;rintro e w6 ⟨rfl,hg⟩;clear q0 q1 q2 q3 q4 f0 f1 f2 f3 f4;refine M99 ?_;clear x0 fb ht1 yy;intro x0 fb ht1 yy;refine M939 ?_;clear h21 h31 h41 hg HQ;intro h21 h31 h41 q0 q1 q2 q3 q4 f0 f1 f2 f3 f4
   have he:Hid (TG = !(ks.any fun x=>decide (x.kind=7))):=by show _=_;rw[hf4.out,zC2 h6];simp
   exact U4
def stT (k n:Int)(name:List Int)(ks:List Ex)(nb ne:Nat):Bool:=
 inB k 0 7 && (cG (stF k.toNat) n name ks.length && (decide (nb=0) || dD (stF k.toNat) fM) && (decide (ne=0) || dD (stF k.toNat) eV) && !(ks.any fun x=>decide (x.kind=7)) && (!dD (stF k.toNat) dY || ks.any fun x=>decide (x.kind=6)))
theorem aDz (k n:Int)(name:List Int)(ks:List Ex)(bs es:List St)(vs:List Value)(w:World)(ht:nF w)(h:cC w (St.mk k n name ks bs es).fl vs)(hs:aL (St.mk k n name ks bs es).fl<=1048576):
  Calls Tryz.prog 143 #[agg vs] w fun e w'=>e=.returned (.bool (stT k n name ks bs.length es.length))/\w.grownBy w' none:=by
 unfold St.fl at h
 have hs':name.length<=1048576:=by simp only[St.fl,aL,Fl.len]at hs;omega
 clear hs;obtain⟨y0,_,rfl,rfl,y1,_,rfl,rfl,y2,_,rfl,⟨a2,c2,rfl,h2,hc2,_⟩,y3,_,rfl,h3',y4,_,rfl,Be,y5,_,rfl,h5',rfl⟩:=h;obtain⟨a3,c3,rfl,h3⟩:=h3'.list;obtain⟨a4,c4,rfl,h4⟩:=Be.list;obtain⟨a5,c5,rfl,h5⟩:=h5'.list;clear h3' Be h5'
 have An:(exs ks).length=ks.length:=by simp[aQ]
 refine M925 ?_;intro hbl hel
 have hk9:ks.length<=9223372036854775807:=by have h5:=h3.cap;have h6:=h3.most;unfold maxLen at h6;omega
 have hb9:bs.length<=9223372036854775807:=by have h5:=h4.cap;have h6:=h4.most;unfold maxLen at h6;omega
 have he9:es.length<=9223372036854775807:=by have h7:=h5.cap;have h6:=h5.most;unfold maxLen at h6;omega
 rw[An,hbl,hel];clear h4 h5;generalize bs.length=nb at *;generalize es.length=ne at *;simp only[agg];have yy:=aB w (.cells #[.int .i64 k,.int .i64 n,.slice a2 name.length c2,.slice a3 ks.length c3,.slice a4 nb c4,.slice a5 ne c5] 116 (0,0)) none;have x0:=Blk.new w 116 [.int .i64 k,.int .i64 n,.slice a2 name.length c2,.slice a3 ks.length c3,.slice a4 nb c4,.slice a5 ne c5]
 have hfe:Hid (stT k n name ks nb ne=(inB k 0 7 && (cG (stF k.toNat) n name ks.length && (decide (nb=0) || dD (stF k.toNat) fM) && (decide (ne=0) || dD (stF k.toNat) eV) && !(ks.any fun x=>decide (x.kind=7)) && (!dD (stF k.toNat) dY || ks.any fun x=>decide (x.kind=6))))):=rfl
 generalize stT k n name ks nb ne=TG at *;have ht1:=ht.below (aA yy);have h31:=h2.below (aA yy);have h41:=h3.below (aA yy);clear ht h2 h3;go_enter Tryz.func143,Tryz.ntmps143;go_upto_region 1 with fail;generalize w.alloc (.cells #[.int .i64 k,.int .i64 n,.slice a2 name.length c2,.slice a3 ks.length c3,.slice a4 nb c4,.slice a5 ne c5] 116 (0,0))=w1 at *;have q0:=x0.k 0;have R1:=iM k 0 7 w1;go_wp2_with fail;refine R1.mono ?_;rintro e w1 ⟨rfl,rfl⟩;clear R1
 rw[show(decide (0<=k) && decide (k<=7))=inB k 0 7 from rfl]
 cases e1:inB k 0 7
 .
  have he:Hid (TG=false):=by show _=_;rw[hfe.out,e1];rfl
  clear e1;exact U4
 have hkk:0<=k/\k<=7:=by simpa [inB] using e1
 have hf2:Hid (TG=(cG (stF k.toNat) n name ks.length && (decide (nb=0) || dD (stF k.toNat) fM) && (decide (ne=0) || dD (stF k.toNat) eV) && !(ks.any fun x=>decide (x.kind=7)) && (!dD (stF k.toNat) dY || ks.any fun x=>decide (x.kind=6)))):=by show _=_;rw[hfe.out,e1];rfl
 clear e1 hfe
 obtain⟨i,rfl⟩:∃i:Nat,k=(i:Int):=⟨k.toNat,by omega⟩
 simp only[Int.toNat_natCast]at hf2;have hi:i<8:=Q0;have hp:=jT i;have hF:=ht1.st i hi;refine M919 ?_;intro z0 z1 z2 z3 z4;clear hF;generalize hFm:stF i=F at *;clear hFm;go_upto_region 4 with fail;clear z0 z1 z2 z3 z4 q0;refine M974 ?_;clear x0 ht1;intro fb yf x0 ht1;replace h31:=h31.below (aA yf);replace h41:=h41.below (aA yf);replace yy:=aD yy yf;generalize w1.alloc (.cells #[.string ⟨F.txt.toArray⟩,.int .i64 F.lo,.int .i64 F.hi,.int .i64 F.le,.int .i64 F.mo] 183 (0,0))=w2 at *;generalize w1.heap.size=gf at *;clear yf;generalize eA:cG F n name ks.length=bA at *;generalize eB:dD F fM=bB at *;generalize eC:dD F eV=bC at *
 generalize eD:(ks.any fun x=>decide (x.kind=7))=bD at *
 generalize eE:dD F dY=bE at *
 generalize eF:(ks.any fun x=>decide (x.kind=6))=bF at *
 obtain⟨q0,q1,q2,q3,q4,q5⟩:=x0.c6;obtain⟨f0,f1,f2,f3,f4⟩:=fb.c5;have HQ:=aJw F hp n a2 c2 name ks.length w2 ht1 h31 Q0 hc2;simp only[Fm.val,dX,lM,fM,eV,dY]at HQ;go_wp2_with fail;refine HQ.mono ?_;rintro e w3 ⟨rfl,hg⟩;clear q0 q1 q2 q3 q4 q5 f0 f1 f2 f3 f4;refine M91 ?_;clear x0 fb ht1 yy h31 h41 hg HQ;intro x0 fb ht1 yy h31 h41 q0 q1 q2 q3 q4 q5 f0 f1 f2 f3 f4;simp only[eA];cases bA
 .
  have he:Hid (TG=false):=by show _=_;rw[hf2.out];rfl
  exact U4
 by_cases hzB:nb=0
 .
  have hz':((nb:Int) == 0)=true:=by simpa using hzB
  by_cases hzC:ne=0
  .
   have hz':((ne:Int) == 0)=true:=by simpa using hzC
   have HQ:=gW 7 ks a3 c3 w3 h41;go_wp2_with fail;refine HQ.mono ?_;rintro e w4 ⟨rfl,hg⟩;clear q0 q1 q2 q3 q4 q5 f0 f1 f2 f3 f4;refine M91 ?_;clear x0 fb ht1 yy h31 h41 hg HQ;intro x0 fb ht1 yy h31 h41 q0 q1 q2 q3 q4 q5 f0 f1 f2 f3 f4;simp only[eD];cases bD
   rotate_left
   .
    have he:Hid (TG=false):=by show _=_;rw[hf2.out,zB3 hzB,zB3 hzC];simp
    exact U4
   have HQ:=aFn F hp dY w4 ht1;simp only[Fm.val,dX,lM,fM,eV,dY]at HQ;go_wp2_with fail;refine HQ.mono ?_;rintro e w5 ⟨rfl,hg⟩;clear q0 q1 q2 q3 q4 q5 f0 f1 f2 f3 f4;refine M91 ?_;clear x0 fb ht1 yy h31 h41 hg HQ;intro x0 fb ht1 yy h31 h41 q0 q1 q2 q3 q4 q5 f0 f1 f2 f3 f4
   simp only[show([99,97,108,108]:List UInt8)=dY from rfl,eE]
   cases bE
   .
    have he:Hid (TG=true):=by show _=_;rw[hf2.out,zB3 hzB,zB3 hzC];simp
    exact U4
   have HQ:=gW 6 ks a3 c3 w5 h41;go_wp2_with fail;refine HQ.mono ?_;rintro e w6 ⟨rfl,hg⟩;clear q0 q1 q2 q3 q4 q5 f0 f1 f2 f3 f4;refine M91 ?_;clear x0 fb ht1 yy h31 h41 hg HQ;intro x0 fb ht1 yy h31 h41 q0 q1 q2 q3 q4 q5 f0 f1 f2 f3 f4;simp only[eF]
   have he:Hid (TG=bF):=by show _=_;rw[hf2.out,zB3 hzB,zB3 hzC];simp
   exact U4
  .
   have hz':((ne:Int) == 0)=false:=by simpa using hzC
   have HQ:=aFn F hp eV w3 ht1;simp only[Fm.val,dX,lM,fM,eV,dY]at HQ;go_wp2_with fail;refine HQ.mono ?_;rintro e w4 ⟨rfl,hg⟩;clear q0 q1 q2 q3 q4 q5 f0 f1 f2 f3 f4;refine M91 ?_;clear x0 fb ht1 yy h31 h41 hg HQ;intro x0 fb ht1 yy h31 h41 q0 q1 q2 q3 q4 q5 f0 f1 f2 f3 f4
   simp only[show([101,108,115,101]:List UInt8)=eV from rfl,eC]
   cases bC
   .
    have he:Hid (TG=false):=by show _=_;rw[hf2.out,zB3 hzB,zC2 hzC];simp
    exact U4
   have HQ:=gW 7 ks a3 c3 w4 h41;go_wp2_with fail;refine HQ.mono ?_;rintro e w5 ⟨rfl,hg⟩;clear q0 q1 q2 q3 q4 q5 f0 f1 f2 f3 f4;refine M91 ?_;clear x0 fb ht1 yy h31 h41 hg HQ;intro x0 fb ht1 yy h31 h41 q0 q1 q2 q3 q4 q5 f0 f1 f2 f3 f4;simp only[eD];cases bD
   rotate_left
   .
    have he:Hid (TG=false):=by show _=_;rw[hf2.out,zB3 hzB,zC2 hzC];simp
    exact U4
   have HQ:=aFn F hp dY w5 ht1;simp only[Fm.val,dX,lM,fM,eV,dY]at HQ;go_wp2_with fail;refine HQ.mono ?_;rintro e w6 ⟨rfl,hg⟩;clear q0 q1 q2 q3 q4 q5 f0 f1 f2 f3 f4;refine M91 ?_;clear x0 fb ht1 yy h31 h41 hg HQ;intro x0 fb ht1 yy h31 h41 q0 q1 q2 q3 q4 q5 f0 f1 f2 f3 f4
   simp only[show([99,97,108,108]:List UInt8)=dY from rfl,eE]
   cases bE
   .
    have he:Hid (TG=true):=by show _=_;rw[hf2.out,zB3 hzB,zC2 hzC];simp
    exact U4
   have HQ:=gW 6 ks a3 c3 w6 h41;go_wp2_with fail;refine HQ.mono ?_;rintro e w7 ⟨rfl,hg⟩;clear q0 q1 q2 q3 q4 q5 f0 f1 f2 f3 f4;refine M91 ?_;clear x0 fb ht1 yy h31 h41 hg HQ;intro x0 fb ht1 yy h31 h41 q0 q1 q2 q3 q4 q5 f0 f1 f2 f3 f4;simp only[eF]
   have he:Hid (TG=bF):=by show _=_;rw[hf2.out,zB3 hzB,zC2 hzC];simp
   exact U4
 .
  have hz':((nb:Int) == 0)=false:=by simpa using hzB
  have HQ:=aFn F hp fM w3 ht1;simp only[Fm.val,dX,lM,fM,eV,dY]at HQ;go_wp2_with fail;refine HQ.mono ?_;rintro e w4 ⟨rfl,hg⟩;clear q0 q1 q2 q3 q4 q5 f0 f1 f2 f3 f4;refine M91 ?_;clear x0 fb ht1 yy h31 h41 hg HQ;intro x0 fb ht1 yy h31 h41 q0 q1 q2 q3 q4 q5 f0 f1 f2 f3 f4
  simp only[show([98,111,100,121]:List UInt8)=fM from rfl,eB]
  cases bB
  .
   have he:Hid (TG=false):=by show _=_;rw[hf2.out,zC2 hzB];simp
   exact U4
  by_cases hzC:ne=0
  .
   have hz':((ne:Int) == 0)=true:=by simpa using hzC
   have HQ:=gW 7 ks a3 c3 w4 h41;go_wp2_with fail;refine HQ.mono ?_;rintro e w5 ⟨rfl,hg⟩;clear q0 q1 q2 q3 q4 q5 f0 f1 f2 f3 f4;refine M91 ?_;clear x0 fb ht1 yy h31 h41 hg HQ;intro x0 fb ht1 yy h31 h41 q0 q1 q2 q3 q4 q5 f0 f1 f2 f3 f4;simp only[eD];cases bD
   rotate_left
   .
    have he:Hid (TG=false):=by show _=_;rw[hf2.out,zC2 hzB,zB3 hzC];simp
    exact U4
   have HQ:=aFn F hp dY w5 ht1;simp only[Fm.val,dX,lM,fM,eV,dY]at HQ;go_wp2_with fail;refine HQ.mono ?_;rintro e w6 ⟨rfl,hg⟩;clear q0 q1 q2 q3 q4 q5 f0 f1 f2 f3 f4;refine M91 ?_;clear x0 fb ht1 yy h31 h41 hg HQ;intro x0 fb ht1 yy h31 h41 q0 q1 q2 q3 q4 q5 f0 f1 f2 f3 f4
   simp only[show([99,97,108,108]:List UInt8)=dY from rfl,eE]
   cases bE
   .
    have he:Hid (TG=true):=by show _=_;rw[hf2.out,zC2 hzB,zB3 hzC];simp
    exact U4
   have HQ:=gW 6 ks a3 c3 w6 h41;go_wp2_with fail;refine HQ.mono ?_;rintro e w7 ⟨rfl,hg⟩;clear q0 q1 q2 q3 q4 q5 f0 f1 f2 f3 f4;refine M91 ?_;clear x0 fb ht1 yy h31 h41 hg HQ;intro x0 fb ht1 yy h31 h41 q0 q1 q2 q3 q4 q5 f0 f1 f2 f3 f4;simp only[eF]
   have he:Hid (TG=bF):=by show _=_;rw[hf2.out,zC2 hzB,zB3 hzC];simp
   exact U4
  .
   have hz':((ne:Int) == 0)=false:=by simpa using hzC
   have HQ:=aFn F hp eV w4 ht1;simp only[Fm.val,dX,lM,fM,eV,dY]at HQ;go_wp2_with fail;refine HQ.mono ?_;rintro e w5 ⟨rfl,hg⟩;clear q0 q1 q2 q3 q4 q5 f0 f1 f2 f3 f4;refine M91 ?_;clear x0 fb ht1 yy h31 h41 hg HQ;intro x0 fb ht1 yy h31 h41 q0 q1 q2 q3 q4 q5 f0 f1 f2 f3 f4
   simp only[show([101,108,115,101]:List UInt8)=eV from rfl,eC]
   cases bC
   .
    have he:Hid (TG=false):=by show _=_;rw[hf2.out,zC2 hzB,zC2 hzC];simp
    exact U4
   have HQ:=gW 7 ks a3 c3 w5 h41;go_wp2_with fail;refine HQ.mono ?_;rintro e w6 ⟨rfl,hg⟩;clear q0 q1 q2 q3 q4 q5 f0 f1 f2 f3 f4;refine M91 ?_;clear x0 fb ht1 yy h31 h41 hg HQ;intro x0 fb ht1 yy h31 h41 q0 q1 q2 q3 q4 q5 f0 f1 f2 f3 f4;simp only[eD];cases bD
   rotate_left
   .
    have he:Hid (TG=false):=by show _=_;rw[hf2.out,zC2 hzB,zC2 hzC];simp
    exact U4
   have HQ:=aFn F hp dY w6 ht1;simp only[Fm.val,dX,lM,fM,eV,dY]at HQ;go_wp2_with fail;refine HQ.mono ?_;rintro e w7 ⟨rfl,hg⟩;clear q0 q1 q2 q3 q4 q5 f0 f1 f2 f3 f4;refine M91 ?_;clear x0 fb ht1 yy h31 h41 hg HQ;intro x0 fb ht1 yy h31 h41 q0 q1 q2 q3 q4 q5 f0 f1 f2 f3 f4
   simp only[show([99,97,108,108]:List UInt8)=dY from rfl,eE]
   cases bE
   .
    have he:Hid (TG=true):=by show _=_;rw[hf2.out,zC2 hzB,zC2 hzC];simp
    exact U4
   have HQ:=gW 6 ks a3 c3 w7 h41;go_wp2_with fail;refine HQ.mono ?_;rintro e w8 ⟨rfl,hg⟩;clear q0 q1 q2 q3 q4 q5 f0 f1 f2 f3 f4;refine M91 ?_;clear x0 fb ht1 yy h31 h41 hg HQ;intro x0 fb ht1 yy h31 h41 q0 q1 q2 q3 q4 q5 f0 f1 f2 f3 f4;simp only[eF]
   have he:Hid (TG=bF):=by show _=_;rw[hf2.out,zC2 hzB,zC2 hzC];simp
   exact U4
end Go.Proofs.YtffphdacgblaoaaGreatDoor

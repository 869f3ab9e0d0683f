import Derived.Test.YtegkhlkjfeafjaaGreatDoorModPure
import Derived.Test.YtegkhlkjfeafjaaGreatDoorPackC
import Derived.Test.YtegkhlkjfeafjaaGreatDoorShelf
import Derived.Deep.RegionHeld3
namespace Go.Proofs.YtegkhlkjfeafjaaGreatDoor
open Go.RowKit
set_option linter.unusedVariables false
set_option linter.unusedSimpArgs false
set_option maxRecDepth 100000
set_option maxHeartbeats 4000000
theorem V7{p:Prop}(h:p:=by decide):p:=h
theorem M9153{p q:Prop}(k:q)(h:Kx q->p:=by
 intro kQ
 have y0:=aC w (.cells #[.string ⟨f.txt.toArray⟩,.int .i64 f.lo,.int .i64 f.hi,.int .i64 f.le,.int .i64 f.mo] 280 (0,0)) none
 have q0:=aN w 280 #[.string ⟨f.txt.toArray⟩,.int .i64 f.lo,.int .i64 f.hi,.int .i64 f.le,.int .i64 f.mo] 0 _ rfl
 revert q0;revert y0
 exact kQ.o):p:=h ⟨k⟩
structure Fm where
 txt:List UInt8
 lo:Int
 hi:Int
 le:Int
 mo:Int
def exF:Nat->Fm
 | 0=>⟨[110,117,109], -2147483648,2147483647,0,0⟩
 | 1=>⟨[110,97,109,101],0,0,0,0⟩
 | 2=>⟨[110,97,109,101,32,91,32,107,105,100,32,93],0,0,1,1⟩
 | 3=>⟨[40,32,107,105,100,32,111,112,32,107,105,100,32,41],0,5,2,2⟩
 | 4=>⟨[73,78],0,0,0,0⟩
 | 5=>⟨[76,69,78,32,110,97,109,101],0,0,0,0⟩
 | 6=>⟨[109,111,100,32,110,97,109,101,32,97,114,103,115],0,0,0,4⟩
 | _=>⟨[64,32,110,97,109,101],0,0,0,0⟩
def stF:Nat->Fm
 | 0=>⟨[110,97,109,101,32,58,61,32,107,105,100,32,59],0,0,1,1⟩
 | 1=>⟨[110,97,109,101,32,91,32,107,105,100,32,93,32,58,61,32,107,105,100,32,59],0,0,2,2⟩
 | 2=>⟨[73,70,32,107,105,100,32,84,72,69,78,32,98,111,100,121,32,69,76,83,69,32,101,108,115,101,32,69,78,68,32,59],0,0,1,1⟩
 | 3=>⟨[87,72,73,76,69,32,107,105,100,32,68,79,32,98,111,100,121,32,69,78,68,32,59],0,0,1,1⟩
 | 4=>⟨[82,69,84,85,82,78,32,107,105,100,32,59],0,0,1,1⟩
 | 5=>⟨[79,85,84,32,107,105,100,32,59],0,0,1,1⟩
 | 6=>⟨[84,82,65,80,32,110,117,109,32,59],0,99,0,0⟩
 | _=>⟨[67,65,76,76,32,99,97,108,108,32,59],0,0,1,1⟩
def dT:List UInt8:=[110,97,109,101]
def fB:List UInt8:=[98,111,100,121]
def eQ:List UInt8:=[101,108,115,101]
def dU:List UInt8:=[99,97,108,108]
def kJ:List UInt8:=[109,111,100]
def Fm.val (f:Fm):Value:=.agg #[.string ⟨f.txt.toArray⟩,.int .i64 f.lo,.int .i64 f.hi,.int .i64 f.le,.int .i64 f.mo]
def Fm.words (f:Fm):List (List UInt8):=Lib.fields f.txt
def cX (f:Fm)(wd:List UInt8):Bool:=f.words.any fun x=>decide (x=wd)
structure aJm (w:World) (g o:Nat) (f:Fm):Prop where
 c0:w.cell? ⟨g,o,none⟩=some (.string ⟨f.txt.toArray⟩)
 c1:w.cell? ⟨g,o+1,none⟩=some (.int .i64 f.lo)
 c2:w.cell? ⟨g,o+2,none⟩=some (.int .i64 f.hi)
 c3:w.cell? ⟨g,o+3,none⟩=some (.int .i64 f.le)
 c4:w.cell? ⟨g,o+4,none⟩=some (.int .i64 f.mo)
theorem aJm.below {w w':World}{g o:Nat}{f:Fm}(h:aJm w g o f)(hb:Below w.heap.size w w'):aJm w' g o f:=
 ⟨aB h.c0 hb,aB h.c1 hb,aB h.c2 hb,aB h.c3 hb,aB h.c4 hb⟩
structure kQ (w:World):Prop where
 ex:∀i,i<8->aJm w 3 (i*5) (exF i)
 st:∀i,i<8->aJm w 2 (i*5) (stF i)
 sp : Lib.TabIs Tryz.prog w "strings.asciiSpace" .u8 Lib.asciiSpaceTab
 p10 : Lib.TabIs Tryz.prog w "internal/strconv.uint64pow10" .u64 Lib.pow10Tab
theorem rZ {w w':World}{n:String}{k:IntKind}{zs:List Int}{g:Nat}(hg:Tryz.prog.globalNamed n=some g)(h:Lib.TabIs Tryz.prog w n k zs)(hb:Below w.heap.size w w'):Lib.TabIs Tryz.prog w' n k zs:=by
 unfold Lib.TabIs World.var? at h ⊢;rw[hg]at h ⊢;simp only[Option.bind_some]at h ⊢
 cases hw:w.heap[g]? with
 | none=>rw[hw]at h;cases h
 | some o=>
  rw[hb.block g (zJ2.1 hw).1,hw];rw[hw]at h;exact h
theorem gSp : Tryz.prog.globalNamed "strings.asciiSpace" = some 5 := by kernel_rfl
theorem aMa : Tryz.prog.globalNamed "internal/strconv.uint64pow10" = some 4 := by kernel_rfl
theorem kQ.below {w w':World}(h:kQ w)(hb:Below w.heap.size w w'):kQ w':=
 ⟨fun i hi=>(h.ex i hi).below hb,fun i hi=>(h.st i hi).below hb,rZ gSp h.sp hb,rZ aMa h.p10 hb⟩
def Fm.plain (f:Fm):Prop:=f.txt.length<4294967281/\(∀(j:Nat) b,f.txt[j]?=some b->b.toNat<128)/\f.words.length<=100/\0<f.words.length
theorem dM {f:Fm}(h:(decide (f.txt.length<4294967281) && (f.txt.all fun b=>decide (b.toNat<128)) && decide (f.words.length<=100) && decide (0<f.words.length))=true):f.plain:=by
 simp only[zC0,zE3,zF3]at h
 exact⟨h.1.1.1,fun j b hb=>h.1.1.2 b (zA3 hb),h.1.2,h.2⟩
theorem iW (i:Nat):(exF i).plain:=by
 match i with
 | 0=>exact dM V7
 | 1=>exact dM V7
 | 2=>exact dM V7
 | 3=>exact dM V7
 | 4=>exact dM V7
 | 5=>exact dM V7
 | 6=>exact dM V7
 | n+7=>exact dM (f:=exF 7) V7
theorem iQ (i:Nat):(stF i).plain:=by
 match i with
 | 0=>exact dM V7
 | 1=>exact dM V7
 | 2=>exact dM V7
 | 3=>exact dM V7
 | 4=>exact dM V7
 | 5=>exact dM V7
 | 6=>exact dM V7
 | n+7=>exact dM (f:=stF 7) V7
def rP (l:List (List UInt8)):List Value:=l.map fun x=>.string ⟨x.toArray⟩
theorem fZ (f:Fm)(hp:f.plain)(w:World)(ht:kQ w):
  Calls Tryz.prog 248 #[f.val] w fun e w'=>∃g,e=.returned (.slice (some ⟨g,0,none⟩) f.words.length f.words.length)/\Blk w' g 9 (rP f.words)/\w.heap.size<=g/\w.grownBy w' none:=by
 refine M9153 ?_;intro y0 q0
 have H:=Tryz.strings_Fields ⟨f.txt.toArray⟩ _ (by simpa [ByteArray.size] using hp.1) (by simpa using hp.2.1) (ht.below (aA y0)).sp
 unfold Fm.val;clear ht;simp only[List.toList_toArray]at H;go_enter Tryz.func248,Tryz.ntmps248;go_upto_region 1 with fail;generalize w.alloc (.cells #[.string ⟨f.txt.toArray⟩,.int .i64 f.lo,.int .i64 f.hi,.int .i64 f.le,.int .i64 f.mo] 280 (0,0))=w1 at *;go_wp2_with fail;refine H.mono ?_;rintro e w2 ⟨rfl,rfl⟩;go_wp2;go_ret;exact⟨_,rfl,zJ3 w1 _,y0.size,aD y0 (aC _ _ _)⟩
theorem aPa (a b:List UInt8):((⟨a.toArray⟩:ByteArray)=⟨b.toArray⟩) ↔ a=b:=by
 constructor
 .
  intro h
  have h1:=congrArg (fun x=>x.data.toList) h
  simpa using h1
 .
  intro h;rw[h]
theorem aCj (f:Fm)(hp:f.plain)(wd:List UInt8)(w:World)(ht:kQ w):
  Calls Tryz.prog 244 #[f.val,.string ⟨wd.toArray⟩] w fun e w'=>e=.returned (.bool (cX f wd))/\w.grownBy w' none:=by
 refine M9153 ?_;intro y0 q0;have q1:=aN w 280 #[.string ⟨f.txt.toArray⟩,.int .i64 f.lo,.int .i64 f.hi,.int .i64 f.le,.int .i64 f.mo] 1 _ rfl;have q2:=aN w 280 #[.string ⟨f.txt.toArray⟩,.int .i64 f.lo,.int .i64 f.hi,.int .i64 f.le,.int .i64 f.mo] 2 _ rfl;have q3:=aN w 280 #[.string ⟨f.txt.toArray⟩,.int .i64 f.lo,.int .i64 f.hi,.int .i64 f.le,.int .i64 f.mo] 3 _ rfl;have q4:=aN w 280 #[.string ⟨f.txt.toArray⟩,.int .i64 f.lo,.int .i64 f.hi,.int .i64 f.le,.int .i64 f.mo] 4 _ rfl;have H:=fZ f hp _ (ht.below (aA y0));have hlen:=hp.2.2.1;have Am:=hp.2.2.2;unfold Fm.val at H ⊢;clear ht;go_enter Tryz.func244,Tryz.ntmps244;go_upto_region 1 with fail;generalize w.alloc (.cells #[.string ⟨f.txt.toArray⟩,.int .i64 f.lo,.int .i64 f.hi,.int .i64 f.le,.int .i64 f.mo] 280 (0,0))=w1 at *;go_wp2_with fail;refine H.mono ?_;rintro e w2 ⟨g,rfl,hB,hg,y1⟩
 have HC:=Tryz.slices_Contains_string g 0 f.words.length f.words.length (f.words.map fun x=>⟨x.toArray⟩) ⟨wd.toArray⟩ w2 V15 V6 (fun j hj=>by
  have hj:j<f.words.length:=by simpa using hj
  rw[zK0];refine hB.cell ?_
  simp[rP,List.getD,hj])
 have he:Hid (Lib.containsS ((f.words.map fun x=>⟨x.toArray⟩).take f.words.length) ⟨wd.toArray⟩=cX f wd):=by
  show _=_
  rw[zD3 V15,Bool.eq_iff_iff,Lib.containsS_iff];unfold cX;rw[List.any_eq_true]
  constructor
  .
   intro h;obtain⟨x,hx,e⟩:=zE1.1 h
   exact⟨x,hx,by simpa using (aPa x wd).1 e⟩
  .
   rintro⟨x,hx,e⟩
   exact zE1.2 ⟨x,hx,(aPa x wd).2 (by simpa using e)⟩
 clear H hB q0 q1 q2 q3 q4;go_wp2_with fail;refine HC.mono ?_;rintro e w3 ⟨rfl,rfl⟩;go_wp2;go_ret;exact⟨aE he.out,aD y0 y1⟩
def cF (f:Fm)(n:Int)(name:List Int)(nk:Nat):Bool:=inB n f.lo f.hi && inB nk f.le f.mo && (if cX f dT then aK name false else decide (name.length=0))
set_option maxHeartbeats 1000000 in
theorem aF3 (f:Fm)(hp:f.plain)(n:Int)(a:Option Addr)(c:Nat)(name:List Int)(nk:Nat)(w:World)(ht:kQ w)(hr:bW w a name.length name)(hn:name.length<=1073741824)(hc:name.length<=c):
  Calls Tryz.prog 243 #[f.val,.int .i64 n,.slice a name.length c,.int .i64 nk] w fun e w'=>e=.returned (.bool (cF f n name nk))/\w.grownBy w' none:=by
 have y0:=aC w (.cells #[.string ⟨f.txt.toArray⟩,.int .i64 f.lo,.int .i64 f.hi,.int .i64 f.le,.int .i64 f.mo] 280 (0,0)) none;have x0:=Blk.new w 280 [.string ⟨f.txt.toArray⟩,.int .i64 f.lo,.int .i64 f.hi,.int .i64 f.le,.int .i64 f.mo]
 have hfe:Hid (cF f n name nk=(inB n f.lo f.hi && inB nk f.le f.mo && (if cX f dT then aK name false else decide (name.length=0)))):=rfl
 have ht1:=ht.below (aA y0);have hr1:=hr.below (aA y0);simp only[List.toArray]at x0;unfold Fm.val;clear ht hr;go_enter Tryz.func243,Tryz.ntmps243;go_upto_region 1 with fail;generalize w.alloc (.cells #[.string ⟨f.txt.toArray⟩,.int .i64 f.lo,.int .i64 f.hi,.int .i64 f.le,.int .i64 f.mo] 280 (0,0))=w1 at *;obtain⟨q0,q1,q2,q3,q4⟩:=x0.c5;have R1:=gL n f.lo f.hi w1;have R2:=gL nk f.le f.mo w1;go_wp2_with fail;refine R1.mono ?_;rintro e w1 ⟨rfl,rfl⟩;clear R1
 rw[show(decide (f.lo<=n) && decide (n<=f.hi))=inB n f.lo f.hi from rfl]
 cases e1:inB n f.lo f.hi
 .
  have he:Hid (cF f n name nk=false):=by show _=_;rw[hfe.out,e1];rfl
  clear e1;go_wp2;go_ret;exact⟨aE he.out.symm,y0⟩
 have hf2:Hid (cF f n name nk=(inB nk f.le f.mo && (if cX f dT then aK name false else decide (name.length=0)))):=by show _=_;rw[hfe.out,e1];rfl
 clear e1 hfe;go_wp2_with fail;refine R2.mono ?_;rintro e w1 ⟨rfl,rfl⟩;clear R2
 rw[show(decide (f.le<=(nk:Int)) && decide ((nk:Int)<=f.mo))=inB nk f.le f.mo from rfl]
 cases e1:inB nk f.le f.mo
 .
  have he:Hid (cF f n name nk=false):=by show _=_;rw[hf2.out,e1];rfl
  clear e1;go_wp2;go_ret;exact⟨aE he.out.symm,y0⟩
 have hf3:Hid (cF f n name nk=(if cX f dT then aK name false else decide (name.length=0))):=by show _=_;rw[hf2.out,e1];rfl
 clear e1 hf2;have HW:=aCj f hp dT w1 ht1;unfold Fm.val at HW;unfold dT at HW;go_wp2_with fail;refine HW.mono ?_;rintro e w2 ⟨rfl,Be⟩;have ht2:=ht1.below (aA Be);have hr2:=hr1.below (aA Be);replace x0:=x0.below (aA Be) x0.lt;have y2:=aD y0 Be;clear HW q0 q1 q2 q3 q4 Be;obtain⟨q0,q1,q2,q3,q4⟩:=x0.c5
 rw[show([110,97,109,101]:List UInt8)=dT from rfl]
 cases e1:cX f dT
 .
  have hf4:Hid (cF f n name nk=decide (name.length=0)):=by show _=_;rw[hf3.out,e1];rfl
  have HW:=aCj f hp dT w2 ht2;rw[e1]at HW;unfold Fm.val dT at HW;clear e1 hf3;go_wp2_with fail;refine HW.mono ?_;rintro e w3 ⟨rfl,hg3⟩;clear HW q0 q1 q2 q3 q4;have y3:=aD y2 hg3
  by_cases hz:name.length=0
  .
   have he:Hid (cF f n name nk=true):=by show _=_;rw[hf4.out];exact zB3 hz
   rw[hz];go_wp2;go_ret;exact⟨aE he.out.symm,y3⟩
  .
   have he:Hid (cF f n name nk=false):=by show _=_;rw[hf4.out];exact zC2 hz
   have hz':((name.length:Int) == 0)=false:=by simpa using hz
   go_wp2;go_ret;exact⟨aE (he.out.symm ▸ V15),y3⟩
 .
  have hf4:Hid (cF f n name nk=aK name false):=by show _=_;rw[hf3.out,e1];rfl
  have HN:=dX a name.length c name false w2 hr2 hn hc;have HW:=aCj f hp dT w2 ht2;rw[e1]at HW;unfold Fm.val dT at HW;clear e1 hf3;go_wp2_with fail;refine HN.mono ?_;rintro e w2 ⟨rfl,rfl⟩;clear HN
  cases e2:aK name false
  .
   have he:Hid (cF f n name nk=false):=by show _=_;rw[hf4.out,e2]
   clear e2;go_wp2_with fail;refine HW.mono ?_;rintro e w3 ⟨rfl,hg3⟩;go_wp2;go_ret;exact⟨aE he.out.symm,aD y2 hg3⟩
  .
   have he:Hid (cF f n name nk=true):=by show _=_;rw[hf4.out,e2]
   clear e2;go_wp2;go_ret;exact⟨aE he.out.symm,y2⟩
theorem aAf:cX (exF 0) dT=false:=by decide
theorem aAe:cX (exF 1) dT=true:=by decide
theorem aAd:cX (exF 2) dT=true:=by decide
theorem aAc:cX (exF 3) dT=false:=by decide
theorem aAb:cX (exF 4) dT=false:=by decide
theorem aAa:cX (exF 5) dT=true:=by decide
theorem zZ:cX (exF 6) dT=true:=by decide
theorem zY:cX (exF 7) dT=true:=by decide
theorem aC2:cX (exF 0) kJ=false:=by decide
theorem aC1:cX (exF 1) kJ=false:=by decide
theorem aC0:cX (exF 2) kJ=false:=by decide
theorem aCz:cX (exF 3) kJ=false:=by decide
theorem aCy:cX (exF 4) kJ=false:=by decide
theorem aCx:cX (exF 5) kJ=false:=by decide
theorem aCw:cX (exF 6) kJ=true:=by decide
theorem aCv:cX (exF 7) kJ=false:=by decide
theorem xS:cX (stF 0) dT=true:=by decide
theorem xR:cX (stF 1) dT=true:=by decide
theorem xQ:cX (stF 2) dT=false:=by decide
theorem xP:cX (stF 3) dT=false:=by decide
theorem xO:cX (stF 4) dT=false:=by decide
theorem xN:cX (stF 5) dT=false:=by decide
theorem aPh:cX (stF 6) dT=false:=by decide
theorem xL:cX (stF 7) dT=false:=by decide
theorem yQ:cX (stF 0) fB=false:=by decide
theorem yP:cX (stF 1) fB=false:=by decide
theorem yO:cX (stF 2) fB=true:=by decide
theorem yN:cX (stF 3) fB=true:=by decide
theorem yM:cX (stF 4) fB=false:=by decide
theorem yL:cX (stF 5) fB=false:=by decide
theorem yK:cX (stF 6) fB=false:=by decide
theorem yJ:cX (stF 7) fB=false:=by decide
theorem aPj:cX (stF 0) eQ=false:=by decide
theorem xZ:cX (stF 1) eQ=false:=by decide
theorem xY:cX (stF 2) eQ=true:=by decide
theorem xX:cX (stF 3) eQ=false:=by decide
theorem aPi:cX (stF 4) eQ=false:=by decide
theorem xV:cX (stF 5) eQ=false:=by decide
theorem xU:cX (stF 6) eQ=false:=by decide
theorem xT:cX (stF 7) eQ=false:=by decide
theorem yI:cX (stF 0) dU=false:=by decide
theorem yH:cX (stF 1) dU=false:=by decide
theorem yG:cX (stF 2) dU=false:=by decide
theorem aPk:cX (stF 3) dU=false:=by decide
theorem yE:cX (stF 4) dU=false:=by decide
theorem yD:cX (stF 5) dU=false:=by decide
theorem yC:cX (stF 6) dU=false:=by decide
theorem yB:cX (stF 7) dU=true:=by decide
theorem U57{p:Prop}(h:p:=by
 rintro e w' ⟨rfl,hg⟩
 exact⟨rfl,hg,fun _=>aD hi hg,fun _=>trivial⟩):p:=h
def e0:Ex:=.mk 0 0 [] [] []
theorem zT (k:Int)(x:Ex)(vs:List Value)(g:Nat)(w:World)(h:aO w x.fl vs)(hg:w.cell? ⟨g,0,none⟩=some (.int .i64 k)):
  Calls Tryz.prog 254 (#[agg vs] ++ #[.pointer (some ⟨g,0,none⟩)]) w fun e w'=>e=.returned (.bool (decide (x.kind=k)))/\w.grownBy w' none:=by
 obtain⟨x0,x1,x2,x3,x4⟩:=x;unfold Ex.fl at h;obtain⟨y0,_,rfl,rfl,y1,_,rfl,rfl,y2,_,rfl,_,y3,_,rfl,_,y4,_,rfl,_,rfl⟩:=h;have g0:=aC w (.cells #[.int .i64 x0,.int .i64 x1,y2,y3,y4] 133 (0,0)) none;have q0:=aN w 133 #[.int .i64 x0,.int .i64 x1,y2,y3,y4] 0 _ rfl;replace hg:=aB hg (aA g0)
 show Calls Tryz.prog 254 #[.agg #[.int .i64 x0,.int .i64 x1,y2,y3,y4],.pointer (some ⟨g,0,none⟩)] w _
 have he:Hid ((x0 == k)=decide (Ex.kind (.mk x0 x1 x2 x3 x4)=k)):=by show _=_;unfold Ex.kind;by_cases h:x0=k <;> simp[h]
 go_enter Tryz.func254,Tryz.ntmps254;go_upto_region 1 with fail;generalize w.alloc (.cells #[.int .i64 x0,.int .i64 x1,y2,y3,y4] 133 (0,0))=w1 at *;go_wp2;go_ret;exact⟨aE he.out,g0⟩
theorem cE (x:Ex):x.fl.length=5:=by cases x;simp[Ex.fl]
theorem aA1 (x:St):x.fl.length=6:=by cases x;simp[St.fl]
theorem fX (k:Int)(l:List Ex)(a:Option Addr)(c:Nat)(w:World)(h:aS w a c 5 (exs l)):
  Calls Tryz.prog 245 #[.slice a l.length c,.int .i64 k] w fun e w'=>e=.returned (.bool (l.any fun x=>decide (x.kind=k)))/\w.grownBy w' none:=by
 have y0:=aC w (.cells #[.int .i64 k] 3 (0,0)) none;have x0:=aN w 3 #[.int .i64 k] 0 _ rfl;replace h:=h.below (aA y0)
 have HC:Calls Tryz.prog 251 #[.slice a l.length c,.func (.func 254) #[] #[.pointer (some ⟨w.heap.size,0,none⟩)]] (w.alloc (.cells #[.int .i64 k] 3 (0,0))) fun e w'=>e=.returned (.bool (l.any fun x=>decide (x.kind=k)))/\w.grownBy w' none:=by
  generalize w.alloc (.cells #[.int .i64 k] 3 (0,0))=W at *
  refine(nA 254 _ none a l.length c (exs l) (fun j=>decide ((l[j]?.getD e0).kind=k)) (fun _ wr=>W.grownBy wr none) (fun _ _=>True) W ⟨cK Tryz.func254 rfl rfl,fun j wr hi=>h.below (aA hi), ?_, ?_⟩ (by simp[aJ]) (aN0 _ _)).mono ?_
  .
   intro r hr;rw[aJ]at hr;obtain⟨x,_,rfl⟩:=zE1.1 hr;exact cE x
  .
   intro j r wr vs hr hi Ad _;rw[aJ,zA2]at hr;obtain⟨x,hx,rfl⟩:=zF0.1 hr;rw[hx];refine(zT k x vs w.heap.size wr Ad (aB x0 (aA hi))).mono ?_;exact U57
  .
   rintro e w' ⟨r,rfl,hg,ht⟩;refine⟨aE ?_,aD y0 hg⟩;rw[nJ ht]
   exact lM l e0 fun x=>decide (x.kind=k)
 clear h;go_enter Tryz.func245,Tryz.ntmps245;go_upto_region 1 with fail;generalize w.alloc (.cells #[.int .i64 k] 3 (0,0))=W at *;go_wp2_with fail;refine HC.mono ?_;rintro e w3 ⟨rfl,hg⟩;go_wp2;go_ret;exact⟨rfl,hg⟩
theorem U270{p:Prop}(h:p:=by
 go_wp2
 go_ret
 exact⟨aE he.out.symm,yy⟩):p:=h
theorem M9182{p q:Prop}(k:q)(h:Kx q->p:=by
 intro kQ
 replace x0:=x0.below (aA hg) x0.lt
 replace fb:=fb.below (aA hg) fb.lt
 replace ht1:=ht1.below (aA hg)
 replace yy:=aD yy hg
 replace h31:=h31.below (aA hg)
 replace h41:=h41.below (aA hg)
 obtain⟨q0,q1,q2,q3,q4,q5⟩:=x0.c6
 obtain⟨f0,f1,f2,f3,f4⟩:=fb.c5
 revert f4;revert f3;revert f2;revert f1;revert f0;revert q5;revert q4;revert q3;revert q2;revert q1;revert q0;revert h41;revert h31;revert yy;revert ht1;revert fb;revert x0
 exact kQ.o):p:=h ⟨k⟩
theorem M919{p q:Prop}(k:q)(h:Kx q->p:=by
 intro kQ
 replace x0:=x0.below (aA hg) x0.lt
 replace fb:=fb.below (aA hg) fb.lt
 replace ht1:=ht1.below (aA hg)
 replace yy:=aD yy hg
 revert yy;revert ht1;revert fb;revert x0
 exact kQ.o):p:=h ⟨k⟩
theorem M931{p q:Prop}(k:q)(h:Kx q->p:=by
 intro kQ
 have z0:=hF.c0
 have z1:=hF.c1
 have z2:=hF.c2
 have z3:=hF.c3
 have z4:=hF.c4
 revert z4;revert z3;revert z2;revert z1;revert z0
 exact kQ.o):p:=h ⟨k⟩
theorem M939{p q:Prop}(k:q)(h:Kx q->p:=by
 intro kQ
 have hbl:(sts bs).length=bs.length:=by simp[aM]
 have hel:(sts es).length=es.length:=by simp[aM]
 revert hel;revert hbl
 exact kQ.o):p:=h ⟨k⟩
theorem M9201{p q:Prop}(k:q)(h:Kx q->p:=by
 intro kQ
 replace h21:=h21.below (aA hg)
 replace h31:=h31.below (aA hg)
 replace h41:=h41.below (aA hg)
 obtain⟨q0,q1,q2,q3,q4⟩:=x0.c5
 obtain⟨f0,f1,f2,f3,f4⟩:=fb.c5
 revert f4;revert f3;revert f2;revert f1;revert f0;revert q4;revert q3;revert q2;revert q1;revert q0;revert h41;revert h31;revert h21
 exact kQ.o):p:=h ⟨k⟩
theorem M9127{p q:Prop}(k:q)(h:Kx q->p:=by
 intro kQ
 have fb:=Blk.new w1 280 [.string ⟨F.txt.toArray⟩,.int .i64 F.lo,.int .i64 F.hi,.int .i64 F.le,.int .i64 F.mo]
 have yf:=aC w1 (.cells #[.string ⟨F.txt.toArray⟩,.int .i64 F.lo,.int .i64 F.hi,.int .i64 F.le,.int .i64 F.mo] 280 (0,0)) none
 replace x0:=x0.below (aA yf) x0.lt
 replace ht1:=ht1.below (aA yf)
 revert ht1;revert x0;revert yf;revert fb
 exact kQ.o):p:=h ⟨k⟩
def Fm.cells (f:Fm):List Value:=[.string ⟨f.txt.toArray⟩,.int .i64 f.lo,.int .i64 f.hi,.int .i64 f.le,.int .i64 f.mo]
def exT (k n:Int)(mod name:List Int)(ks:List Ex):Bool:=
 inB k 0 7 && (cF (exF k.toNat) n name ks.length && (decide (mod.length=0) || cX (exF k.toNat) kJ && aK mod true) && (decide (k=6) || !(ks.any fun x=>decide (x.kind=7))))
theorem aC3 (x:Ex)(vs:List Value)(w:World)(ht:kQ w)(h:aO w x.fl vs)(hs:aH x.fl<=1048576):
  Calls Tryz.prog 256 #[agg vs] w fun e w'=>e=.returned (.bool (exT x.kind x.n x.mod x.name x.kids))/\w.grownBy w' none:=by
 obtain⟨k,n,mod,name,ks⟩:=x;unfold Ex.fl at h
 have hs':mod.length<=1048576/\name.length<=1048576:=by simp only[Ex.fl,aH,Fl.len]at hs;omega
 clear hs;obtain⟨y0,_,rfl,rfl,y1,_,rfl,rfl,y2,_,rfl,⟨a2,c2,rfl,h2,hc2,_⟩,y3,_,rfl,⟨a3,c3,rfl,h3,hc3,_⟩,y4,_,rfl,Bl,rfl⟩:=h;obtain⟨a4,c4,rfl,h4⟩:=Bl.list;clear Bl
 have As:(exs ks).length=ks.length:=by simp[aJ]
 have hk9:ks.length<=9223372036854775807:=by have h5:=h4.cap;have h6:=h4.most;unfold maxLen at h6;omega
 rw[As];simp only[agg,Ex.kind,Ex.n,Ex.mod,Ex.name,Ex.kids];have yy:=aC w (.cells #[.int .i64 k,.int .i64 n,.slice a2 mod.length c2,.slice a3 name.length c3,.slice a4 ks.length c4] 133 (0,0)) none;have x0:=Blk.new w 133 [.int .i64 k,.int .i64 n,.slice a2 mod.length c2,.slice a3 name.length c3,.slice a4 ks.length c4]
 have hfe:Hid (exT k n mod name ks=(inB k 0 7 && (cF (exF k.toNat) n name ks.length && (decide (mod.length=0) || cX (exF k.toNat) kJ && aK mod true) && (decide (k=6) || !(ks.any fun x=>decide (x.kind=7)))))):=rfl
 generalize exT k n mod name ks=TG at *;have ht1:=ht.below (aA yy);have h21:=h2.below (aA yy);have h31:=h3.below (aA yy);have h41:=h4.below (aA yy);clear ht h2 h3 h4;go_enter Tryz.func256,Tryz.ntmps256;go_upto_region 1 with fail;generalize w.alloc (.cells #[.int .i64 k,.int .i64 n,.slice a2 mod.length c2,.slice a3 name.length c3,.slice a4 ks.length c4] 133 (0,0))=w1 at *;have q0:=x0.k 0;have R1:=gL k 0 7 w1;go_wp2_with fail;refine R1.mono ?_;rintro e w1 ⟨rfl,rfl⟩;clear R1
 rw[show(decide (0<=k) && decide (k<=7))=inB k 0 7 from rfl]
 cases e1:inB k 0 7
 .
  have he:Hid (TG=false):=by show _=_;rw[hfe.out,e1];rfl
  clear e1;exact U270
 have hkk:0<=k/\k<=7:=by simpa [inB] using e1
 have hf2:Hid (TG=(cF (exF k.toNat) n name ks.length && (decide (mod.length=0) || cX (exF k.toNat) kJ && aK mod true) && (decide (k=6) || !(ks.any fun x=>decide (x.kind=7))))):=by show _=_;rw[hfe.out,e1];rfl
 clear e1 hfe
 obtain⟨i,rfl⟩:∃i:Nat,k=(i:Int):=⟨k.toNat,by omega⟩
 simp only[Int.toNat_natCast]at hf2;have hi:i<8:=V6;have hp:=iW i;have hF:=ht1.ex i hi;refine M931 ?_;intro z0 z1 z2 z3 z4;clear hF;generalize hFm:exF i=F at *;clear hFm;go_upto_region 4 with fail;clear z0 z1 z2 z3 z4 q0;refine M9127 ?_;clear x0 ht1;intro fb yf x0 ht1;replace h21:=h21.below (aA yf);replace h31:=h31.below (aA yf);replace h41:=h41.below (aA yf);replace yy:=aD yy yf;generalize w1.alloc (.cells #[.string ⟨F.txt.toArray⟩,.int .i64 F.lo,.int .i64 F.hi,.int .i64 F.le,.int .i64 F.mo] 280 (0,0))=w2 at *;generalize w1.heap.size=gf at *;clear yf;obtain⟨q0,q1,q2,q3,q4⟩:=x0.c5;obtain⟨f0,f1,f2,f3,f4⟩:=fb.c5;have HQ:=aF3 F hp n a3 c3 name ks.length w2 ht1 h31 V6 hc3;simp only[Fm.val,dT,kJ,fB,eQ,dU]at HQ;go_wp2_with fail;refine HQ.mono ?_;rintro e w3 ⟨rfl,hg⟩;clear q0 q1 q2 q3 q4 f0 f1 f2 f3 f4;refine M919 ?_;clear x0 fb ht1 yy;intro x0 fb ht1 yy;refine M9201 ?_;clear h21 h31 h41 hg HQ;intro h21 h31 h41 q0 q1 q2 q3 q4 f0 f1 f2 f3 f4
 cases e1:cF F n name ks.length
 .
  have he:Hid (TG=false):=by show _=_;rw[hf2.out,e1];rfl
  exact U270
 have hf3:Hid (TG=((decide (mod.length=0) || cX F kJ && aK mod true) && (decide ((i:Int)=6) || !(ks.any fun x=>decide (x.kind=7))))):=by show _=_;rw[hf2.out,e1];rfl
 clear e1 hf2
 by_cases hm:mod.length=0
 .
  have hm':((mod.length:Int) == 0)=true:=by simpa using hm
  have hf4:Hid (TG=(decide ((i:Int)=6) || !(ks.any fun x=>decide (x.kind=7)))):=by show _=_;rw[hf3.out,zB3 hm];simp
  clear hf3
  by_cases h6:(i:Int)=6
  .
   have h6':((i:Int) == 6)=true:=by simpa using h6
   have he:Hid (TG=true):=by show _=_;rw[hf4.out,zB3 h6];rfl
   exact U270
  .
   have h6':((i:Int) == 6)=false:=by simpa using h6
   have HQ:=fX 7 ks a4 c4 w3 h41;go_wp2_with fail;refine HQ.mono ?_;rintro e w4 ⟨rfl,hg⟩;clear q0 q1 q2 q3 q4 f0 f1 f2 f3 f4;refine M919 ?_;clear x0 fb ht1 yy;intro x0 fb ht1 yy;refine M9201 ?_;clear h21 h31 h41 hg HQ;intro h21 h31 h41 q0 q1 q2 q3 q4 f0 f1 f2 f3 f4
   have he:Hid (TG = !(ks.any fun x=>decide (x.kind=7))):=by show _=_;rw[hf4.out,zC2 h6];simp
   exact U270
 .
  have hm':((mod.length:Int) == 0)=false:=by simpa using hm
  have HQ:=aCj F hp kJ w3 ht1;simp only[Fm.val,dT,kJ,fB,eQ,dU]at HQ;go_wp2_with fail;refine HQ.mono ?_;rintro e w4 ⟨rfl,hg⟩;clear q0 q1 q2 q3 q4 f0 f1 f2 f3 f4;refine M919 ?_;clear x0 fb ht1 yy;intro x0 fb ht1 yy;refine M9201 ?_;clear h21 h31 h41 hg HQ;intro h21 h31 h41 q0 q1 q2 q3 q4 f0 f1 f2 f3 f4
  simp only[show([109,111,100]:List UInt8)=kJ from rfl]
  cases e2:cX F kJ
  .
   have he:Hid (TG=false):=by show _=_;rw[hf3.out,zC2 hm,e2];simp
   exact U270
  have HQ:=dX a2 mod.length c2 mod true w4 h21 V6 hc2;go_wp2_with fail;refine HQ.mono ?_;rintro e w5 ⟨rfl,hg⟩;clear q0 q1 q2 q3 q4 f0 f1 f2 f3 f4
  replace hg:w4.grownBy w5 none:=by rw[hg];exact aN0 _ _
  refine M919 ?_;clear x0 fb ht1 yy;intro x0 fb ht1 yy;refine M9201 ?_;clear h21 h31 h41 hg HQ;intro h21 h31 h41 q0 q1 q2 q3 q4 f0 f1 f2 f3 f4
  cases e3:aK mod true
  .
   have he:Hid (TG=false):=by show _=_;rw[hf3.out,zC2 hm,e2,e3];simp
   exact U270
  have hf4:Hid (TG=(decide ((i:Int)=6) || !(ks.any fun x=>decide (x.kind=7)))):=by show _=_;rw[hf3.out,zC2 hm,e2,e3];simp
  clear hf3
  by_cases h6:(i:Int)=6
  .
   have h6':((i:Int) == 6)=true:=by simpa using h6
   have he:Hid (TG=true):=by show _=_;rw[hf4.out,zB3 h6];rfl
   exact U270
  .
   have h6':((i:Int) == 6)=false:=by simpa using h6
   have HQ:=fX 7 ks a4 c4 w5 h41;go_wp2_with fail;refine HQ.mono ?_;rintro e w6 ⟨rfl,hg⟩;clear q0 q1 q2 q3 q4 f0 f1 f2 f3 f4;refine M919 ?_;clear x0 fb ht1 yy;intro x0 fb ht1 yy;refine M9201 ?_;clear h21 h31 h41 hg HQ;intro h21 h31 h41 q0 q1 q2 q3 q4 f0 f1 f2 f3 f4
   have he:Hid (TG = !(ks.any fun x=>decide (x.kind=7))):=by show _=_;rw[hf4.out,zC2 h6];simp
   exact U270
def stT (k n:Int)(name:List Int)(ks:List Ex)(nb ne:Nat):Bool:=
 inB k 0 7 && (cF (stF k.toNat) n name ks.length && (decide (nb=0) || cX (stF k.toNat) fB) && (decide (ne=0) || cX (stF k.toNat) eQ) && !(ks.any fun x=>decide (x.kind=7)) && (!cX (stF k.toNat) dU || ks.any fun x=>decide (x.kind=6)))
theorem aA4 (k n:Int)(name:List Int)(ks:List Ex)(bs es:List St)(vs:List Value)(w:World)(ht:kQ w)(h:aO w (St.mk k n name ks bs es).fl vs)(hs:aH (St.mk k n name ks bs es).fl<=1048576):
  Calls Tryz.prog 233 #[agg vs] w fun e w'=>e=.returned (.bool (stT k n name ks bs.length es.length))/\w.grownBy w' none:=by
 unfold St.fl at h
 have hs':name.length<=1048576:=by simp only[St.fl,aH,Fl.len]at hs;omega
 clear hs;obtain⟨y0,_,rfl,rfl,y1,_,rfl,rfl,y2,_,rfl,⟨a2,c2,rfl,h2,hc2,_⟩,y3,_,rfl,h3',y4,_,rfl,Bl,y5,_,rfl,h5',rfl⟩:=h;obtain⟨a3,c3,rfl,h3⟩:=h3'.list;obtain⟨a4,c4,rfl,h4⟩:=Bl.list;obtain⟨a5,c5,rfl,h5⟩:=h5'.list;clear h3' Bl h5'
 have As:(exs ks).length=ks.length:=by simp[aJ]
 refine M939 ?_;intro hbl hel
 have hk9:ks.length<=9223372036854775807:=by have h5:=h3.cap;have h6:=h3.most;unfold maxLen at h6;omega
 have hb9:bs.length<=9223372036854775807:=by have h5:=h4.cap;have h6:=h4.most;unfold maxLen at h6;omega
 have he9:es.length<=9223372036854775807:=by have h7:=h5.cap;have h6:=h5.most;unfold maxLen at h6;omega
 rw[As,hbl,hel];clear h4 h5;generalize bs.length=nb at *;generalize es.length=ne at *;simp only[agg];have yy:=aC w (.cells #[.int .i64 k,.int .i64 n,.slice a2 name.length c2,.slice a3 ks.length c3,.slice a4 nb c4,.slice a5 ne c5] 129 (0,0)) none;have x0:=Blk.new w 129 [.int .i64 k,.int .i64 n,.slice a2 name.length c2,.slice a3 ks.length c3,.slice a4 nb c4,.slice a5 ne c5]
 have hfe:Hid (stT k n name ks nb ne=(inB k 0 7 && (cF (stF k.toNat) n name ks.length && (decide (nb=0) || cX (stF k.toNat) fB) && (decide (ne=0) || cX (stF k.toNat) eQ) && !(ks.any fun x=>decide (x.kind=7)) && (!cX (stF k.toNat) dU || ks.any fun x=>decide (x.kind=6))))):=rfl
 generalize stT k n name ks nb ne=TG at *;have ht1:=ht.below (aA yy);have h31:=h2.below (aA yy);have h41:=h3.below (aA yy);clear ht h2 h3;go_enter Tryz.func233,Tryz.ntmps233;go_upto_region 1 with fail;generalize w.alloc (.cells #[.int .i64 k,.int .i64 n,.slice a2 name.length c2,.slice a3 ks.length c3,.slice a4 nb c4,.slice a5 ne c5] 129 (0,0))=w1 at *;have q0:=x0.k 0;have R1:=gL k 0 7 w1;go_wp2_with fail;refine R1.mono ?_;rintro e w1 ⟨rfl,rfl⟩;clear R1
 rw[show(decide (0<=k) && decide (k<=7))=inB k 0 7 from rfl]
 cases e1:inB k 0 7
 .
  have he:Hid (TG=false):=by show _=_;rw[hfe.out,e1];rfl
  clear e1;exact U270
 have hkk:0<=k/\k<=7:=by simpa [inB] using e1
 have hf2:Hid (TG=(cF (stF k.toNat) n name ks.length && (decide (nb=0) || cX (stF k.toNat) fB) && (decide (ne=0) || cX (stF k.toNat) eQ) && !(ks.any fun x=>decide (x.kind=7)) && (!cX (stF k.toNat) dU || ks.any fun x=>decide (x.kind=6)))):=by show _=_;rw[hfe.out,e1];rfl
 clear e1 hfe
 obtain⟨i,rfl⟩:∃i:Nat,k=(i:Int):=⟨k.toNat,by omega⟩
 simp only[Int.toNat_natCast]at hf2;have hi:i<8:=V6;have hp:=iQ i;have hF:=ht1.st i hi;refine M931 ?_;intro z0 z1 z2 z3 z4;clear hF;generalize hFm:stF i=F at *;clear hFm;go_upto_region 4 with fail;clear z0 z1 z2 z3 z4 q0;refine M9127 ?_;clear x0 ht1;intro fb yf x0 ht1;replace h31:=h31.below (aA yf);replace h41:=h41.below (aA yf);replace yy:=aD yy yf;generalize w1.alloc (.cells #[.string ⟨F.txt.toArray⟩,.int .i64 F.lo,.int .i64 F.hi,.int .i64 F.le,.int .i64 F.mo] 280 (0,0))=w2 at *;generalize w1.heap.size=gf at *;clear yf;generalize eA:cF F n name ks.length=bA at *;generalize eB:cX F fB=bB at *;generalize eC:cX F eQ=bC at *
 generalize eD:(ks.any fun x=>decide (x.kind=7))=bD at *
 generalize eE:cX F dU=bE at *
 generalize eF:(ks.any fun x=>decide (x.kind=6))=bF at *
 obtain⟨q0,q1,q2,q3,q4,q5⟩:=x0.c6;obtain⟨f0,f1,f2,f3,f4⟩:=fb.c5;have HQ:=aF3 F hp n a2 c2 name ks.length w2 ht1 h31 V6 hc2;simp only[Fm.val,dT,kJ,fB,eQ,dU]at HQ;go_wp2_with fail;refine HQ.mono ?_;rintro e w3 ⟨rfl,hg⟩;clear q0 q1 q2 q3 q4 q5 f0 f1 f2 f3 f4;refine M9182 ?_;clear x0 fb ht1 yy h31 h41 hg HQ;intro x0 fb ht1 yy h31 h41 q0 q1 q2 q3 q4 q5 f0 f1 f2 f3 f4;simp only[eA];cases bA
 .
  have he:Hid (TG=false):=by show _=_;rw[hf2.out];rfl
  exact U270
 by_cases hzB:nb=0
 .
  have hz':((nb:Int) == 0)=true:=by simpa using hzB
  by_cases hzC:ne=0
  .
   have hz':((ne:Int) == 0)=true:=by simpa using hzC
   have HQ:=fX 7 ks a3 c3 w3 h41;go_wp2_with fail;refine HQ.mono ?_;rintro e w4 ⟨rfl,hg⟩;clear q0 q1 q2 q3 q4 q5 f0 f1 f2 f3 f4;refine M9182 ?_;clear x0 fb ht1 yy h31 h41 hg HQ;intro x0 fb ht1 yy h31 h41 q0 q1 q2 q3 q4 q5 f0 f1 f2 f3 f4;simp only[eD];cases bD
   rotate_left
   .
    have he:Hid (TG=false):=by show _=_;rw[hf2.out,zB3 hzB,zB3 hzC];simp
    exact U270
   have HQ:=aCj F hp dU w4 ht1;simp only[Fm.val,dT,kJ,fB,eQ,dU]at HQ;go_wp2_with fail;refine HQ.mono ?_;rintro e w5 ⟨rfl,hg⟩;clear q0 q1 q2 q3 q4 q5 f0 f1 f2 f3 f4;refine M9182 ?_;clear x0 fb ht1 yy h31 h41 hg HQ;intro x0 fb ht1 yy h31 h41 q0 q1 q2 q3 q4 q5 f0 f1 f2 f3 f4
   simp only[show([99,97,108,108]:List UInt8)=dU from rfl,eE]
   cases bE
   .
    have he:Hid (TG=true):=by show _=_;rw[hf2.out,zB3 hzB,zB3 hzC];simp
    exact U270
   have HQ:=fX 6 ks a3 c3 w5 h41;go_wp2_with fail;refine HQ.mono ?_;rintro e w6 ⟨rfl,hg⟩;clear q0 q1 q2 q3 q4 q5 f0 f1 f2 f3 f4;refine M9182 ?_;clear x0 fb ht1 yy h31 h41 hg HQ;intro x0 fb ht1 yy h31 h41 q0 q1 q2 q3 q4 q5 f0 f1 f2 f3 f4;simp only[eF]
   have he:Hid (TG=bF):=by show _=_;rw[hf2.out,zB3 hzB,zB3 hzC];simp
   exact U270
  .
   have hz':((ne:Int) == 0)=false:=by simpa using hzC
   have HQ:=aCj F hp eQ w3 ht1;simp only[Fm.val,dT,kJ,fB,eQ,dU]at HQ;go_wp2_with fail;refine HQ.mono ?_;rintro e w4 ⟨rfl,hg⟩;clear q0 q1 q2 q3 q4 q5 f0 f1 f2 f3 f4;refine M9182 ?_;clear x0 fb ht1 yy h31 h41 hg HQ;intro x0 fb ht1 yy h31 h41 q0 q1 q2 q3 q4 q5 f0 f1 f2 f3 f4
   simp only[show([101,108,115,101]:List UInt8)=eQ from rfl,eC]
   cases bC
   .
    have he:Hid (TG=false):=by show _=_;rw[hf2.out,zB3 hzB,zC2 hzC];simp
    exact U270
   have HQ:=fX 7 ks a3 c3 w4 h41;go_wp2_with fail;refine HQ.mono ?_;rintro e w5 ⟨rfl,hg⟩;clear q0 q1 q2 q3 q4 q5 f0 f1 f2 f3 f4;refine M9182 ?_;clear x0 fb ht1 yy h31 h41 hg HQ;intro x0 fb ht1 yy h31 h41 q0 q1 q2 q3 q4 q5 f0 f1 f2 f3 f4;simp only[eD];cases bD
   rotate_left
   .
    have he:Hid (TG=false):=by show _=_;rw[hf2.out,zB3 hzB,zC2 hzC];simp
    exact U270
   have HQ:=aCj F hp dU w5 ht1;simp only[Fm.val,dT,kJ,fB,eQ,dU]at HQ;go_wp2_with fail;refine HQ.mono ?_;rintro e w6 ⟨rfl,hg⟩;clear q0 q1 q2 q3 q4 q5 f0 f1 f2 f3 f4;refine M9182 ?_;clear x0 fb ht1 yy h31 h41 hg HQ;intro x0 fb ht1 yy h31 h41 q0 q1 q2 q3 q4 q5 f0 f1 f2 f3 f4
   simp only[show([99,97,108,108]:List UInt8)=dU from rfl,eE]
   cases bE
   .
    have he:Hid (TG=true):=by show _=_;rw[hf2.out,zB3 hzB,zC2 hzC];simp
    exact U270
   have HQ:=fX 6 ks a3 c3 w6 h41;go_wp2_with fail;refine HQ.mono ?_;rintro e w7 ⟨rfl,hg⟩;clear q0 q1 q2 q3 q4 q5 f0 f1 f2 f3 f4;refine M9182 ?_;clear x0 fb ht1 yy h31 h41 hg HQ;intro x0 fb ht1 yy h31 h41 q0 q1 q2 q3 q4 q5 f0 f1 f2 f3 f4;simp only[eF]
   have he:Hid (TG=bF):=by show _=_;rw[hf2.out,zB3 hzB,zC2 hzC];simp
   exact U270
 .
  have hz':((nb:Int) == 0)=false:=by simpa using hzB
  have HQ:=aCj F hp fB w3 ht1;simp only[Fm.val,dT,kJ,fB,eQ,dU]at HQ;go_wp2_with fail;refine HQ.mono ?_;rintro e w4 ⟨rfl,hg⟩;clear q0 q1 q2 q3 q4 q5 f0 f1 f2 f3 f4;refine M9182 ?_;clear x0 fb ht1 yy h31 h41 hg HQ;intro x0 fb ht1 yy h31 h41 q0 q1 q2 q3 q4 q5 f0 f1 f2 f3 f4
  simp only[show([98,111,100,121]:List UInt8)=fB from rfl,eB]
  cases bB
  .
   have he:Hid (TG=false):=by show _=_;rw[hf2.out,zC2 hzB];simp
   exact U270
  by_cases hzC:ne=0
  .
   have hz':((ne:Int) == 0)=true:=by simpa using hzC
   have HQ:=fX 7 ks a3 c3 w4 h41;go_wp2_with fail;refine HQ.mono ?_;rintro e w5 ⟨rfl,hg⟩;clear q0 q1 q2 q3 q4 q5 f0 f1 f2 f3 f4;refine M9182 ?_;clear x0 fb ht1 yy h31 h41 hg HQ;intro x0 fb ht1 yy h31 h41 q0 q1 q2 q3 q4 q5 f0 f1 f2 f3 f4;simp only[eD];cases bD
   rotate_left
   .
    have he:Hid (TG=false):=by show _=_;rw[hf2.out,zC2 hzB,zB3 hzC];simp
    exact U270
   have HQ:=aCj F hp dU w5 ht1;simp only[Fm.val,dT,kJ,fB,eQ,dU]at HQ;go_wp2_with fail;refine HQ.mono ?_;rintro e w6 ⟨rfl,hg⟩;clear q0 q1 q2 q3 q4 q5 f0 f1 f2 f3 f4;refine M9182 ?_;clear x0 fb ht1 yy h31 h41 hg HQ;intro x0 fb ht1 yy h31 h41 q0 q1 q2 q3 q4 q5 f0 f1 f2 f3 f4
   simp only[show([99,97,108,108]:List UInt8)=dU from rfl,eE]
   cases bE
   .
    have he:Hid (TG=true):=by show _=_;rw[hf2.out,zC2 hzB,zB3 hzC];simp
    exact U270
   have HQ:=fX 6 ks a3 c3 w6 h41;go_wp2_with fail;refine HQ.mono ?_;rintro e w7 ⟨rfl,hg⟩;clear q0 q1 q2 q3 q4 q5 f0 f1 f2 f3 f4;refine M9182 ?_;clear x0 fb ht1 yy h31 h41 hg HQ;intro x0 fb ht1 yy h31 h41 q0 q1 q2 q3 q4 q5 f0 f1 f2 f3 f4;simp only[eF]
   have he:Hid (TG=bF):=by show _=_;rw[hf2.out,zC2 hzB,zB3 hzC];simp
   exact U270
  .
   have hz':((ne:Int) == 0)=false:=by simpa using hzC
   have HQ:=aCj F hp eQ w4 ht1;simp only[Fm.val,dT,kJ,fB,eQ,dU]at HQ;go_wp2_with fail;refine HQ.mono ?_;rintro e w5 ⟨rfl,hg⟩;clear q0 q1 q2 q3 q4 q5 f0 f1 f2 f3 f4;refine M9182 ?_;clear x0 fb ht1 yy h31 h41 hg HQ;intro x0 fb ht1 yy h31 h41 q0 q1 q2 q3 q4 q5 f0 f1 f2 f3 f4
   simp only[show([101,108,115,101]:List UInt8)=eQ from rfl,eC]
   cases bC
   .
    have he:Hid (TG=false):=by show _=_;rw[hf2.out,zC2 hzB,zC2 hzC];simp
    exact U270
   have HQ:=fX 7 ks a3 c3 w5 h41;go_wp2_with fail;refine HQ.mono ?_;rintro e w6 ⟨rfl,hg⟩;clear q0 q1 q2 q3 q4 q5 f0 f1 f2 f3 f4;refine M9182 ?_;clear x0 fb ht1 yy h31 h41 hg HQ;intro x0 fb ht1 yy h31 h41 q0 q1 q2 q3 q4 q5 f0 f1 f2 f3 f4;simp only[eD];cases bD
   rotate_left
   .
    have he:Hid (TG=false):=by show _=_;rw[hf2.out,zC2 hzB,zC2 hzC];simp
    exact U270
   have HQ:=aCj F hp dU w6 ht1;simp only[Fm.val,dT,kJ,fB,eQ,dU]at HQ;go_wp2_with fail;refine HQ.mono ?_;rintro e w7 ⟨rfl,hg⟩;clear q0 q1 q2 q3 q4 q5 f0 f1 f2 f3 f4;refine M9182 ?_;clear x0 fb ht1 yy h31 h41 hg HQ;intro x0 fb ht1 yy h31 h41 q0 q1 q2 q3 q4 q5 f0 f1 f2 f3 f4
   simp only[show([99,97,108,108]:List UInt8)=dU from rfl,eE]
   cases bE
   .
    have he:Hid (TG=true):=by show _=_;rw[hf2.out,zC2 hzB,zC2 hzC];simp
    exact U270
   have HQ:=fX 6 ks a3 c3 w7 h41;go_wp2_with fail;refine HQ.mono ?_;rintro e w8 ⟨rfl,hg⟩;clear q0 q1 q2 q3 q4 q5 f0 f1 f2 f3 f4;refine M9182 ?_;clear x0 fb ht1 yy h31 h41 hg HQ;intro x0 fb ht1 yy h31 h41 q0 q1 q2 q3 q4 q5 f0 f1 f2 f3 f4;simp only[eF]
   have he:Hid (TG=bF):=by show _=_;rw[hf2.out,zC2 hzB,zC2 hzC];simp
   exact U270
end Go.Proofs.YtegkhlkjfeafjaaGreatDoor

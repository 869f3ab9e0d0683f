import Derived.Test.YtffphdacgblaoaaGreatDoorPackAJ
namespace Go.Proofs.YtffphdacgblaoaaGreatDoor
open Go.RowKit
set_option linter.unusedVariables false
set_option linter.unusedSimpArgs false
set_option maxRecDepth 100000
namespace Eg
def mn:Int:=-9223372036854775808
def mx:Int:=9223372036854775807
def Rs.eq:Rs->Rs->Bool
 | .bt,.bt=>true
 | .ii,.ii=>true
 | .st,.st=>true
 | .rc a,.rc b=>a == b
 | _,_=>false
structure AS where
 sl:List (Nat × AV)
 sy:List SF
 bk:List Bk
 ni:Nat
 cf:List Cf
 nc:List Cf
 tg:Bool
def sf (k:Rs)(lo hi:Nat)(own:Bool):SF:={ k:=k,lo:=lo,hi:=hi,own:=own }
def turn:Nat->Bool
 | 14=>true
 | 15=>true
 | _=>false
def Rs.turn:Rs->Bool
 | .rc t=>Eg.turn t
 | _=>false
def SE:List (Nat × Nat):=[(22,5),(23,22),(24,82),(25,55),(28,35),(33,59),(52,98),(53,116),(56,3),(67,27),(108,9),(114,119)]
def Z0:CV:=.int 0 0
def TZ:List (Nat × List CV × List Nat):=[(82,[.nil,Z0],[0,1]),(98,[.nil,.tv false],[0,1]),(59,[.nil,.nil],[0,1]),(35,[.nil,.nil],[0,1]),(119,[Z0,Z0,.nil,.nil,.nil],[0,1,2,3,4]),(116,[Z0,Z0,.nil,.nil,.nil,.nil],[0,1,2,3,4,5]),(55,[.nil,.tv false,.nil,.nil,.nil],[0,1,2,3,4]),(27,[.nil,.nil,.nil,.nil],[0,1,2,3]),(139,[.top,.nil,.nil,.nil,.nil,.nil,.nil,.nil,Z0,Z0,.tv false],[0,1,2,6,7,8,9,10])]
def T1:List Nat:=[3,4,5,9,22,23,24,25,28,33,52,53,56,67,108,114,41]
def bY {α:Type}(n:Nat):List (Nat × α)->Option α
 | []=>none
 | (k,x) :: l=>if k == n then some x else bY n l
def has (n:Nat):List Nat->Bool
 | []=>false
 | k :: l=>k == n || has n l
def at? {α:Type}:List α->Nat->Option α
 | [],_=>none
 | x :: _,0=>some x
 | _ :: l,n+1=>at? l n
def put {α:Type}:List α->Nat->α->List α
 | [],_,_=>[]
 | _ :: l,0,y=>y :: l
 | x :: l,n+1,y=>x :: put l n y
def cells (T:Nat):Option Nat:=if has T T1 then some 1 else (bY T TZ).map fun p=>p.1.length
def aH0 (T f:Nat):Option Nat:=(bY T TZ).bind fun p=>at? p.2 f
def aGv:Value->CV
 | .int .i64 n=>.int n n
 | .int .u8 n=>if decide (0<=n) && decide (n<=255) then .byte else .top
 | .bool b=>.tv b
 | .string s=>if decide (s.size<=4) then .str else .top
 | .slice none 0 0=>.nil
 | _=>.top
def aPp:Value->AV
 | .agg cs=>.agg (cs.toList.map aGv)
 | v=>.c (aGv v)
def AS.ev (A:AS):Operand->AV
 | .tmp t=>(bY t A.sl).getD (.c .top)
 | .const v=>aPp v
 | _=>.c .top
def AS.rng (A:AS):CV->Option (Int × Int)
 | .int lo hi=>some (lo,hi)
 | .len s k=>(at? A.sy s).map fun f=>((f.lo:Int)-k,(f.hi:Int)-k)
 | .idx s k=>(at? A.sy s).map fun f=>(0,(f.hi:Int)-k-1)
 | _=>none
def AS.fit (A:AS):Fd->CV->Bool
 | .n,x=>match A.rng x with
  | some (lo,hi)=>decide (mn<=lo) && decide (hi<=mx)
  | none=>false
 | .t,.tv _=>true
 | .t,.bl _ _=>true
 | .b _,.nil=>true
 | .i _,.nil=>true
 | .l _ lo _,.nil=>lo == 0
 | .b m,.sl s=>match at? A.sy s with
  | some f=>f.k.eq .bt && decide (f.hi<=m)
  | none=>false
 | .i m,.sl s=>match at? A.sy s with
  | some f=>f.k.eq .ii && decide (f.hi<=m)
  | none=>false
 | .l t lo m,.sl s=>match at? A.sy s with
  | some f=>f.k.eq (.rc t) && decide (lo<=f.lo) && decide (f.hi<=m)
  | none=>false
 | _,_=>false
def AS.fits (A:AS):List Fd->List CV->Bool
 | [],[]=>true
 | f :: r,x :: l=>A.fit f x && A.fits r l
 | _,_=>false
def AS.fitE (A:AS):Rs->AV->Bool
 | .bt,.c .byte=>true
 | .ii,.c x=>match A.rng x with
  | some (lo,hi)=>decide (mn<=lo) && decide (hi<=mx)
  | none=>false
 | .st,.c .str=>true
 | .rc t,.c x=>match (Dt t).2 with
  | [f]=>A.fit f x
  | _=>false
 | .rc t,.rc t'=>t == t' && decide (1<(Dt t).2.length)
 | .rc t,.agg l=>decide (1<(Dt t).2.length) && A.fits (Dt t).2 l
 | _,_=>false
def rdF (c:Nat)(un:Bool):Fd->CV × List SF
 | .n=>(.int mn mx,[])
 | .t=>(.bl [] [],[])
 | .b m=>(.sl c,[{ k:=.bt,lo:=0,hi:=m,own:=false,un:=un }])
 | .i m=>(.sl c,[sf .ii 0 m false])
 | .l t lo m=>(.sl c,[sf (.rc t) lo m false])
def aCb (c:Nat):List Fd->List CV × List SF
 | []=>([],[])
 | f :: r=>((rdF c false f).1 :: (aCb (c+(rdF c false f).2.length) r).1,(rdF c false f).2++(aCb (c+(rdF c false f).2.length) r).2)
def cellsOf (c:Nat):AV->Option (List CV × List SF)
 | .c x=>some ([x],[])
 | .agg l=>some (l,[])
 | .rc t=>if decide (1<(Dt t).2.length) then some (aCb c (Dt t).2) else none
 | .tup _ _=>none
structure Out where
 r:AV
 ns:List SF:=[]
 nb:Option Bk:=none
 up:Option (Nat × List CV):=none
 nx:Bool:=false
 nc:List Cf:=[]
 cu:Bool:=false
 nq:Bool:=false
 nt:Bool:=false
 br:Bool:=false
 nm:Bool:=false
inductive CP where
 | cur|gen|int (lo hi:Int)|bool|str|sl (k:Rs) (lo hi:Nat)|rc (t:Nat)|un|fa
inductive RP where
 | int (lo hi:Int)|bool|sl (k:Rs) (lo hi:Nat)|rc (t:Nat)|tb (t:Nat)|ts (t:Nat) (k:Rs) (lo hi:Nat)|ixf|num|vr
structure Con where
 f:Nat
 st:Bool
 args:List CP
 res:RP
 tg:Bool
structure Cfg where
 st:Bool
 us:Bool
 keep:List Nat
 rowd:List (Nat × Rs)
 rows:List (Nat × Rs)
 cons:List Con
 nt:Nat
def AS.sOk (A:AS)(k:Rs)(lo hi:Nat):CV->Bool
 | .nil=>lo == 0
 | .sl s=>match at? A.sy s with
  | some f=>f.k.eq k && decide (lo<=f.lo) && decide (f.hi<=hi)
  | none=>false
 | _=>false
def AS.gen (A:AS)(b:Nat):Bool:=match at? A.bk b with
 | some (.cells T [.ptr c 0,.sl 0,nv,.sl 1,vv,pv,iv,av,.int 1 1,.int lo hi,.bl [] []])=>
  T == 139 && (match at? A.bk c with|some .cur=>true|_=>false) && A.sOk .bt 0 4 nv && A.sOk (.rc 1) 0 3 vv && A.sOk (.rc 12) 0 3 pv && A.sOk (.rc 0) 2 20 iv && A.sOk (.rc 0) 0 20 av && decide (lo=mn) && decide (hi=mx)
 | _=>false
def AS.mat (A:AS):CP->AV->Bool
 | .cur,.c (.ptr b 0)=>match at? A.bk b with|some .cur=>true|_=>false
 | .gen,.c (.ptr b 0)=>A.gen b
 | .int lo hi,.c x=>match A.rng x with
  | some (l,h)=>decide (lo<=l) && decide (h<=hi)
  | none=>false
 | .bool,.c (.tv _)=>true
 | .bool,.c (.bl _ _)=>true
 | .str,.c .str=>true
 | .sl k lo hi,.c x=>A.sOk k lo hi x
 | .rc t,.rc t'=>t == t'
 | .rc t,.agg l=>A.fits (Dt t).2 l
 | .un,.c (.sl s)=>match at? A.sy s with
  | some f=>f.k.eq .bt && f.un
  | none=>false
 | .fa,.c (.sl 0)=>true
 | _,_=>false
def AS.mats (A:AS):List CP->List AV->Bool
 | [],[]=>true
 | p :: l,x :: r=>A.mat p x && A.mats l r
 | _,_=>false
def RP.out (c:Nat):RP->Out
 | .int lo hi=>{ r:=.c (.int lo hi) }
 | .bool=>{ r:=.c (.bl [] []) }
 | .sl k lo hi=>{ r:=.c (.sl c),ns:=[sf k lo hi true] }
 | .rc t=>{ r:=.rc t }
 | .tb t=>{ r:=.tup t (.bl [] []) }
 | .ts t k lo hi=>{ r:=.tup t (.sl c),ns:=[sf k lo hi true] }
 | .ixf=>{ r:=.c (.idx 0 0) }
 | .num=>{ r:=.agg [.int mn mx,.int mn mx,.nil,.nil,.nil] }
 | .vr=>{ r:=.agg [.int mn mx,.int mn mx,.nil,.sl c,.nil],ns:=[sf .bt 0 4 false] }
def bW:List CP->Bool
 | .gen :: _=>true
 | _=>false
def iC:List CP->Bool
 | .cur :: _=>true
 | _=>false
def nJ:CP->Bool
 | .cur=>false
 | .gen=>false
 | _=>true
def aFj:List CP->Bool
 | []=>true
 | _ :: l=>l.all nJ
def aL9:RP->Bool
 | .ixf=>true
 | _=>false
def rB:CP->Bool
 | .fa=>true
 | .un=>true
 | .gen=>true
 | _=>false
def nV (A:AS)(st us:Bool)(f:Nat)(xs:List AV):List Con->Option Out
 | []=>none
 | c :: l=>if c.f == f && (c.st || !st) && (A.tg || !c.tg) && aFj c.args && (us || !(c.args.any rB || aL9 c.res)) && A.mats c.args xs then some { c.res.out A.sy.length with br:=!c.st,nq:=!c.st,nt:=true,nm:=bW c.args } else nV A st us f xs l
def FS:List Nat:=[30,29,71,98,72,122,124,69,140,97,123,121,96,67,31,28,99,70,32,33,10]
def aGj (G:Cfg)(A:AS)(f:Nat)(xs:List AV):Option Out:=
 if !(has f FS) then none else
 if f == 30 then match xs with
  | [p,.c x]=>if A.mat .cur p then match x,A.rng x with
   | .len s k,some (lo,hi)=>if decide (1<=lo) && decide (hi<=1000000) then some { r:=.c (.idx s k) } else none
   | _,some (lo,hi)=>if decide (hi<=1000000) then some { r:=.c (.int 0 (if decide (1<=hi) then hi-1 else 0)) } else none
   | _,_=>none else none
  | _=>none
 else nV A G.st G.us f xs G.cons
def evs (A:AS):List Operand->List AV
 | []=>[]
 | x :: l=>A.ev x :: evs A l
def plc (tot:Nat):List Nat->List (Nat × Nat)
 | []=>[]
 | [d]=>[(d,tot-d)]
 | d :: e :: r=>(d,e-d) :: plc tot (e :: r)
def xN:CV->Bool
 | .top=>false
 | .und=>false
 | _=>true
def aAz (A:AS)(ps:List (Nat × Nat)):List (Nat × Operand)->List CV->Option (List CV)
 | [],l=>some l
 | (f,x) :: r,l=>match at? ps f,A.ev x with
  | some (o,n),.c y=>if n == 1 && xN y && decide (o<l.length) then aAz A ps r (put l o y) else none
  | _,_=>none
def sO (A:AS)(k:Rs):Nat->List (Nat × Operand)->Bool
 | _,[]=>true
 | i,(j,x) :: r=>i == j && A.fitE k (A.ev x) && sO A k (i+1) r
def aR9:CV->Option CV
 | .tv b=>some (.tv !b)
 | .bl t f=>some (.bl f t)
 | _=>none
def aRu (A:AS)(op:BinOp)(x y:CV):Option CV:=
 match A.rng x,A.rng y with
 | some (a,b),some (c,d)=>
  match op with
  | .lss=>if decide (b<c) then some (.tv true) else if decide (d<=a) then some (.tv false) else match x,y with
   | .int i j,.len s k=>if decide (i=j) && decide (0<=i) then some (.bl [⟨s,i.toNat+k,true⟩] [⟨s,i.toNat+k,false⟩]) else some (.bl [] [])
   | .int i j,.idx s k=>if decide (i=j) && decide (0<=i) then some (.bl [⟨s,i.toNat+1+k,true⟩] []) else some (.bl [] [])
   | _,_=>some (.bl [] [])
  | .gtr=>if decide (d<a) then some (.tv true) else if decide (b<=c) then some (.tv false) else match x,y with
   | .len s k,.int i j=>if decide (i=j) && decide (0<=i) then some (.bl [⟨s,i.toNat+k,true⟩] [⟨s,i.toNat+k,false⟩]) else some (.bl [] [])
   | _,_=>some (.bl [] [])
  | .eql=>if decide (a=b) && decide (c=d) && decide (a=c) then some (.tv true) else if decide (b<c) || decide (d<a) then some (.tv false) else match x,y with
   | .len s 0,.int 0 0=>some (.bl [⟨s,0,false⟩] [⟨s,0,true⟩])
   | _,_=>some (.bl [] [])
  | .leq=>if decide (b<=c) then some (.tv true) else if decide (d<a) then some (.tv false) else some (.bl [] [])
  | .geq=>if decide (d<=a) then some (.tv true) else if decide (b<c) then some (.tv false) else some (.bl [] [])
  | .neq=>some (.bl [] [])
  | _=>none
 | _,_=>none
def aMu (A:AS)(op:BinOp)(x y:CV):Option CV:=
 match op,x,y with
 | .sub,.len s k,.int i j=>if decide (i=j) && decide (0<=i) && decide (i<=1000) && (match at? A.sy s with|some f=>decide (k<=1000) && decide (f.hi<=1000)|none=>false) then some (.len s (k+i.toNat)) else none
 | .add,.int i j,.idx s k=>if decide (i=j) && decide (0<=i) && decide (i<=k) && (match at? A.sy s with|some f=>decide (f.hi<=1000)|none=>false) then some (.idx s (k-i.toNat)) else none
 | _,_,_=>match A.rng x,A.rng y with
  | some (a,b),some (c,d)=>
   match op with
   | .add=>if decide (mn<=a+c) && decide (b+d<=mx) then some (.int (a+c) (b+d)) else some (.int mn mx)
   | .sub=>if decide (mn<=a-d) && decide (b-c<=mx) then some (.int (a-d) (b-c)) else some (.int mn mx)
   | .mul=>if decide (0<=a) && decide (0<=c) && decide (b*d<=mx) then some (.int 0 (b*d)) else some (.int mn mx)
   | _=>none
  | _,_=>none
def aRa:BinOp->Bool
 | .eql=>true
 | .neq=>true
 | .lss=>true
 | .leq=>true
 | .gtr=>true
 | .geq=>true
 | _=>false
def isB:CV->Bool
 | .tv _=>true
 | .bl _ _=>true
 | _=>false
def wt:CV->List Ct
 | .bl t _=>t
 | _=>[]
def wf:CV->List Ct
 | .bl _ f=>f
 | _=>[]
def aOe (c a b:CV):Option CV:=
 match c with
 | .tv true=>some a
 | .tv false=>some b
 | .bl t f=>if isB a && isB b then (match a,b with
  | .tv true,_=>some (.bl [] (f++wf b))
  | _,.tv false=>some (.bl (t++wt a) [])
  | _,_=>some (.bl [] [])) else none
 | _=>none
def aOb (l:List CV)(o:Nat):List CV->List CV
 | []=>l
 | x :: r=>aOb (put l o x) (o+1) r
def loose (T o:Nat)(x:CV):CV:=match x with
 | .int lo hi=>if T == 139 && o == 9 && decide (mn<=lo) && decide (hi<=mx) then .int mn mx else .int lo hi
 | y=>y
def vG (T:Nat):Nat->List CV->List CV
 | _,[]=>[]
 | o,x :: r=>loose T o x :: vG T (o+1) r
def aHi {α:Type}:Nat->List α->Option (List α)
 | 0,_=>some []
 | n+1,x :: l=>(aHi n l).map (x :: ·)
 | _+1,[]=>none
def oEq:Option Nat->Option Nat->Bool
 | none,none=>true
 | some a,some b=>a == b
 | _,_=>false
def aR8:Ix->Ix->Bool
 | .k a,.k b=>a == b
 | .v a,.v b=>a == b
 | _,_=>false
def aP5 (s:Nat)(k:Rs)(ix:Ix)(p:Nat):List Cf->Option Nat
 | []=>none
 | c :: l=>if c.s == s && c.k.eq k && aR8 c.ix ix && c.p == p then some c.r else aP5 s k ix p l
def isL:Fd->Bool
 | .n=>false
 | .t=>false
 | _=>true
def aJy (T:Nat)(k:Rs):Bool:=match bY T SE with
 | some e=>e == k.ty
 | none=>false
def aM7 (s:Nat)(f:SF):CV->Bool
 | .int lo hi=>decide (0<=lo) && decide (hi<f.lo)
 | .idx s' _=>s == s'
 | .len s' 0=>oEq f.abv (some s')
 | _=>false
def AS.kd (A:AS)(s:Nat)(k:Rs):Bool:=match at? A.sy s with
 | some g=>g.k.eq k
 | none=>false
def cK (G:Cfg)(A:AS)(o:Oper):Option Out:=
 match o.op with
 | .move x=>some { r:=A.ev x }
 | .assign x=>some { r:=A.ev x }
 | .nilCheck x=>match A.ev x with
  | .c (.ptr b p)=>some { r:=.c (.ptr b p) }
  | .c (.elp s k ix p)=>some { r:=.c (.elp s k ix p) }
  | _=>none
 | .fieldAddr T x f=>match aH0 T f,A.ev x with
  | some d,.c (.ptr b p)=>some { r:=.c (.ptr b (p+d)) }
  | some d,.c (.elp s k ix p)=>some { r:=.c (.elp s k ix (p+d)) }
  | _,_=>none
 | .load T x=>match cells T,A.ev x with
  | some 1,.c (.ptr b p)=>match at? A.bk b with
   | some (.cells _ l)=>(at? l p).map fun y=>{ r:=.c y,nm:=true }
   | _=>none
  | some n,.c (.ptr b p)=>match at? A.bk b with
   | some (.cells _ l)=>(aHi n (l.drop p)).map fun y=>{ r:=.agg y,nm:=true }
   | _=>none
  | some 1,.c (.elp s .ii _ 0)=>if A.kd s .ii then some { r:=.c (.int mn mx) } else none
  | some 1,.c (.elp s .st _ 0)=>if A.kd s .st then some { r:=.c .str } else none
  | some 1,.c (.elp s (.rc t) ix p)=>match at? (Dt t).2 p with
   | some f=>if (A.tg || !turn t) && A.kd s (.rc t) then (match (if isL f then aP5 s (.rc t) ix p A.cf else none) with
    | some r=>some { r:=.c (.sl r),nt:=turn t,cu:=true }
    | none=>some { r:=.c (rdF A.sy.length (G.us && s == 1 && t == 0) f).1,ns:=(rdF A.sy.length (G.us && s == 1 && t == 0) f).2,nt:=turn t,nc:=if isL f then [⟨s,.rc t,ix,p,A.sy.length⟩] else [] }) else none
   | none=>none
  | some n,.c (.elp s (.rc t) _ 0)=>if n == (Dt t).2.length && (A.tg || !turn t) && A.kd s (.rc t) then some { r:=.rc t,nt:=turn t } else none
  | _,_=>none
 | .store T x y=>match cells T,A.ev x,A.ev y with
  | some n,.c (.ptr b p),v=>match at? A.bk b,cellsOf A.sy.length v with
   | some (.cells T' l),some (vs,ns)=>if vs.length == n && decide (p+n<=l.length) && vs.all xN then some { r:=.c .und,ns:=ns,up:=some (b,aOb l p (vG T' p vs)) } else none
   | _,_=>none
  | some 1,.c (.elp s (.rc t) _ p),.c v=>match at? (Lt t) p,at? A.sy s with
   | some f,some g=>if A.fit f v && (g.own || !G.st) && (!G.st || !turn t) && A.kd s (.rc t) then some { r:=.c .und,br:=turn t,nq:=true } else none
   | _,_=>none
  | some n,.c (.elp s (.rc t) _ 0),v=>match at? A.sy s with
   | some g=>if n == (Dt t).2.length && A.fitE (.rc t) v && (g.own || !G.st) && !turn t && A.kd s (.rc t) then some { r:=.c .und,nq:=true } else none
   | none=>none
  | _,_,_=>none
 | .build T ps=>match bY T TZ with
  | some (z,ds)=>(aAz A (plc z.length ds) ps.toList z).map fun l=>{ r:=.agg l }
  | none=>none
 | .buildSlice T n ps=>match (match o.dst with|some d=>(match bY d G.rowd with|some k=>some k|none=>bY T G.rows)|none=>none) with
  | some k=>if aJy T k && ps.toList.length == n && sO A k 0 ps.toList && decide (n<=1000) then some { r:=.c (.sl A.sy.length),ns:=[{ k:=k,lo:=n,hi:=n,own:=true,c0:=n == 0 }] } else none
  | none=>none
 | .alloc T=>match bY T TZ with
  | some (z,_)=>some { r:=.c (.ptr A.bk.length 0),nb:=some (.cells T z) }
  | none=>none
 | .box T x=>match cells T,cellsOf A.sy.length (A.ev x) with
  | some n,some (vs,ns)=>if vs.length == n && decide (1<n) && vs.all xN then some { r:=.c (.ptr A.bk.length 0),ns:=ns,nb:=some (.cells T (vG T 0 vs)) } else none
  | _,_=>none
 | .binOp op T x y _=>if T == 3 then match A.ev x,A.ev y with
   | .c a,.c b=>(if aRa op then aRu A op a b else aMu A op a b).map fun z=>{ r:=.c z }
   | _,_=>none
  else none
 | .unOp op T x=>match op,A.ev x with
  | .not,.c a=>(aR9 a).map fun z=>{ r:=.c z }
  | _,_=>none
 | .pick c a b=>match A.ev c,A.ev a,A.ev b with
  | .c c,.c a,.c b=>(aOe c a b).map fun z=>{ r:=.c z }
  | _,_,_=>none
 | .convert S D x=>
  if S == 9 && D == 22 then match A.ev x with
   | .c .str=>some { r:=.c (.sl A.sy.length),ns:=[sf .bt 0 4 true] }
   | _=>none
  else if S == 22 && D == 22 then match A.ev x with
   | .c (.sl s)=>match at? A.sy s with
    | some f=>if f.k.eq .bt && decide (1<=f.lo) && (f.own || !G.st) then some { r:=.c (.sl s) } else none
    | none=>none
   | _=>none
  else if S == 3 && D == 5 then match A.ev x with
   | .c a=>if (A.rng a).isSome then some { r:=.c .byte } else none
   | _=>none
  else none
 | .extract x i=>match A.ev x with
  | .tup t y=>if i == 0 then some { r:=.rc t } else if i == 1 then some { r:=.c y } else none
  | _=>none
 | .indexAddr T x i=>match A.ev x,A.ev i with
  | .c (.sl s),.c j=>match at? A.sy s with
   | some f=>if aJy T f.k && aM7 s f j then (match j with
     | .int lo hi=>if decide (lo=hi) then some { r:=.c (.elp s f.k (.k lo.toNat) 0) } else some { r:=.c (.elp s f.k (.v A.ni) 0),nx:=true }
     | _=>some { r:=.c (.elp s f.k (.v A.ni) 0),nx:=true }) else none
   | none=>none
  | _,_=>none
 | .slice T x (some lo) none none=>match A.ev x,A.ev lo with
  | .c (.sl s),.c (.int 1 1)=>match at? A.sy s with
   | some f=>if aJy T f.k && decide (1<=f.lo) then some { r:=.c (.sl A.sy.length),ns:=[sf f.k (f.lo-1) (f.hi-1) f.own] } else none
   | none=>none
  | _,_=>none
 | .call c=>match c.callee with
  | .value (.func f)=>aGj G A f (evs A c.args.toList)
  | .builtin .len=>match c.args.toList,c.argTypes.toList with
   | [x],[T]=>if (bY T SE).isSome then match A.ev x with
    | .c (.sl s)=>if (at? A.sy s).isSome then some { r:=.c (.len s 0) } else none
    | .c .nil=>some { r:=.c (.int 0 0) }
    | _=>none else none
   | _,_=>none
  | .builtin .append=>match c.args.toList,c.argTypes.toList with
   | [x,y],[T,T']=>if T == T' then match A.ev x,A.ev y with
    | .c .nil,.c (.sl s)=>match at? A.sy s with
     | some g=>if aJy T g.k && decide (g.hi<=1000) && !(g.k.eq .bt) && (A.tg || !g.k.turn) then some { r:=.c (.sl A.sy.length),ns:=[sf g.k g.lo g.hi true],nt:=g.k.turn } else none
     | none=>none
    | .c (.sl q),.c (.sl s)=>match at? A.sy q,at? A.sy s with
     | some f,some g=>if aJy T g.k && f.k.eq g.k && decide (f.hi+g.hi<=1000) && (f.own || !G.st) && (!(f.k.eq .bt) || f.c0) && (A.tg || !g.k.turn) then some { r:=.c (.sl A.sy.length),ns:=[{ k:=f.k,lo:=f.lo+g.lo,hi:=f.hi+g.hi,own:=f.own,abv:=if decide (1<=g.lo) then some q else none }],nq:=true,nt:=g.k.turn } else none
     | _,_=>none
    | _,_=>none else none
   | _,_=>none
  | _=>none
 | _=>none
def del {α:Type}(t:Nat):List (Nat × α)->List (Nat × α)
 | []=>[]
 | (k,x) :: l=>if k == t then del t l else (k,x) :: del t l
def AS.lay (A:AS)(d:Option Nat)(u:Out):AS where
 sl:=match d with|some t=>(t,u.r) :: del t A.sl|none=>A.sl
 sy:=A.sy++u.ns
 bk:=(match u.up with|some (b,l)=>(match at? A.bk b with|some (.cells T _)=>put A.bk b (.cells T l)|_=>A.bk)|none=>A.bk)++u.nb.toList
 ni:=if u.nx then A.ni+1 else A.ni
 cf:=A.cf
 nc:=u.nc++A.nc
 tg:=A.tg && !u.br
structure Ri where
 un:Bool
 cu:Bool
 nq:Bool
 nt:Bool
 br:Bool
 nm:Bool
 sp:Bool
 nk:Bool
def Ri.of (nk un:Bool)(u:Out):Ri:=⟨un,u.cu,u.nq,u.nt,u.br,u.nm,u.up.isSome || u.nb.isSome,nk⟩
def aMa:AV->Bool
 | .c (.elp _ _ _ _)=>true
 | _=>false
def aPy (A:AS)(o:Oper):Bool:=match o.op with
 | .move _=>true
 | .nilCheck _=>true
 | .fieldAddr _ _ _=>true
 | .indexAddr _ _ _=>true
 | .store _ x _=>aMa (A.ev x)
 | _=>false
def xS (ops:List Oper)(A:AS)(is:List Ri)(o:Oper):Option (Option Bool):=match o.guard with
 | none=>some (some true)
 | some (g,w)=>match at? is g,at? ops g with
  | some r,some og=>match og.dst with
   | some t=>match bY t A.sl with
    | some (.c (.tv b))=>if r.un then some none else some (some (b == w))
    | some (.c (.bl _ _))=>some none
    | some (.c .und)=>if r.un then none else some (some false)
    | _=>none
   | none=>none
  | _,_=>none
def vF (ms:List Nat):List Edge->Nat
 | []=>0
 | e :: l=>if Region.binds .any e then vF ms l ||| ((1 <<< e.on) ||| (at? ms e.on).getD 0) else vF ms l
def lO:List Nat->List Oper->List Nat
 | ms,[]=>ms
 | ms,o :: l=>lO (ms++[vF ms o.after.toList]) l
def xT:Nat->List Oper->List Nat
 | _,[]=>[]
 | i,_ :: l=>((1 <<< i)-1) :: xT (i+1) l
def bit (ms:List Nat)(i j:Nat):Bool:=((at? ms i).getD 0).testBit j
def lZ (i:Nat):List Edge->Bool
 | []=>true
 | e :: l=>(!(Region.binds .any e) || decide (e.on<i)) && lZ i l
def kI (t:Nat):Nat->List Oper->Option Nat
 | _,[]=>none
 | i,o :: l=>match o.dst with
  | some d=>if d == t then some i else kI t (i+1) l
  | none=>kI t (i+1) l
def gEq:Option (Nat × Bool)->Option (Nat × Bool)->Bool
 | some (a,b),some (c,d)=>a == c && b == d
 | none,none=>true
 | _,_=>false
def yV (ops:List Oper)(ms:List Nat)(is:List Ri)(i:Nat)(g:Option (Nat × Bool))(pk:Option (Nat × Bool))(t:Nat):Bool:=match kI t 0 ops with
 | none=>true
 | some j=>if decide (j<i) then bit ms i j && (match at? is j,at? ops j with
   | some r,some oj=>!r.un || gEq oj.guard g || (match oj.guard,pk with
    | some (gj,wj),some (c,side)=>wj == side && (match at? ops gj with|some og=>oEq og.dst (some c)|none=>false)
    | _,_=>false)
   | _,_=>false) else decide (i<j) && bit ms j i
def aEq (ops:List Oper)(ms:List Nat)(is:List Ri)(i:Nat)(g:Option (Nat × Bool))(pk:Option (Nat × Bool)):Operand->Bool
 | .tmp t=>yV ops ms is i g pk t
 | _=>true
def zJ (ops:List Oper)(ms:List Nat)(is:List Ri)(i:Nat)(g:Option (Nat × Bool)):List Operand->Bool
 | []=>true
 | x :: l=>aEq ops ms is i g none x && zJ ops ms is i g l
def zV (ops:List Oper)(ms:List Nat)(is:List Ri)(i:Nat)(o:Oper):Bool:=match o.op with
 | .pick (.tmp c) a b=>yV ops ms is i o.guard none c && aEq ops ms is i o.guard (some (c,true)) a && aEq ops ms is i o.guard (some (c,false)) b
 | op=>zJ ops ms is i o.guard op.operands.toList
def oX (ms:List Nat)(i:Nat):Option (Nat × Bool)->Bool
 | none=>true
 | some (g,_)=>decide (g<i) && bit ms i g
def aDg (n:Nat):List Oper->Bool
 | []=>true
 | o :: l=>(match o.dst with|some d=>decide (d<n) && (kI d 0 l).isNone|none=>true) && aDg n l
def inB (b n h:Nat)(l:List Nat)(s:Nat):Bool:=decide (s<b) || has s l || (decide (n<=s) && decide (s<h))
def aP1 (A:AS):List Operand->List Nat
 | []=>[]
 | x :: l=>(A.ev x).sy++aP1 A l
def aP3 (A:AS):List Operand->List Nat
 | []=>[]
 | x :: l=>(A.ev x).bs++aP3 A l
def aP2 (A:AS):List Operand->List Nat
 | []=>[]
 | x :: l=>(A.ev x).is++aP2 A l
def aHe (A:AS)(b:Nat)(c:Operand):CV->CV
 | .bl t f=>.bl (t.filter fun x=>decide (x.s<b) || has x.s (A.ev c).sy) (f.filter fun x=>decide (x.s<b) || has x.s (A.ev c).sy)
 | x=>x
def trim (A:AS)(b:Nat)(o:Oper)(u:Out):Out:=match o.op,u.r with
 | .pick c _ _,.c x=>{ u with r:=.c (aHe A b c x) }
 | _,_=>u
def aSj:Option (Nat × List CV)->List CV
 | some (_,l)=>l
 | none=>[]
def nbL:Option Bk->List CV
 | some (.cells _ l)=>l
 | _=>[]
def looks (o:Oper):List Operand:=match o.op with
 | .pick c _ _=>[c]
 | op=>op.operands.toList
def aR3 (A:AS)(u:Out):Bool:=match u.up with
 | some (b,_)=>(match at? A.bk b with
  | some (.cells _ _)=>true
  | _=>false)
 | none=>true
def aSk (f:Nat->Bool):Option (Nat × List CV)->Bool
 | some (b,_)=>f b
 | none=>true
def spk (B A:AS)(o:Oper)(u:Out):Bool:=
 let iS:=inB B.sy.length A.sy.length (A.sy.length+u.ns.length) (aP1 A (looks o))
 let iB:=inB B.bk.length A.bk.length (A.bk.length+u.nb.toList.length) (aP3 A (looks o))
 let iX:=inB B.ni A.ni (if u.nx then A.ni+1 else A.ni) (aP2 A (looks o))
 aSk iB u.up && aR3 A u && u.r.sy.all iS && u.r.bs.all iB && u.r.is.all iX &&
 (aSj u.up++nbL u.nb).all (fun x=>x.sy.all iS && x.bs.all iB && x.is.all iX) &&
 u.ns.all (fun f=>f.sy.all iS) && u.nc.all (fun c=>iS c.s && iS c.r && c.ix.is.all iX)
def aPv (u:Out):Bool:=u.up.isNone && u.nb.isNone && !u.br && u.ns.all fun f=>f.lo == 0 && !f.un && f.abv.isNone
def noNc (b:Bool)(u:Out):Out:=if b then { u with nc:=[] } else u
def xM:Option Bool->Bool
 | none=>true
 | _=>false
def pre:List Oper->List Bk
 | []=>[]
 | o :: l=>match o.op with
  | .alloc T=>(match bY T TZ with
   | some (z,_)=>.cells T z :: pre l
   | none=>.cur :: pre l)
  | _=>pre l
def nAl:Nat->List Oper->Nat
 | 0,_=>0
 | _,[]=>0
 | i+1,o :: l=>match o.op with
  | .alloc _=>nAl i l+1
  | _=>nAl i l
def aHl (G:Cfg)(ops:List Oper)(B A:AS)(i:Nat)(o:Oper):Option Out:=match o.op with
 | .alloc T=>(match bY T TZ,o.guard with
  | some _,none=>some { r:=.c (.ptr (B.bk.length+nAl i ops) 0) }
  | _,_=>none)
 | _=>(cK G A o).bind fun u=>if spk B A o (trim A B.sy.length o u) then some u else none
def uO (G:Cfg)(ops:List Oper)(ms:List Nat)(B:AS):Nat->List Oper->AS->List Ri->Option (AS × List Ri)
 | _,[],A,is=>some (A,is)
 | i,o :: r,A,is=>if lZ i o.after.toList && oX ms i o.guard && zV ops ms is i o then (match xS ops A is o with
  | some (some false)=>uO G ops ms B (i+1) r (A.lay o.dst { r:=.c .und }) (is++[Ri.of true false { r:=.c .und }])
  | some st=>(aHl G ops B A i o).bind fun u=>if !(xM st) || aPv u then uO G ops ms B (i+1) r (A.lay o.dst (noNc (xM st) (trim A B.sy.length o u))) (is++[Ri.of (aPy A o) (xM st) u]) else none
  | none=>none) else none
def mX:List Oper->List Ri->List (Nat × AV)->List (Nat × AV)
 | o :: l,r :: m,sl=>match o.dst with
  | some t=>mX l m (if r.un then del t sl else sl)
  | none=>mX l m sl
 | _,_,sl=>sl
def aOi (ms:List Nat)(m:Nat)(rm:Ri):Nat->List Ri->Bool
 | _,[]=>true
 | j,r :: l=>(j == m || ((!(rm.nq && r.cu) || bit ms m j) && (!(rm.br || rm.sp) || bit ms m j || bit ms j m || r.nk))) && aOi ms m rm (j+1) l
def aCg (ms:List Nat)(is:List Ri):Nat->List Ri->Bool
 | _,[]=>true
 | m,r :: l=>!(r.sp && r.nk) && aOi ms m r 0 is && aCg ms is (m+1) l
def yG:List Ri->Bool
 | []=>false
 | r :: l=>r.nq || yG l
def aMr (A:AS):List Cf->Bool
 | []=>true
 | c :: l=>A.kd c.s c.k && !(c.k.eq .bt) && decide (c.r<A.sy.length) && aMr A l
def qA (K:List Nat):List (Nat × AV)->List (Nat × AV)
 | []=>[]
 | (k,x) :: l=>if has k K then (k,x) :: qA K l else qA K l
section
variable {α β γ:Type}
def fN (n:Nat)(k:Nat->α):α:=match n with|0=>k 0|m+1=>k (m+1)
def fI (x:Int)(k:Int->α):α:=match x with|.ofNat n=>fN n fun n=>k (.ofNat n)|.negSucc n=>fN n fun n=>k (.negSucc n)
def fB (b:Bool)(k:Bool->α):α:=match b with|true=>k true|false=>k false
def fL (f:β->(β->α)->α):List β->(List β->α)->α
 | [],k=>k []
 | x :: l,k=>f x fun x=>fL f l fun l=>k (x :: l)
def fO (f:β->(β->α)->α):Option β->(Option β->α)->α
 | none,k=>k none
 | some x,k=>f x fun x=>k (some x)
def fX (x:Ix)(k:Ix->α):α:=match x with|.u=>k .u|.k n=>fN n fun n=>k (.k n)|.v n=>fN n fun n=>k (.v n)
def fR (x:Rs)(k:Rs->α):α:=match x with|.bt=>k .bt|.ii=>k .ii|.st=>k .st|.rc t=>fN t fun t=>k (.rc t)
def fT (x:Ct)(k:Ct->α):α:=match x with|⟨s,n,g⟩=>fN s fun s=>fN n fun n=>fB g fun g=>k ⟨s,n,g⟩
def fC (x:CV)(k:CV->α):α:=match x with
 | .top=>k .top
 | .und=>k .und
 | .int a b=>fI a fun a=>fI b fun b=>k (.int a b)
 | .len a b=>fN a fun a=>fN b fun b=>k (.len a b)
 | .idx a b=>fN a fun a=>fN b fun b=>k (.idx a b)
 | .byte=>k .byte
 | .tv b=>fB b fun b=>k (.tv b)
 | .bl a b=>fL fT a fun a=>fL fT b fun b=>k (.bl a b)
 | .str=>k .str
 | .sl s=>fN s fun s=>k (.sl s)
 | .nil=>k .nil
 | .ptr a b=>fN a fun a=>fN b fun b=>k (.ptr a b)
 | .elp a r i b=>fN a fun a=>fR r fun r=>fX i fun i=>fN b fun b=>k (.elp a r i b)
def fA (x:AV)(k:AV->α):α:=match x with
 | .c x=>fC x fun x=>k (.c x)
 | .rc t=>fN t fun t=>k (.rc t)
 | .agg l=>fL fC l fun l=>k (.agg l)
 | .tup t x=>fN t fun t=>fC x fun x=>k (.tup t x)
def fF (x:SF)(k:SF->α):α:=match x with|⟨r,a,b,p,q,s,v⟩=>fR r fun r=>fN a fun a=>fN b fun b=>fB p fun p=>fB q fun q=>fB s fun s=>fO fN v fun v=>k ⟨r,a,b,p,q,s,v⟩
def fK (x:Bk)(k:Bk->α):α:=match x with
 | .cur=>k .cur
 | .cells T l=>fN T fun T=>fL fC l fun l=>k (.cells T l)
def fG (x:Cf)(k:Cf->α):α:=match x with|⟨s,r,i,p,q⟩=>fN s fun s=>fR r fun r=>fX i fun i=>fN p fun p=>fN q fun q=>k ⟨s,r,i,p,q⟩
def fP (x:Nat × AV)(k:Nat × AV->α):α:=match x with|(n,a)=>fN n fun n=>fA a fun a=>k (n,a)
def fS (A:AS)(k:AS->α):α:=match A with|⟨a,b,c,d,e,f,g⟩=>fL fP a fun a=>fL fF b fun b=>fL fK c fun c=>fN d fun d=>fL fG e fun e=>fL fG f fun f=>fB g fun g=>k ⟨a,b,c,d,e,f,g⟩
end
def aM8:List Oper->Bool
 | []=>true
 | o :: l=>(match o.op with
  | .alloc T=>(bY T TZ).isSome && o.guard.isNone
  | _=>true) && aM8 l
def region (G:Cfg)(A:AS)(ops:Array Oper)(dr:Bool):Option AS:=
 let l:=ops.toList
 let ms:=if dr then lO [] l else xT 0 l
 if aDg G.nt l && aM8 l then (uO G l ms A 0 l { A with nc:=[],bk:=A.bk++pre l } []).bind fun p=>if aCg ms p.2 0 p.2 && aMr p.1 (p.1.nc++p.1.cf) then fS { p.1 with sl:=qA G.keep (mX l p.2 p.1.sl),cf:=if yG p.2 then [] else p.1.nc++p.1.cf,nc:=[] } some else none else none
inductive Ex where
 | normal|exit (id:Nat)|ret
def refine:List Ct->AS->Option AS
 | [],A=>some A
 | c :: r,A=>match at? A.sy c.s with
  | some f=>if c.gt then (if decide (f.hi<=c.k) then none else refine r { A with sy:=put A.sy c.s { f with lo:=max f.lo (c.k+1) } })
   else (if decide (c.k<f.lo) then none else refine r { A with sy:=put A.sy c.s { f with hi:=min f.hi c.k } })
  | none=>none
abbrev Mp:=List (Option Nat)
structure Jn where
 keys:List (Option Nat × Option Nat)
 sy:List SF
def aOq (x y:Option Nat):Nat->List (Option Nat × Option Nat)->Option Nat
 | _,[]=>none
 | i,(a,b) :: l=>if oEq a x && oEq b y then some i else aOq x y (i+1) l
def aOt (f g:SF):Option SF:=if f.k.eq g.k then some { k:=f.k,lo:=min f.lo g.lo,hi:=max f.hi g.hi,own:=f.own && g.own,un:=f.un && g.un,c0:=f.c0 && g.c0 } else none
def aR4 (A:AS)(k:Rs):Option Nat->Option SF
 | some s=>at? A.sy s
 | none=>some { k:=k,lo:=0,hi:=0,own:=true,c0:=true }
def aKg (A B:AS):Option Nat->Option Nat->Rs
 | some s,_=>match at? A.sy s with|some f=>f.k|none=>.bt
 | none,some s=>match at? B.sy s with|some f=>f.k|none=>.bt
 | none,none=>.bt
def aCs (A B:AS)(x y:Option Nat)(J:Jn):Option (Nat × Jn):=
 match aOq x y 0 J.keys with
 | some i=>some (i,J)
 | none=>match aR4 A (aKg A B x y) x,aR4 B (aKg A B x y) y with
  | some f,some g=>(aOt f g).map fun h=>(J.keys.length,⟨J.keys++[(x,y)],J.sy++[h]⟩)
  | _,_=>none
def aOu (A B:AS)(x y:CV)(J:Jn):CV × Jn:=
 match x,y with
 | .sl s,.sl t=>match aCs A B (some s) (some t) J with|some (i,J)=>(.sl i,J)|none=>(.top,J)
 | .nil,.sl t=>match aCs A B none (some t) J with|some (i,J)=>(.sl i,J)|none=>(.top,J)
 | .sl s,.nil=>match aCs A B (some s) none J with|some (i,J)=>(.sl i,J)|none=>(.top,J)
 | .nil,.nil=>(.nil,J)
 | .und,.und=>(.und,J)
 | .byte,.byte=>(.byte,J)
 | .str,.str=>(.str,J)
 | .ptr b p,.ptr b' p'=>if b == b' && p == p' then (.ptr b p,J) else (.top,J)
 | .elp s k _ p,.elp t k' _ p'=>if k.eq k' && p == p' then match aCs A B (some s) (some t) J with|some (i,J)=>(.elp i k .u p,J)|none=>(.top,J) else (.top,J)
 | .tv b,.tv b'=>if b == b' then (.tv b,J) else (.bl [] [],J)
 | .tv _,.bl _ _=>(.bl [] [],J)
 | .bl _ _,.tv _=>(.bl [] [],J)
 | .bl _ _,.bl _ _=>(.bl [] [],J)
 | .idx s k,.idx t k'=>if k == k' then match aCs A B (some s) (some t) J with|some (i,J)=>(.idx i k,J)|none=>(.top,J) else (.top,J)
 | .len s k,.len t k'=>if k == k' then match aCs A B (some s) (some t) J with|some (i,J)=>(.len i k,J)|none=>(.top,J) else (.top,J)
 | x,y=>match A.rng x,B.rng y with
  | some (a,b),some (c,d)=>(.int (min a c) (max b d),J)
  | _,_=>(.top,J)
def aL3 (A B:AS):List CV->List CV->Jn->List CV × Jn
 | x :: l,y :: r,J=>let p:=aOu A B x y J;let q:=aL3 A B l r p.2;(p.1 :: q.1,q.2)
 | _,_,J=>([],J)
def aQ9 (A B:AS)(x y:AV)(J:Jn):AV × Jn:=
 match x,y with
 | .c x,.c y=>let p:=aOu A B x y J;(.c p.1,p.2)
 | .rc t,.rc t'=>if t == t' then (.rc t,J) else (.c .top,J)
 | .agg l,.agg r=>if l.length == r.length then (let p:=aL3 A B l r J;(.agg p.1,p.2)) else (.c .top,J)
 | _,_=>(.c .top,J)
def aFc (A B:AS):List (Nat × AV)->Jn->List (Nat × AV) × Jn
 | [],J=>([],J)
 | (n,x) :: l,J=>match bY n B.sl with
  | some y=>let p:=aQ9 A B x y J;let q:=aFc A B l p.2;((n,p.1) :: q.1,q.2)
  | none=>aFc A B l J
def aL4 (A B:AS):List Bk->List Bk->Jn->List Bk × Jn
 | .cur :: l,.cur :: r,J=>let q:=aL4 A B l r J;(.cur :: q.1,q.2)
 | .cells T x :: l,.cells T' y :: r,J=>if T == T' && x.length == y.length then (let p:=aL3 A B x y J;let q:=aL4 A B l r p.2;(.cells T p.1 :: q.1,q.2)) else ([],J)
 | _,_,J=>([],J)
def aPb (n:Nat):CV->CV
 | .ptr b p=>if decide (b<n) then .ptr b p else .top
 | x=>x
def aRp (n:Nat):AV->AV
 | .c x=>.c (aPb n x)
 | .agg l=>.agg (l.map (aPb n))
 | x=>x
def aOv (e:Nat)(A B:AS):AS:=
 let J0:Jn:=⟨(List.range e).map fun i=>(some i,some i),(A.sy.zip B.sy).take e |>.map fun p=>((aOt p.1 p.2).getD p.1)⟩
 let p:=aL4 A B A.bk B.bk J0
 let q:=aFc A B A.sl p.2
 fS ⟨q.1.map fun z=>(z.1,aRp p.1.length z.2),q.2.sy,p.1,0,[],[],A.tg && B.tg⟩ fun x=>x
def sEq (m:Mp)(i s:Nat):Bool:=match at? m i with|some (some t)=>t == s|_=>false
def leC (B:AS)(m:Mp)(x y:CV):Bool:=
 match x with
 | .top=>true
 | .und=>match y with|.und=>true|_=>false
 | .int lo hi=>match B.rng y with|some (a,b)=>decide (lo<=a) && decide (b<=hi)|none=>false
 | .len s k=>match y with|.len t k'=>sEq m s t && k == k'|_=>false
 | .idx s k=>match y with|.idx t k'=>sEq m s t && k == k'|_=>false
 | .byte=>match y with|.byte=>true|_=>false
 | .tv b=>match y with|.tv b'=>b == b'|_=>false
 | .bl [] []=>isB y
 | .bl t f=>false
 | .str=>match y with|.str=>true|_=>false
 | .sl s=>match y with|.sl t=>sEq m s t|.nil=>(match at? m s with|some none=>true|_=>false)|_=>false
 | .nil=>match y with|.nil=>true|_=>false
 | .ptr b p=>match y with|.ptr b' p'=>b == b' && p == p'|_=>false
 | .elp s k .u p=>match y with|.elp t k' _ p'=>sEq m s t && k.eq k' && p == p'|_=>false
 | .elp _ _ _ _=>false
def leL (B:AS)(m:Mp):List CV->List CV->Bool
 | [],[]=>true
 | x :: l,y :: r=>leC B m x y && leL B m l r
 | _,_=>false
def leA (B:AS)(m:Mp)(x y:AV):Bool:=
 match x,y with
 | .c .top,_=>true
 | .c x,.c y=>leC B m x y
 | .rc t,.rc t'=>t == t'
 | .agg l,.agg r=>leL B m l r
 | _,_=>false
def aPz (B:AS)(m:Mp):List (Nat × AV)->Bool
 | []=>true
 | (n,x) :: l=>(match bY n B.sl with|some y=>leA B m x y|none=>false) && aPz B m l
def leB (B:AS)(m:Mp):List Bk->List Bk->Bool
 | [],_=>true
 | .cur :: l,.cur :: r=>leB B m l r
 | .cells T x :: l,.cells T' y :: r=>T == T' && leL B m x y && leB B m l r
 | _,_=>false
def leF (f g:SF):Bool:=f.k.eq g.k && decide (f.lo<=g.lo) && decide (g.hi<=f.hi) && (!f.own || g.own) && (!f.un || g.un) && (!f.c0 || g.c0) && f.abv.isNone
def aM6 (B:AS):Mp->List SF->Bool
 | [],[]=>true
 | some s :: m,f :: l=>(match at? B.sy s with|some g=>leF f g|none=>false) && aM6 B m l
 | none :: m,f :: l=>f.lo == 0 && !f.un && f.abv.isNone && aM6 B m l
 | _,_=>false
def aP0:Nat->Nat->Mp->Bool
 | 0,_,_=>true
 | e+1,i,some s :: m=>s == i && aP0 e (i+1) m
 | _,_,_=>false
def aJ1 (A:AS):Bool:=A.sl.all (fun p=>p.2.bs.all fun b=>Nat.blt b A.bk.length) && A.bk.all (fun x=>x.bs.all fun b=>Nat.blt b A.bk.length)
def le (eb e:Nat)(A B:AS)(m:Mp):Bool:=aPz B m A.sl && leB B m A.bk B.bk && aM6 B m A.sy && aP0 e 0 m && (!A.tg || B.tg) && (match A.cf with|[]=>true|_=>false) && Nat.ble eb A.bk.length && aJ1 A
def aR7:CV->CV->Mp->Mp
 | .sl s,.sl t,m=>put m s (some t)
 | .sl s,.nil,m=>put m s none
 | .len s _,.len t _,m=>put m s (some t)
 | .idx s _,.idx t _,m=>put m s (some t)
 | .elp s _ _ _,.elp t _ _ _,m=>put m s (some t)
 | _,_,m=>m
def aQ5:List CV->List CV->Mp->Mp
 | x :: l,y :: r,m=>aQ5 l r (aR7 x y m)
 | _,_,m=>m
def aSz:AV->AV->Mp->Mp
 | .c x,.c y,m=>aR7 x y m
 | .agg l,.agg r,m=>aQ5 l r m
 | _,_,m=>m
def aLy (B:AS):List (Nat × AV)->Mp->Mp
 | [],m=>m
 | (n,x) :: l,m=>match bY n B.sl with|some y=>aLy B l (aSz x y m)|none=>aLy B l m
def aQ6:List Bk->List Bk->Mp->Mp
 | .cells _ x :: l,.cells _ y :: r,m=>aQ6 l r (aQ5 x y m)
 | _ :: l,_ :: r,m=>aQ6 l r m
 | _,_,m=>m
def aIe (e:Nat)(A B:AS):Mp:=aLy B A.sl (aQ6 A.bk B.bk ((List.range A.sy.length).map fun i=>if decide (i<e) then some i else none))
def aL5 (e:Nat):List AS->Option AS
 | []=>none
 | A :: l=>some (l.foldl (aOv e) (aOv e A A))
def all (eb e:Nat)(J:AS):List AS->Bool
 | []=>true
 | A :: l=>le eb e J A (aIe e J A) && all eb e J l
def aIa (eb e:Nat)(l:List AS):Option AS:=(aL5 e l).bind fun J=>if all eb e J l then some J else none
def pV:List (Ex × AS)->List AS
 | []=>[]
 | (.normal,A) :: l=>A :: pV l
 | _ :: l=>pV l
def uV:List (Ex × AS)->List (Ex × AS)
 | []=>[]
 | (.normal,_) :: l=>uV l
 | p :: l=>p :: uV l
def xZ (id:Nat):List (Ex × AS)->List AS
 | []=>[]
 | (.normal,A) :: l=>A :: xZ id l
 | (.exit i,A) :: l=>if i == id then A :: xZ id l else xZ id l
 | _ :: l=>xZ id l
def stays (id:Nat):List (Ex × AS)->List (Ex × AS)
 | []=>[]
 | (.normal,_) :: l=>stays id l
 | (.exit i,A) :: l=>if i == id then stays id l else (.exit i,A) :: stays id l
 | p :: l=>p :: stays id l
def aHh (f:AS->Option (List (Ex × AS))):List AS->Option (List (Ex × AS))
 | []=>some []
 | A :: l=>(f A).bind fun x=>(aHh f l).map fun y=>x++y
def rounds (eb e:Nat)(f:AS->Option (List (Ex × AS))):Nat->List AS->Option (List (Ex × AS))
 | _,[]=>some []
 | 0,_ :: _=>none
 | n+1,A :: l=>(aIa eb e (A :: l)).bind fun H=>(f H).bind fun x=>(rounds eb e f n (pV x)).map fun y=>uV x++y
def qO (G:Cfg)(eb e:Nat):Nat->Code->AS->Option (List (Ex × AS))
 | 0,_,_=>none
 | n+1,c,A=>match c with
  | .skip=>some [(.normal,A)]
  | .label _=>some [(.normal,A)]
  | .region _ ops dr=>(region G A ops dr).map fun B=>[(.normal,B)]
  | .seq x y=>(qO G eb e n x A).bind fun l=>(aHh (qO G eb e n y) (pV l)).map fun r=>uV l++r
  | .cond c x y=>match A.ev c with
   | .c (.tv true)=>qO G eb e n x A
   | .c (.tv false)=>qO G eb e n y A
   | .c (.bl t f)=>(match refine t A with|some B=>fS B (qO G eb e n x)|none=>some []).bind fun l=>(match refine f A with|some B=>fS B (qO G eb e n y)|none=>some []).map fun r=>l++r
   | _=>none
  | .block id b=>(qO G eb e n b A).bind fun l=>match xZ id l with
   | []=>some (stays id l)
   | B :: r=>(aIa eb e (B :: r)).map fun J=>(.normal,J) :: stays id l
  | .loop b=>rounds eb e (qO G eb e n b) 30 [A]
  | .exit id=>some [(.exit id,A)]
  | .ret=>some [(.ret,A)]
  | _=>none
def aQk (A:AS):ResultVar->Option AV
 | .tmp t=>bY t A.sl
 | .cell t T=>match bY t A.sl,cells T with
  | some (.c (.ptr b 0)),some n=>match at? A.bk b with
   | some (.cells _ l)=>if n == 1 then none else if l.length == n then some (.agg l) else none
   | _=>none
  | _,_=>none
def aH3 (A:AS)(st:Bool):CV->Bool
 | .nil=>true
 | .sl s=>match at? A.sy s with
  | some f=>f.own || !st
  | none=>false
 | _=>false
def aHw (A:AS)(st:Bool):RP->List AV->Bool
 | .int lo hi,[.c x]=>match A.rng x with
  | some (a,b)=>decide (lo<=a) && decide (b<=hi)
  | none=>false
 | .bool,[.c x]=>isB x
 | .sl k lo hi,[.c x]=>A.sOk k lo hi x && aH3 A st x
 | .num,[.agg [x,y,.nil,.nil,.nil]]=>A.fit .n x && A.fit .n y
 | .vr,[.agg [x,y,.nil,z,.nil]]=>A.fit .n x && A.fit .n y && A.fit (.b 4) z
 | .rc t,[v]=>A.fitE (.rc t) v && (match v with|.c _=>false|_=>true)
 | .tb t,[v,.c x]=>A.fitE (.rc t) v && (match v with|.c _=>false|_=>true) && isB x
 | .ts t k lo hi,[v,.c x]=>A.fitE (.rc t) v && (match v with|.c _=>false|_=>true) && A.sOk k lo hi x && aH3 A st x
 | _,_=>false
def pN (A:AS):List ResultVar->Option (List AV)
 | []=>some []
 | r :: l=>(aQk A r).bind fun x=>(pN A l).map fun y=>x :: y
def aF7 (fn:Func)(st:Bool)(res:RP):List (Ex × AS)->Bool
 | []=>true
 | (.exit _,_) :: _=>false
 | (_,A) :: l=>(match pN A fn.results.toList with|some vs=>aHw A st res vs|none=>false) && aF7 fn st res l
def number:Nat->List AV->List (Nat × AV)
 | _,[]=>[]
 | i,x :: l=>(i,x) :: number (i+1) l
end Eg
namespace Eg
def aAb (P:Program)(T:Nat):Option (Nat × Nat × Value):=match P.info? T with
  | some i=>match i.zero with|some z=>some (i.size,i.bytes,z)|none=>none
  | none=>none
def mZ (P:Program)(fs:Array Field)(ds:List Nat):Nat->Bool
  | 0=>true
  | n+1=>(match fs[n]?,at? ds n with
    | some f,some d=>f.offset == d && (match P.info? f.type with|some fi=>fi.size != 0|none=>false)
    | _,_=>false) && mZ P fs ds n
def aRt:CV->CV->Bool
  | .top,.top=>true
  | .int a b,.int c d=>decide (a=c) && decide (b=d)
  | .nil,.nil=>true
  | .tv a,.tv b=>a == b
  | _,_=>false
def aI7:List CV->List CV->Bool
  | [],[]=>true
  | x :: l,y :: r=>aRt x y && aI7 l r
  | _,_=>false
def pEq:List (Nat × Nat)->List (Nat × Nat)->Bool
  | [],[]=>true
  | (a,b) :: l,(c,d) :: r=>a == c && b == d && pEq l r
  | _,_=>false
theorem aJ4:∀{l r:List (Nat × Nat)},pEq l r=true->l=r
  | [],[],_=>rfl
  | _ :: _,[],h=>by cases h
  | [],_ :: _,h=>by cases h
  | (a,b) :: l,(c,d) :: r,h=>by
    simp only[pEq,zC0,beq_iff_eq]at h;rw[h.1.1,h.1.2,aJ4 h.2]
def aHd (P:Program):List (Nat × List CV × List Nat)->Bool
  | []=>true
  | (T,z,ds) :: l=>(match P.underlying T,aAb P T with
    | some (.struct fs),some (n,b,.agg cs)=>fs.size == ds.length && mZ P fs ds ds.length && n == z.length && cs.size == n && aI7 (cs.toList.map aGv) z && decide (1<n) && decide (b<=1000) && (match fs.toList.mapM (fun f=>(P.info? f.type).map fun i=>(f.offset,i.size)) with|some ps=>pEq ps (plc n ds)|none=>false)
    | _,_=>false) && aHd P l
def aHj (P:Program):List Nat->Bool
  | []=>true
  | T :: l=>(match P.underlying T,P.info? T with
    | some (.struct _),_=>false
    | some (.array _ _),_=>false
    | some _,some i=>i.size == 1
    | _,_=>false) && aHj P l
def aHp (P:Program):List (Nat × Nat)->Bool
  | []=>true
  | (T,e) :: l=>(match P.underlying T with
    | some (.slice e')=>e' == e
    | _=>false) && aHp P l
def aKh (P:Program)(k:Rs):Bool:=match aAb P k.ty with
  | some (n,b,z)=>n == k.k && z.cells.size == n && decide (b<=1000)
  | none=>false
def aIi (P:Program):Nat->Bool
  | 0=>true
  | n+1=>aKh P (.rc n) && aIi P n
theorem wM:aHd Tryz.prog TZ=true:=by kernel_rfl
theorem aNk:aHj Tryz.prog T1=true:=by kernel_rfl
theorem aQj:aHp Tryz.prog SE=true:=by kernel_rfl
theorem aS1:(aKh Tryz.prog .bt && aKh Tryz.prog .ii && aKh Tryz.prog .st && aIi Tryz.prog 18)=true:=by kernel_rfl
theorem qC {T n b:Nat}{z:Value}(h:aAb Tryz.prog T=some (n,b,z)):(Tryz.prog.info? T).map (fun i=>(i.zero,i.size,i.bytes))=some (some z,n,b):=by
  unfold aAb at h
  split at h
  . rename_i i hi
    split at h
    . rename_i z' hz
      simp only[zG2,Prod.mk.injEq]at h;obtain⟨rfl,rfl,rfl⟩:=h;rw[hi];simp[hz]
    . cases h
  . cases h
theorem sW:∀(n:Nat),aIi Tryz.prog n=true->∀t,t<n->aKh Tryz.prog (.rc t)=true
  | 0,_,t,ht=>by omega
  | n+1,h,t,ht=>by
    simp only[aIi,zC0]at h
    by_cases e:t=n
    . subst e;exact h.1
    . exact sW n h.2 t Q0
theorem aPu (t:Nat)(h:18<=t):Dt t=Dt 0:=by
  unfold Dt
  split <;> first|omega|rfl
theorem aIl (k:Rs):aKh Tryz.prog k=true:=by
  have h:=aS1;simp only[zC0]at h
  cases k with
  | bt=>exact h.1.1.1
  | ii=>exact h.1.1.2
  | st=>exact h.1.2
  | rc t=>
    by_cases ht:t<18
    . exact sW 18 h.2 t ht
    . have e:=aPu t Q0
      have h0:=sW 18 h.2 0 Q0;unfold aKh Rs.ty Rs.k at *;simp only[e];exact h0
theorem aIk (k:Rs):∃z b,(Tryz.prog.info? k.ty).map (fun i=>(i.zero,i.size,i.bytes))=some (some z,k.k,b)/\z.cells.size=k.k/\b<=1000:=by
  have h:=aIl k;unfold aKh at h
  split at h
  . rename_i n b z hi
    simp only[zC0,beq_iff_eq,zE3]at h;obtain⟨⟨h1,h2⟩,h3⟩:=h;subst h1;exact⟨z,b,qC hi,h2,h3⟩
  . cases h
theorem aR5:∀{l:List (Nat × Nat)},aHp Tryz.prog l=true->∀{T e:Nat},bY T l=some e->Tryz.prog.underlying T=some (.slice e)
  | [],_,_,_,h=>by cases h
  | (k,x) :: l,hc,T,e,h=>by
    simp only[aHp,zC0]at hc;simp only[bY]at h
    split at h
    . rename_i hk
      simp only[beq_iff_eq]at hk;subst hk;cases h;have h1:=hc.1
      split at h1
      . rename_i e' he
        simp only[beq_iff_eq]at h1;subst h1;exact he
      . cases h1
    . exact aR5 hc.2 h
theorem oT {T e:Nat}(h:bY T SE=some e):Tryz.prog.underlying T=some (.slice e):=aR5 aQj h
theorem eK {α:Type}:∀(l:List α) (n:Nat),at? l n=l[n]?
  | [],_=>by simp[at?]
  | _ :: _,0=>rfl
  | _ :: l,n+1=>by rw[at?,List.getElem?_cons_succ];exact eK l n
theorem aEe {α:Type}:∀(l:List α) (n:Nat) (y:α),put l n y=l.set n y
  | [],_,_=>rfl
  | _ :: _,0,_=>rfl
  | _ :: l,n+1,y=>by rw[put,List.set_cons_succ,aEe l n y]
theorem qE {fs:Array Field}{ds:List Nat}:∀(n:Nat),mZ Tryz.prog fs ds n=true->∀j,j<n->∃f d fi,fs[j]?=some f/\at? ds j=some d/\f.offset=d/\Tryz.prog.info? f.type=some fi/\fi.size ≠ 0
  | 0,_,j,hj=>by omega
  | n+1,h,j,hj=>by
    simp only[mZ,zC0]at h
    by_cases e:j=n
    . subst e
      have h1:=h.1
      split at h1
      . rename_i f d h2 h3
        simp only[zC0,beq_iff_eq]at h1;obtain⟨h4,h5⟩:=h1
        split at h5
        . rename_i fi hfi
          exact⟨f,d,fi,h2,h3,h4,hfi,by simpa using h5⟩
        . cases h5
      . cases h1
    . exact qE n h.2 j Q0
theorem aMp:∀{x y:CV},aRt x y=true->x=y:=by
  intro x y h
  cases x <;> cases y <;> simp_all[aRt]
theorem aAt:∀{l r:List CV},aI7 l r=true->l=r
  | [],[],_=>rfl
  | _ :: _,[],h=>by cases h
  | [],_ :: _,h=>by cases h
  | x :: l,y :: r,h=>by
    simp only[aI7,zC0]at h;rw[aMp h.1,aAt h.2]
theorem aJu:∀{l:List (Nat × List CV × List Nat)},aHd Tryz.prog l=true->∀{T:Nat} {z:List CV} {ds:List Nat},bY T l=some (z,ds)->∃fs b cs,Tryz.prog.underlying T=some (.struct fs)/\fs.size=ds.length/\mZ Tryz.prog fs ds ds.length=true ∧
      (Tryz.prog.info? T).map (fun i=>(i.zero,i.size,i.bytes))=some (some (.agg cs),z.length,b)/\cs.size=z.length/\cs.toList.map aGv=z/\1<z.length/\fs.toList.mapM (fun f=>(Tryz.prog.info? f.type).map fun i=>(f.offset,i.size))=some (plc z.length ds)
  | [],_,_,_,_,h=>by cases h
  | (k,x,y) :: l,hc,T,z,ds,h=>by
    simp only[aHd,zC0]at hc;simp only[bY]at h
    split at h
    . rename_i hk
      simp only[beq_iff_eq]at hk;subst hk;simp only[zG2,Prod.mk.injEq]at h;obtain⟨rfl,rfl⟩:=h;have h1:=hc.1
      split at h1
      . rename_i fs n b cs h2 h3
        simp only[zC0,beq_iff_eq,zE3]at h1;obtain⟨⟨⟨⟨⟨⟨⟨a1,a2⟩,a3⟩,a4⟩,a5⟩,a6⟩,a7⟩,a8⟩:=h1;subst a3;refine⟨fs,b,cs,h2,a1,a2,qC h3,a4,aAt a5,a6, ?_⟩
        split at a8
        . rename_i ps hps
          rw[hps,aJ4 a8]
        . cases a8
      . cases h1
    . exact aJu hc.2 h
theorem aQc:∀{l:List Nat},aHj Tryz.prog l=true->∀{T:Nat},has T l=true->∃d i,Tryz.prog.underlying T=some d/\(∀fs,d ≠ .struct fs)/\(∀n e,d ≠ .array n e)/\Tryz.prog.info? T=some i/\i.size=1
  | [],_,_,h=>by cases h
  | k :: l,hc,T,h=>by
    simp only[aHj,zC0]at hc;simp only[has,Bool.or_eq_true,beq_iff_eq]at h
    rcases h with rfl|h
    . have h1:=hc.1
      split at h1
      . cases h1
      . cases h1
      . rename_i d i n1 n2 hu hi
        simp only[beq_iff_eq]at h1
        exact⟨d,i,hu,fun fs e=>n1 fs (by rw[e]),fun n e e'=>n2 n e (by rw[e']),hi,h1⟩
      . cases h1
    . exact aQc hc.2 h
end Eg
theorem Q62{p:Prop}(h:p:=by rw[hup]at e;cases e):p:=h
theorem Q71{p:Prop}(h:p:=by rw[hnb]at e;cases e):p:=h
theorem Q79{p:Prop}(h:p:=by simp[at?]at hq):p:=h
theorem U62{p:Prop}(h:p:=by
 cases x <;> simp only[AS.fitE,Bool.false_eq_true]at hf
 rename_i y
 cases y <;> simp at hf
 obtain⟨n,rfl,h1⟩:=hx
 exact⟨n,rfl,h1⟩):p:=h
theorem U89{p:Prop}(h:p:=by
 obtain⟨n,rfl,h1,h2⟩:=kD h hx hs hr
 unfold mn mx at hf
 exact⟨n,rfl,by unfold I64;omega⟩):p:=h
namespace Eg
structure Kn (C:Cx) (U:Value->Prop) (A:AS) (S B X:Nat->Prop) (τ:Sm) (V:Vl) (w:World):Prop where
 fr:Fr C τ w
 sy:∀s f,at? A.sy s=some f->S s->f.ok C U τ V (V.ρ s)
 sc:∀s f,at? A.sy s=some f->S s->∀t ∈ f.sy,S t
 bk:∀n x,at? A.bk n=some x->B n->x.ok V w (V.β n)/\τ (V.β n)=none/\V.β n<w.heap.size/\(V.β n ∈ C.K\/C.w0.heap.size<=V.β n)
 bc:∀n x,at? A.bk n=some x->B n->(∀s ∈ x.sy,S s)/\(∀m ∈ x.bs,B m)/\(∀c ∈ x.is,X c)
 dj:∀n m x y,at? A.bk n=some x->at? A.bk m=some y->B n->B m->n ≠ m->V.β n ≠ V.β m
 lo:∀n,at? A.bk n=some .cur->B n->V.β n<=C.w0.heap.size/\∀b,b<V.β n->τ b=none/\b ∉ C.K
 tg:A.tg=true->Tg τ
 cu:∀n,at? A.bk n=some .cur->n=0
structure Res (C:Cx) (U:Value->Prop) (A:AS) (u:Out) (S B X:Nat->Prop) (τ:Sm) (V:Vl) (w:World) (v:Value) (τ':Sm) (V':Vl) (w':World):Prop where
 fr:Fr C τ' w'
 sub:Sub τ τ'
 size:w.heap.size<=w'.heap.size
 non:∀b,b<w.heap.size->τ b=none->τ' b=none
 qt:u.nq=false->∀b s,τ b=some s->s.k ≠ .bt->w'.heap[b]?=w.heap[b]?
 tg:u.br=false->Tg τ->Tg τ'
 ρ:∀s,S s->V'.ρ s=V.ρ s
 β:∀n,B n->V'.β n=V.β n
 ι:∀c,X c->V'.ι c=V.ι c
 ns:∀q f,at? u.ns q=some f->f.ok C U τ' V' (V'.ρ (A.sy.length+q))
 r:u.r.ok τ' V' v
 old:∀n x,B n->at? A.bk n=some x->(∀l,u.up ≠ some (n,l))->x.ok V' w' (V'.β n)
 up:∀n l T x,u.up=some (n,l)->at? A.bk n=some (.cells T x)->B n->(Bk.cells T l).ok V' w' (V'.β n)
 nb:∀x,u.nb=some x->x.ok V' w' (V'.β A.bk.length)/\τ' (V'.β A.bk.length)=none/\w.heap.size<=V'.β A.bk.length/\V'.β A.bk.length<w'.heap.size/\x ≠ .cur
 nc:∀c ∈ u.nc,c.ok V' w'
theorem Kn.blkOn {C:Cx}{U:Value->Prop}{A:AS}{S B X:Nat->Prop}{τ:Sm}{V V':Vl}{w w':World}(h:Kn C U A S B X τ V w)(hρ:∀s,S s->V'.ρ s=V.ρ s)(hβ:∀n,B n->V'.β n=V.β n)(hι:∀c,X c->V'.ι c=V.ι c){n:Nat}{x:Bk}(hn:B n)(hx:at? A.bk n=some x)(he:∀b,b<=V.β n->w'.heap[b]?=w.heap[b]?\/(x ≠ .cur/\b ≠ V.β n)):x.ok V' w' (V'.β n):=by
 rw[hβ n hn];have h1:=(h.bk n x hx hn).1;obtain⟨c1,c2,c3⟩:=h.bc n x hx hn
 refine Bk.on ?_ (fun s hs=>hρ s (c1 s hs)) (fun b hb=>hβ b (c2 b hb)) (fun c hc=>hι c (c3 c hc))
 cases x with
 | cur=>exact Cur.on h1 fun b hb=>(he b hb).resolve_right (fun hc=>hc.1 rfl)
 | cells T l=>
  obtain⟨vs,e,h2⟩:=h1
  exact⟨vs,((he _ (zB0 _)).resolve_right (fun hc=>hc.2 rfl)).trans e,h2⟩
theorem Res.same {C:Cx}{U:Value->Prop}{A:AS}{u:Out}{S B X:Nat->Prop}{τ:Sm}{V V':Vl}{w:World}{v:Value}(h:Kn C U A S B X τ V w)(hup:u.up=none)(hnb:u.nb=none)(hρ:∀s,S s->V'.ρ s=V.ρ s)(hβ:∀n,B n->V'.β n=V.β n)(hι:∀c,X c->V'.ι c=V.ι c)
  (hns:∀q f,at? u.ns q=some f->f.ok C U τ V' (V'.ρ (A.sy.length+q))) (hr:u.r.ok τ V' v) (hnc:∀c ∈ u.nc,c.ok V' w):Res C U A u S B X τ V w v τ V' w:=
 ⟨h.fr,Sub.refl _,zB0 _,fun _ _ h=>h,fun _ _ _ _ _=>rfl,fun _ h=>h,hρ,hβ,hι,hns,hr,fun n x hn hx _=>h.blkOn hρ hβ hι hn hx fun _ _=>.inl rfl,fun n l T x e=> Q62,fun x e=> Q71,hnc⟩
theorem Res.pure {C:Cx}{U:Value->Prop}{A:AS}{r:AV}{nt nm:Bool}{S B X:Nat->Prop}{τ:Sm}{V:Vl}{w:World}{v:Value}(h:Kn C U A S B X τ V w)(hr:r.ok τ V v):Res C U A { r:=r,nt:=nt,nm:=nm } S B X τ V w v τ V w:=
 Res.same h rfl rfl (fun _ _=>rfl) (fun _ _=>rfl) (fun _ _=>rfl) (fun q f hq=> Q79) hr (fun c hc=>by cases hc)
def Vl.add (V:Vl)(c:Nat)(us:List Value):Vl:={ V with ρ:=fun s=>if c<=s then (us[s-c]?).getD (V.ρ s) else V.ρ s }
theorem Vl.add_at {V:Vl}{c q:Nat}{us:List Value}{u:Value}(h:us[q]?=some u):(V.add c us).ρ (c+q)=u:=by
 show(if c<=c+q then _ else _)=u
 rw[if_pos Q0,Nat.add_sub_cancel_left,h]
 rfl
theorem Vl.add_ne {V:Vl}{c s:Nat}{us:List Value}(h:∀q,q<us.length->s ≠ c+q):(V.add c us).ρ s=V.ρ s:=by
 show(if c<=s then _ else _)=_
 split
 .
  rw[List.getElem?_eq_none]
  .
   rfl
  .
   rcases zJ3 (s-c) us.length with h'|h'
   .
    exact absurd Q0 (h (s-c) h')
   .
    exact h'
 .
  rfl
theorem aJs {o:Oper}{a:Act}{w w':World}{v:Value}{K:Act->World->Prop}{Q:Exit->Act->World->Prop}(h:(execOp a.eval o).run Tryz.prog w=.ok (.value v) w')(hk:K (a.put o.dst v) w'):o.wp Tryz.prog a w K Q:=by
 unfold Oper.wp;rw[h];exact hk
theorem aKw {o:Oper}{a:Act}{w w':World}{K:Act->World->Prop}{Q:Exit->Act->World->Prop}(h:(execOp a.eval o).run Tryz.prog w=.ok .skip w')(hk:K (a.put o.dst undef) w'):o.wp Tryz.prog a w K Q:=by
 unfold Oper.wp;rw[h];exact hk
theorem aGt (V:Vl)(v:Value):(aGv v).ok V v:=by
 unfold aGv
 split
 .
  rename_i n;exact⟨n,rfl,Int.le_refl _,Int.le_refl _⟩
 .
  rename_i n
  split
  .
   rename_i h
   simp only[zC0,zE3]at h;exact⟨n,rfl,h.1,h.2⟩
  .
   exact trivial
 .
  rfl
 .
  rename_i s
  split
  .
   rename_i h
   exact⟨s,rfl,by simpa using h⟩
  .
   exact trivial
 .
  rfl
 .
  exact trivial
theorem tQ (V:Vl):∀(l:List Value),iD V (l.map aGv) l
 | []=>rfl
 | v :: l=>⟨v,l,rfl,aGt V v,tQ V l⟩
theorem aGr (τ:Sm)(V:Vl)(v:Value):(aPp v).ok τ V v:=by
 unfold aPp
 split
 .
  rename_i cs;exact⟨cs.toList,by simp,tQ V _⟩
 .
  exact aGt V v
theorem kD {C:Cx}{U:Value->Prop}{A:AS}{S B X:Nat->Prop}{τ:Sm}{V:Vl}{w:World}(h:Kn C U A S B X τ V w){x:CV}{v:Value}(hx:x.ok V v)(hs:∀s ∈ x.sy,S s){lo hi:Int}(hr:A.rng x=some (lo,hi)):∃n,v=.int .i64 n/\lo<=n/\n<=hi:=by
 cases x with
 | int a b=>
  simp only[AS.rng,zG2,Prod.mk.injEq]at hr;obtain⟨rfl,rfl⟩:=hr;exact hx
 | len s k=>
  simp only[AS.rng,zF0,Prod.mk.injEq]at hr;obtain⟨f,hf,rfl,rfl⟩:=hr;obtain⟨h1,h2,h3,_⟩:=h.sy s f hf (hs s Q50)
  exact⟨_,hx,by omega,by omega⟩
 | idx s k=>
  simp only[AS.rng,zF0,Prod.mk.injEq]at hr;obtain⟨f,hf,rfl,rfl⟩:=hr;obtain⟨h1,h2,h3,_⟩:=h.sy s f hf (hs s Q50);obtain⟨n,rfl,hn⟩:=hx
  exact⟨_,rfl,by omega,by omega⟩
 | _=>simp[AS.rng]at hr
theorem Rs.eq_eq {a b:Rs}(h:a.eq b=true):a=b:=by
 cases a <;> cases b <;> simp_all[Rs.eq]
theorem aKc:ln (.slice none 0 0)=0:=rfl
theorem oJ {C:Cx}{U:Value->Prop}{A:AS}{S B X:Nat->Prop}{τ:Sm}{V:Vl}{w:World}(h:Kn C U A S B X τ V w){f:Fd}{x:CV}{v:Value}(hx:x.ok V v)(hs:∀s ∈ x.sy,S s)(hf:A.fit f x=true):FV τ f v:=by
 have slc:∀(s:Nat) (k:Rs) (lo m:Nat),x=.sl s->(∀g,at? A.sy s=some g->g.k=k->lo<=g.lo->g.hi<=m->∃n,(lo<=n/\n<=m)/\SV τ k n v):=by
  intro s k lo m e g hg hk h1 h2;subst e;obtain⟨a1,a2,a3,_⟩:=h.sy s g hg (hs s Q50)
  have hv:v=V.ρ s:=hx
  rw[<-hv]at a1 a2 a3;subst hk
  exact⟨ln v,⟨by omega,by omega⟩,a1⟩
 cases f with
 | n=>
  simp only[AS.fit]at hf
  split at hf
  .
   rename_i lo hi hr
   simp only[zC0,zE3]at hf;exact U89
  .
   cases hf
 | t=>
  cases x <;> simp[AS.fit]at hf
  .
   exact⟨_,hx⟩
  .
   obtain⟨b,rfl,_⟩:=hx;exact⟨b,rfl⟩
 | b m=>
  cases x <;> simp only[AS.fit,Bool.false_eq_true]at hf
  .
   rename_i s
   split at hf
   .
    rename_i f hg
    simp only[zC0,zE3]at hf;obtain⟨n,⟨_,h1⟩,h2⟩:=slc s .bt 0 m rfl f hg (Rs.eq_eq hf.1) (zD1 _) hf.2;exact⟨n,h1,h2⟩
   .
    cases hf
  .
   exact⟨0,zD1 _,by rw[show v=_ from hx];exact SV.nil _⟩
 | i m=>
  cases x <;> simp only[AS.fit,Bool.false_eq_true]at hf
  .
   rename_i s
   split at hf
   .
    rename_i f hg
    simp only[zC0,zE3]at hf;obtain⟨n,⟨_,h1⟩,h2⟩:=slc s .ii 0 m rfl f hg (Rs.eq_eq hf.1) (zD1 _) hf.2;exact⟨n,h1,h2⟩
   .
    cases hf
  .
   exact⟨0,zD1 _,by rw[show v=_ from hx];exact SV.nil _⟩
 | l t lo m=>
  cases x <;> simp only[AS.fit,Bool.false_eq_true]at hf
  .
   rename_i s
   split at hf
   .
    rename_i f hg
    simp only[zC0,zE3]at hf;exact slc s (.rc t) lo m rfl f hg (Rs.eq_eq hf.1.1) hf.1.2 hf.2
   .
    cases hf
  .
   simp only[beq_iff_eq]at hf;subst hf
   exact⟨0,⟨zB0 _,zD1 _⟩,by rw[show v=_ from hx];exact SV.nil _⟩
theorem tB {C:Cx}{U:Value->Prop}{A:AS}{S B X:Nat->Prop}{τ:Sm}{V:Vl}{w:World}(h:Kn C U A S B X τ V w):∀{r:List Fd} {l:List CV} {vs:List Value},iD V l vs->(∀s ∈ l.flatMap CV.sy,S s)->A.fits r l=true->RV τ r vs
 | [],[],_,hx,_,_=>hx
 | [],_ :: _,_,_,_,hf=>by cases hf
 | _ :: _,[],_,_,_,hf=>by cases hf
 | f :: r,x :: l,_,⟨v,us,e,h1,h2⟩,hs,hf=>by
  simp only[AS.fits,zC0]at hf
  exact⟨v,us,e,oJ h h1 (fun s hm=>hs s Q30) hf.1,tB h h2 (fun s hm=>hs s Q28) hf.2⟩
theorem aFs {C:Cx}{U:Value->Prop}{A:AS}{S B X:Nat->Prop}{τ:Sm}{V:Vl}{w:World}(h:Kn C U A S B X τ V w){k:Rs}{x:AV}{v:Value}(hx:x.ok τ V v)(hs:∀s ∈ x.sy,S s)(hf:A.fitE k x=true):EV τ false k v.cells.toList:=by
 cases k with
 | bt=>
  exact U62
 | ii=>
  cases x <;> simp only[AS.fitE,Bool.false_eq_true]at hf
  rename_i y
  split at hf
  .
   rename_i lo hi hr
   simp only[zC0,zE3]at hf;exact U89
  .
   cases hf
 | st=>
  exact U62
 | rc t=>
  show RV τ (Dt t).2 v.cells.toList
  cases x with
  | c y=>
   simp only[AS.fitE]at hf
   split at hf
   .
    rename_i f hd
    rw[hd]
    have:=oJ h hx hs hf
    have h1:=this.one
    have h2:v.cells=#[v]:=by cases v <;> first|rfl|(simp[Value.oneCell']at h1)
    rw[h2];exact⟨v,[],rfl,this,rfl⟩
   .
    cases hf
  | rc t'=>
   simp only[AS.fitE,zC0,beq_iff_eq]at hf;obtain⟨rfl,_⟩:=hf;obtain⟨vs,rfl,h1⟩:=hx;exact h1
  | agg l=>
   simp only[AS.fitE,zC0]at hf;obtain⟨vs,rfl,h1⟩:=hx;exact tB h h1 hs hf.2
  | tup _ _=>simp[AS.fitE]at hf
end Eg
theorem Q44{p:Prop}(h:p:=by simp only[execOp,h2];rfl):p:=h
theorem Q54{p:Prop}(h:p:=by simp only[execOp,h2,Sem.run_bind,uK hp,Result.andThen_ok];rfl):p:=h
namespace Eg
def Opd (A:AS)(S B X:Nat->Prop)(τ:Sm)(V:Vl)(a:Act)(x:Operand):Prop:=(A.ev x).ok τ V (a.eval x)/\(∀s ∈ (A.ev x).sy,S s)/\(∀n ∈ (A.ev x).bs,B n)/\(∀c ∈ (A.ev x).is,X c)
def dW (C:Cx)(U:Value->Prop)(A:AS)(o:Oper)(u:Out)(S B X:Nat->Prop)(τ:Sm)(V:Vl)(a:Act)(w:World):Prop:=
 ∀Q:Exit->Act->World->Prop,o.wp Tryz.prog a w (fun a' w'=>∃v τ' V',a'=a.put o.dst v/\Res C U A u S B X τ V w v τ' V' w') Q
theorem dW.val {C:Cx}{U:Value->Prop}{A:AS}{o:Oper}{u:Out}{S B X:Nat->Prop}{τ:Sm}{V:Vl}{a:Act}{w w':World}{v:Value}{τ':Sm}{V':Vl}(h:(execOp a.eval o).run Tryz.prog w=.ok (.value v) w')(hr:Res C U A u S B X τ V w v τ' V' w'):dW C U A o u S B X τ V a w:=
 fun Q=>aJs h ⟨v,τ',V',rfl,hr⟩
theorem dW.unit {C:Cx}{U:Value->Prop}{A:AS}{o:Oper}{u:Out}{S B X:Nat->Prop}{τ:Sm}{V:Vl}{a:Act}{w w':World}{τ':Sm}{V':Vl}(h:(execOp a.eval o).run Tryz.prog w=.ok .skip w')(hr:Res C U A u S B X τ V w undef τ' V' w'):dW C U A o u S B X τ V a w:=
 fun Q=>aKw h ⟨undef,τ',V',rfl,hr⟩
theorem aCe {T f d:Nat}(h:aH0 T f=some d):∃z ds,bY T TZ=some (z,ds)/\at? ds f=some d:=by
 unfold aH0 at h
 cases e:bY T TZ with
 | none=>rw[e]at h;cases h
 | some p=>rw[e]at h;exact⟨p.1,p.2,rfl,h⟩
theorem lC {T n b:Nat}{z:Option Value}(h:(Tryz.prog.info? T).map (fun i=>(i.zero,i.size,i.bytes))=some (z,n,b))(w:World):(sizeOf T).run Tryz.prog w=.ok n w:=by
 cases e:Tryz.prog.info? T with
 | none=>rw[e]at h;cases h
 | some i=>
  rw[e]at h;simp only[Option.map_some,zG2,Prod.mk.injEq]at h
  simp[sizeOf,typeInfo,e,h.2.1,go_sem]
theorem uK {T f d b p:Nat}(h:aH0 T f=some d)(w:World):(Instr.fieldAt T (.pointer (some ⟨b,p,none⟩)) f).run Tryz.prog w=.ok (.pointer (some ⟨b,p+d,none⟩)) w:=by
 obtain⟨z,ds,h1,h2⟩:=aCe h
 obtain⟨fs,by',cs,hu,hl,hc,_⟩:=aJu wM h1
 have Aj:f<ds.length:=by
  rw[eK]at h2;exact(zC1.1 h2).1
 obtain⟨fl,d',fi,e1,e2,e3,e4,e5⟩:=qE _ hc f Aj;rw[h2]at e2;cases e2
 simp[Instr.fieldAt,run_underlying hu,e1,Instr.sureAddr,fieldPlace,sizeOf,typeInfo,e4,e5,e3,Addr.add_lit,go_sem]
theorem wB {T:Nat}(h:cells T=some 1):has T T1=true:=by
 unfold cells at h
 split at h
 .
  assumption
 .
  exfalso
  rename_i hn
  simp only[zF0]at h;obtain⟨p,h1,h2⟩:=h;obtain⟨_,_,_,_,_,_,_,_,_,h3,_⟩:=aJu wM (z:=p.1) (ds:=p.2) h1
  omega
theorem nT {T n:Nat}(h:cells T=some n)(hn:n ≠ 1):∃z ds,bY T TZ=some (z,ds)/\z.length=n:=by
 unfold cells at h
 split at h
 .
  cases h;exact absurd rfl hn
 .
  simp only[zF0]at h;obtain⟨p,h1,h2⟩:=h;exact⟨p.1,p.2,h1,h2⟩
theorem uJ {T:Nat}(h:has T T1=true)(w:World):(isAgg T).run Tryz.prog w=.ok false w:=by
 obtain⟨d,i,hu,h1,h2,_⟩:=aQc aNk h;unfold isAgg;simp only[Sem.run_bind,run_underlying hu,Result.andThen_ok]
 rfl
theorem mK {T b p:Nat}{v:Value}{w:World}(h:cells T=some 1)(hc:w.cell? ⟨b,p,none⟩=some v):(Instr.loadAt T (.pointer (some ⟨b,p,none⟩))).run Tryz.prog w=.ok v w:=by
 simp[Instr.loadAt,Instr.sureAddr,loadVar,uJ (wB h),load,Sem.run,hc,go_sem]
theorem uI {T b p n:Nat}{vs:List Value}{w:World}(h:cells T=some n)(hn:n ≠ 1)(hl:vs.length=n)(hc:∀j v,vs[j]?=some v->w.cell? ⟨b,p+j,none⟩=some v):(Instr.loadAt T (.pointer (some ⟨b,p,none⟩))).run Tryz.prog w=.ok (.agg vs.toArray) w:=by
 obtain⟨z,ds,h1,h2⟩:=nT h hn
 obtain⟨fs,by',cs,hu,_,_,hi,_⟩:=aJu wM h1
 have hs:=lC hi w
 have hl2:=run_loadCells_list (P:=Tryz.prog) w ⟨b,p,none⟩ vs (fun j v hv=>by rw[Addr.add_lit];exact hc j v hv)
 rw[hl,<-h2]at hl2;unfold loadCells at hl2
 simp[Instr.loadAt,Instr.sureAddr,loadVar,isAgg,run_underlying hu,hs,hl2,go_sem]
section
variable {C:Cx} {U:Value->Prop} {G:Cfg} {A:AS} {S B X:Nat->Prop} {τ:Sm} {V:Vl} {a:Act} {w:World} {d:Option Nat} {ty:TypeId} {pos:String} {aft:Array Edge} {gd:Option (Nat × Bool)}
theorem aLo (h:Kn C U A S B X τ V w){x:Operand}(hx:Opd A S B X τ V a x):dW C U A ⟨d,.move x,ty,pos,aft,gd⟩ { r:=A.ev x } S B X τ V a w:=
 dW.val (v:=a.eval x) rfl (Res.pure h hx.1)
theorem aEv (h:Kn C U A S B X τ V w){x:Operand}(hx:Opd A S B X τ V a x):dW C U A ⟨d,.assign x,ty,pos,aft,gd⟩ { r:=A.ev x } S B X τ V a w:=
 dW.val (v:=a.eval x) rfl (Res.pure h hx.1)
theorem xA (h:Kn C U A S B X τ V w){x:Operand}(hx:Opd A S B X τ V a x){u:Out}(hu:cK G A ⟨d,.nilCheck x,ty,pos,aft,gd⟩=some u):dW C U A ⟨d,.nilCheck x,ty,pos,aft,gd⟩ u S B X τ V a w:=by
 simp only[cK]at hu
 split at hu
 .
  rename_i b p e
  cases hu;have h1:=hx.1;rw[e]at h1
  have h2:a.eval x=.pointer (some ⟨V.β b,p,none⟩):=h1
  exact dW.val (v:=a.eval x) Q44 (Res.pure h h1)
 .
  rename_i s k ix p e
  cases hu;have h1:=hx.1;rw[e]at h1;obtain⟨b,j,n,c,i,_,_,h2,_⟩:=id h1;exact dW.val (v:=a.eval x) Q44 (Res.pure h h1)
 .
  cases hu
theorem uY (h:Kn C U A S B X τ V w){x:Operand}{T f:Nat}(hx:Opd A S B X τ V a x){u:Out}(hu:cK G A ⟨d,.fieldAddr T x f,ty,pos,aft,gd⟩=some u):dW C U A ⟨d,.fieldAddr T x f,ty,pos,aft,gd⟩ u S B X τ V a w:=by
 simp only[cK]at hu
 split at hu
 .
  rename_i q b p hp e
  cases hu;have h1:=hx.1;rw[e]at h1
  have h2:a.eval x=.pointer (some ⟨V.β b,p,none⟩):=h1
  exact dW.val (v:=.pointer (some ⟨V.β b,p+q,none⟩)) Q54 (Res.pure h rfl)
 .
  rename_i q s k ix p hp e
  cases hu;have h1:=hx.1;rw[e]at h1;obtain⟨b,j,n,c,i,e1,e2,h2,e3⟩:=id h1
  exact dW.val (v:=.pointer (some ⟨b,(j+i)*k.k+p+q,none⟩)) Q54 (Res.pure h ⟨b,j,n,c,i,e1,e2,by rw[Nat.add_assoc],e3⟩)
 .
  cases hu
theorem aCi (h:Kn C U A S B X τ V w){x:Operand}{i:Nat}(hx:Opd A S B X τ V a x){u:Out}(hu:cK G A ⟨d,.extract x i,ty,pos,aft,gd⟩=some u):dW C U A ⟨d,.extract x i,ty,pos,aft,gd⟩ u S B X τ V a w:=by
 simp only[cK]at hu
 split at hu
 .
  rename_i t y e
  have h1:=hx.1;rw[e]at h1;obtain⟨vs,q,h2,h3,h4⟩:=h1
  split at hu
  .
   rename_i hi
   simp only[beq_iff_eq]at hi;subst hi;cases hu;exact dW.val (v:=.agg vs.toArray) Q44 (Res.pure h ⟨vs,rfl,h3⟩)
  .
   split at hu
   .
    rename_i hi
    simp only[beq_iff_eq]at hi;subst hi;cases hu;exact dW.val (v:=q) Q44 (Res.pure h h4)
   .
    cases hu
 .
  cases hu
theorem aLm (h:Kn C U A S B X τ V w){op:UnOp}{x:Operand}{T:Nat}(hx:Opd A S B X τ V a x){u:Out}(hu:cK G A ⟨d,.unOp op T x,ty,pos,aft,gd⟩=some u):dW C U A ⟨d,.unOp op T x,ty,pos,aft,gd⟩ u S B X τ V a w:=by
 simp only[cK]at hu
 split at hu
 .
  rename_i y e
  have h1:=hx.1;rw[e]at h1
  cases y <;> simp only[aR9,Option.map_none,Option.map_some,zG2]at hu
  all_goals first|(cases hu;done)|skip
  .
   rename_i b
   subst hu
   have h2:a.eval x=.bool b:=h1
   exact dW.val (v:=.bool !b) Q44 (Res.pure h rfl)
  .
   rename_i t f
   subst hu;obtain⟨b,h2,h3,h4⟩:=h1
   exact dW.val (v:=.bool !b) Q44 (Res.pure h ⟨!b,rfl,(fun e=>h4 (by simpa using e)),(fun e=>h3 (by simpa using e))⟩)
 .
  cases hu
theorem yQ {V:Vl}:∀{n:Nat} {l r:List CV} {vs:List Value},iD V l vs->aHi n l=some r->iD V r (vs.take n)/\n<=vs.length
 | 0,_,_,_,_,h=>by cases h;exact⟨rfl,zD1 _⟩
 | n+1,[],_,_,_,h=>by cases h
 | n+1,x :: l,r,_,⟨v,us,e,h1,h2⟩,h=>by
  subst e;simp only[aHi,zF0]at h;obtain⟨r',hr,rfl⟩:=h;obtain⟨h3,h4⟩:=yQ h2 hr
  exact⟨⟨v,us.take n,rfl,h1,h3⟩,by rw[zB1];omega⟩
theorem iD.drop {V:Vl}:∀(p:Nat) {l:List CV} {vs:List Value},iD V l vs->iD V (l.drop p) (vs.drop p)
 | 0,_,_,h=>h
 | p+1,[],_,h=>by rw[show _=[] from h];exact rfl
 | p+1,_ :: l,_,⟨v,us,e,h1,h2⟩=>by subst e;exact iD.drop p h2
theorem yX {τ:Sm}{V:Vl}{f:Fd}{v:Value}(hv:FV τ f v)(c:Nat)(un:Bool)(hun:un=true->U v)(hV:isL f=true->V.ρ c=v):(rdF c un f).1.ok V v/\∀q g,at? (rdF c un f).2 q=some g->q=0/\isL f=true/\g.ok C U τ V v:=by
 have sl:∀(k:Rs) (lo m:Nat) (un':Bool),(un'=true->U v)->(∃n,(lo<=n/\n<=m)/\SV τ k n v)->({ k:=k,lo:=lo,hi:=m,own:=false,un:=un' }:SF).ok C U τ V v:=by
  rintro k lo m un' hu ⟨n,⟨h1,h2⟩,h3⟩
  have e:ln v=n:=by
   rcases h3 with⟨rfl,rfl⟩|⟨b,j,c,s,rfl,_⟩ <;> rfl
  exact⟨by rw[e];exact h3,by rw[e];exact h1,by rw[e];exact h2,(fun h=>by cases h),hu,(fun h=>by cases h),(fun s h=>by cases h)⟩
 cases f with
 | n=>obtain⟨x,e,h1⟩:=hv;exact⟨⟨x,e,h1.1,h1.2⟩,fun q g h=>by simp[rdF,at?]at h⟩
 | t=>obtain⟨x,e⟩:=hv;exact⟨⟨x,e,(fun _ c hc=>by cases hc),(fun _ c hc=>by cases hc)⟩,fun q g h=>by simp[rdF,at?]at h⟩
 | b m=>
  refine⟨(hV rfl).symm,fun q g h=>?_⟩
  cases q with
  | succ q=>simp[rdF,at?]at h
  | zero=>
   simp only[rdF,at?,zG2]at h;subst h;obtain⟨n,h1,h2⟩:=hv;exact⟨rfl,rfl,sl _ _ _ _ hun ⟨n,⟨zD1 _,h1⟩,h2⟩⟩
 | i m=>
  refine⟨(hV rfl).symm,fun q g h=>?_⟩
  cases q with
  | succ q=>simp[rdF,at?]at h
  | zero=>
   simp only[rdF,at?,zG2]at h;subst h;obtain⟨n,h1,h2⟩:=hv
   exact⟨rfl,rfl,sl _ _ _ _ (fun h=>by cases h) ⟨n,⟨zD1 _,h1⟩,h2⟩⟩
 | l t lo m=>
  refine⟨(hV rfl).symm,fun q g h=>?_⟩
  cases q with
  | succ q=>simp[rdF,at?]at h
  | zero=>
   simp only[rdF,at?,zG2]at h;subst h
   exact⟨rfl,rfl,sl _ _ _ _ (fun h=>by cases h) hv⟩
theorem rT (h:Kn C U A S B X τ V w){s:Nat}{k:Rs}{b j n c i:Nat}(hs:S s){f:SF}(hf:at? A.sy s=some f)(hk:f.k=k)(e:V.ρ s=.slice (some ⟨b,j*k.k,none⟩) n c)(hi:i<n):∃so vs,τ b=some so/\so.k=k/\j+i<so.u/\EV τ so.q k vs/\∀z u,vs[z]?=some u->w.cell? ⟨b,(j+i)*k.k+z,none⟩=some u:=by
 subst hk;have h1:=(h.sy s f hf hs).1;rw[e]at h1
 rcases h1 with⟨e1,_⟩|⟨b',j',c',so,e1,h2,h3,h4,h5,h6⟩
 .
  cases e1
 .
  simp only[Value.slice.injEq,zG2,Addr.mk.injEq,and_true]at e1;obtain⟨⟨rfl,ej⟩,hl,rfl⟩:=e1;have hj:j=j':=Nat.eq_of_mul_eq_mul_right f.k.k0 ej;subst hj
  have hln:ln (Value.slice (some ⟨b,j*f.k.k,none⟩) n c)=n:=rfl
  rw[hln]at h4;have hr:=h.fr.th b so h2;obtain⟨vs,a1,a2,a3⟩:=hr.el (j+i) Q0;rw[h3]at a2 a3
  exact⟨so,vs,h2,h3,by omega,a2,a3⟩
end
end Eg
theorem Q33{p:Prop}(h:p:=by simp[AV.sy,CV.sy]):p:=h
theorem Q49{p:Prop}(h:p:=by simp only[execOp,e3,Sem.run_bind,mK hc hv,Result.andThen_ok];rfl):p:=h
theorem Q57{p:Prop}(h:p:=by simp[AV.bs,CV.bs]):p:=h
namespace Eg
section
variable {C:Cx} {U:Value->Prop} {G:Cfg} {A:AS} {S B X:Nat->Prop} {τ:Sm} {V:Vl} {a:Act} {w:World} {d:Option Nat} {ty:TypeId} {pos:String} {aft:Array Edge} {gd:Option (Nat × Bool)}
def aSf (G:Cfg)(U:Value->Prop)(V:Vl)(w:World):Prop:=G.us=true->∀b j n c i v,V.ρ 1=.slice (some ⟨b,j,none⟩) n c->i<n->w.cell? ⟨b,j+i,none⟩=some v->U v
theorem sU {t:Nat}(h:turn t=false):Lt t=(Dt t).2:=by
 unfold turn at h;unfold Lt
 split at h
 .
  cases h
 .
  cases h
 .
  split
  .
   simp_all
  .
   simp_all
  .
   rfl
theorem yP (h:Kn C U A S B X τ V w){t b:Nat}{so:So}{vs:List Value}(hb:τ b=some so)(hg:(A.tg || !turn t)=true)(he:EV τ so.q (.rc t) vs):RV τ (Dt t).2 vs:=by
 cases ht:turn t with
 | false=>exact EV.tight (k:=.rc t) (sU ht) he
 | true=>
  rw[ht]at hg
  have:=h.tg Q76 b so hb
  rw[this]at he;exact he
theorem aCr {s:Nat}{k:Rs}(h:A.kd s k=true):∃f,at? A.sy s=some f/\f.k=k:=by
 unfold AS.kd at h
 split at h
 .
  rename_i g hg
  exact⟨g,hg,Rs.eq_eq h⟩
 .
  cases h
theorem aGf {s r:Nat}{k:Rs}{ix:Ix}{p:Nat}:∀{l:List Cf},aP5 s k ix p l=some r->∃c ∈ l,c.s=s/\c.k=k/\c.ix=ix/\c.ix ≠ .u/\c.p=p/\c.r=r
 | [],h=>by cases h
 | c :: l,h=>by
  simp only[aP5]at h
  split at h
  .
   rename_i hc
   simp only[zC0,beq_iff_eq]at hc;obtain⟨⟨⟨h1,h2⟩,h3⟩,h4⟩:=hc;cases h
   have h5:c.ix=ix/\c.ix ≠ .u:=by
    cases hi:c.ix <;> cases ix <;> simp_all[aR8]
   exact⟨c,by simp,h1,Rs.eq_eq h2,h5.1,h5.2,h4,rfl⟩
  .
   obtain⟨c',hm,r⟩:=aGf h
   exact⟨c',by simp[hm],r⟩
theorem aLp (h:Kn C U A S B X τ V w)(hU:aSf G U V w){x:Operand}{T:Nat}(hx:Opd A S B X τ V a x){u:Out}(hu:cK G A ⟨d,.load T x,ty,pos,aft,gd⟩=some u)(hcf:u.cu=true->∀c ∈ A.cf,c.ok V w)(hn:∀q,q<u.ns.length->¬S (A.sy.length+q)):dW C U A ⟨d,.load T x,ty,pos,aft,gd⟩ u S B X τ V a w:=by
 obtain⟨h1,h2,h3,h4⟩:=hx;simp only[cK]at hu
 split at hu
 .
  rename_i b p hc e
  rw[e]at h1 h3
  have e1:a.eval x=.pointer (some ⟨V.β b,p,none⟩):=h1
  split at hu
  .
   rename_i T' l hb
   simp only[zF0]at hu;obtain⟨y,hy,rfl⟩:=hu;obtain⟨⟨vs,hbl,hal⟩,_⟩:=h.bk b _ hb (h3 b Q57);rw[eK]at hy;obtain⟨v,hv,hok⟩:=iD.get hal hy
   exact dW.val (v:=v) (by simp only[execOp,e1,Sem.run_bind,mK hc (hbl.cell hv),Result.andThen_ok];rfl) (Res.pure h hok)
  .
   cases hu
 .
  rename_i n b p Aw hc e
  rw[e]at h1 h3
  have e1:a.eval x=.pointer (some ⟨V.β b,p,none⟩):=h1
  split at hu
  .
   rename_i T' l hb
   simp only[zF0]at hu;obtain⟨y,hy,rfl⟩:=hu;obtain⟨⟨vs,hbl,hal⟩,_⟩:=h.bk b _ hb (h3 b Q57);obtain⟨h5,h6⟩:=yQ (iD.drop p hal) hy
   exact dW.val (v:=.agg ((vs.drop p).take n).toArray) (by
    simp only[execOp,e1,Sem.run_bind,uI hc (fun e=>Aw e) (vs:=(vs.drop p).take n) (by rw[List.length_take];omega) (fun j v hv=>hbl.cell (by
     rw[List.getElem?_take]at hv
     split at hv
     .
      rw[List.getElem?_drop]at hv;exact hv
     .
      cases hv)),Result.andThen_ok];rfl) (Res.pure h ⟨_,rfl,h5⟩)
  .
   cases hu
 .
  rename_i s ix hc e
  rw[e]at h1 h2
  split at hu
  .
   rename_i hk
   cases hu;obtain⟨f,hf,hfk⟩:=aCr hk;obtain⟨b,j,n,c,i,e1,e2,e3,_⟩:=id h1;obtain⟨so,vs,_,_,_,⟨y,rfl,hy⟩,Bg⟩:=rT h (h2 s Q33) hf hfk e1 e2;have hv:=Bg 0 _ rfl;exact dW.val (v:=.int .i64 y) Q49 (Res.pure h ⟨y,rfl,hy.1,hy.2⟩)
  .
   cases hu
 .
  rename_i s ix hc e
  rw[e]at h1 h2
  split at hu
  .
   rename_i hk
   cases hu;obtain⟨f,hf,hfk⟩:=aCr hk;obtain⟨b,j,n,c,i,e1,e2,e3,_⟩:=id h1;obtain⟨so,vs,_,_,_,⟨y,rfl,hy⟩,Bg⟩:=rT h (h2 s Q33) hf hfk e1 e2;have hv:=Bg 0 _ rfl;exact dW.val (v:=.string y) Q49 (Res.pure h ⟨y,rfl,hy⟩)
  .
   cases hu
 .
  rename_i s t ix p hc e
  rw[e]at h1 h2 h4
  split at hu
  .
   rename_i fd hfd
   split at hu
   .
    rename_i hg
    simp only[zC0]at hg;obtain⟨f,hf,hfk⟩:=aCr hg.2
    have hSs:S s:=h2 s Q33
    obtain⟨b,j,n,c,i,e1,e2,e3,e4⟩:=id h1;obtain⟨so,vs,hso,_,_,hev,Bg⟩:=rT h hSs hf hfk e1 e2;have hrv:=yP h hso hg.1 hev;rw[eK]at hfd;obtain⟨v,hv,hfv⟩:=RV.get hrv hfd;have hw:=Bg p v hv
    have hrun:(execOp a.eval ⟨d,.load T x,ty,pos,aft,gd⟩).run Tryz.prog w=.ok (.value v) w:=by simp only[execOp,e3,Sem.run_bind,mK hc hw,Result.andThen_ok];rfl
    split at hu
    .
     rename_i r hr
     cases hu
     split at hr
     .
      obtain⟨cc,hm,rfl,hk,rfl,hu1,rfl,rfl⟩:=aGf hr;have hok:=hcf rfl cc hm
      have:=hok b j n c i (by rw[hk];exact e1) e2 e4 hu1
      rw[hk,hw]at this;cases this
      exact dW.val hrun (Res.same h rfl rfl (fun _ _=>rfl) (fun _ _=>rfl) (fun _ _=>rfl) (fun q f hq=> Q79) rfl (fun c hc=>by cases hc))
     .
      cases hr
    .
     cases hu
     have hun:(G.us && s == 1 && t == 0)=true->U v:=by
      intro hh;simp only[zC0,beq_iff_eq]at hh;obtain⟨⟨a1,rfl⟩,rfl⟩:=hh
      have hk1:(Rs.rc 0).k=1:=rfl
      have hp0:p=0:=by
       have:p<(Dt 0).2.length:=(zC1.1 hfd).1
       have h9:(Dt 0).2.length=1:=rfl
       omega
      subst hp0;rw[hk1,Nat.mul_one]at e1;refine hU a1 b j n c i v e1 e2 ?_;rw[hk1,Nat.mul_one,zG1]at hw;exact hw
     cases hl:isL fd with
     | false=>
      have hok:=yX (C:=C) (U:=U) (V:=V) hfv A.sy.length _ hun (fun h9=>by rw[hl]at h9;cases h9)
      exact dW.val hrun (Res.same h rfl rfl (fun _ _=>rfl) (fun _ _=>rfl) (fun _ _=>rfl) (fun q f hq=>by have:=(hok.2 q f hq).2.1;rw[hl]at this;cases this) hok.1 (fun c hc=>by simp at hc))
     | true=>
      have hns:(rdF A.sy.length (G.us && s == 1 && t == 0) fd).2.length=1:=by cases fd <;> first|rfl|(cases hl)
      have hV:(V.add A.sy.length [v]).ρ A.sy.length=v:=Vl.add_at (q:=0) rfl
      have hag:∀s',S s'->(V.add A.sy.length [v]).ρ s'=V.ρ s':=fun s' hs'=>Vl.add_ne (fun q hq e9=>by
       subst e9
       exact hn q (by simp only[hns];simpa using hq) hs')
      have hok:=yX (C:=C) (U:=U) (V:=V.add A.sy.length [v]) hfv A.sy.length _ hun (fun _=>hV)
      refine dW.val hrun (Res.same (V':=V.add A.sy.length [v]) h rfl rfl hag (fun _ _=>rfl) (fun _ _=>rfl) (fun q f hq=>?_) hok.1 (fun c hc=>?_))
      .
       obtain⟨q0,_,h9⟩:=hok.2 q f hq;subst q0;rw[zG1,hV];exact h9
      .
       simp only[if_true,List.mem_singleton]at hc;subst hc;intro b' j' n' c' i' e5 e6 e7 e8
       have hV9:(V.add A.sy.length [v]).ρ s=V.ρ s:=hag s hSs
       simp only at e5 e6 e7 e8 ⊢
       rw[hV9,e1]at e5;simp only[Value.slice.injEq,zG2,Addr.mk.injEq,and_true,true_and]at e5;obtain⟨⟨rfl,ej⟩,rfl,rfl⟩:=e5;have hj:j=j':=Nat.eq_of_mul_eq_mul_right (Rs.k0 _) ej;subst hj
       have hi:i'=i:=by
        cases ix with
        | u=>exact absurd rfl e8
        | k m=>exact e7.trans e4.symm
        | v m=>exact e7.trans e4.symm
       subst hi;rw[hV];exact hw
   .
    cases hu
  .
   cases hu
 .
  rename_i n s t ix Aw hc e
  rw[e]at h1 h2
  split at hu
  .
   rename_i hg
   simp only[zC0,beq_iff_eq]at hg;obtain⟨⟨hn1,hg1⟩,hk⟩:=hg;cases hu;obtain⟨f,hf,hfk⟩:=aCr hk;obtain⟨b,j,m,c,i,e1,e2,e3,_⟩:=id h1;obtain⟨so,vs,hso,_,_,hev,Bg⟩:=rT h (h2 s Q33) hf hfk e1 e2;have hrv:=yP h hso hg1 hev;have hl:=hrv.length
   have e4:a.eval x=.pointer (some ⟨b,(j+i)*(Rs.rc t).k,none⟩):=e3
   exact dW.val (v:=.agg vs.toArray) (by simp only[execOp,e4,Sem.run_bind,uI hc Aw (hl.trans hn1.symm) Bg,Result.andThen_ok];rfl) (Res.pure h ⟨vs,rfl,hrv⟩)
  .
   cases hu
 .
  cases hu
end
end Eg
end Go.Proofs.YtffphdacgblaoaaGreatDoor

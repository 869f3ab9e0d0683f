import Derived.Test.YtcbhdhmhidpdgaaGreatDoorPackE
import Derived.Great.BuildSlice
import Derived.Lib.ConvBytes
namespace Go.Proofs.YtcbhdhmhidpdgaaGreatDoor
open Go.RowKit
set_option linter.unusedVariables false
set_option linter.unusedSimpArgs false
set_option maxRecDepth 100000
section
namespace Eg
def mn:Int:=-9223372036854775808
def mx:Int:=9223372036854775807
def Rs.eq:Rs->Rs->Bool
 | .bt,.bt=>true| .ii,.ii=>true| .st,.st=>true| .rc a,.rc b=>a == b| _,_=>false
structure AS where
 sl:List (Nat × AV)
 sy:List SF
 bk:List Bk
 ni:Nat
 cf:List Cf
 nc:List Cf
 tg:Bool
def sf (k:Rs)(lo hi:Nat)(own:Bool):SF:={ k:=k,lo:=lo,hi:=hi,own:=own }
def turn:Nat->Bool
 | 14=>true| 15=>true| 20=>true| _=>false
def Rs.turn:Rs->Bool
 | .rc t=>Eg.turn t| _=>false
def SE:List (Nat × Nat):=[(22,5),(82,22),(83,147),(84,135),(49,80),(78,138),(132,172),(133,179),(32,3),(48,86),(130,9),(174,176)
 ,(36,69),(37,42),(23,39),(141,150),(192,32),(47,4)
 ]
def Z0:CV:=.int 0 0
def TZ:List (Nat × List CV × List Nat):=[(147,[.nil,Z0],[0,1]),(172,[.nil,.tv false],[0,1]),(138,[.nil,.nil],[0,1]),(80,[.nil,.nil],[0,1]),(176,[Z0,Z0,.nil,.nil,.nil],[0,1,2,3,4]),(179,[Z0,Z0,.nil,.nil,.nil,.nil],[0,1,2,3,4,5]),(135,[.nil,.tv false,.nil,.nil,.nil],[0,1,2,3,4]),(86,[.nil,.nil,.nil,.nil],[0,1,2,3]),(170,[.top,.nil,.nil,.nil,.nil,.nil,.nil,.nil,Z0,Z0,.tv false],[0,1,2,6,7,8,9,10])
 ,(69,[.nil,Z0,Z0],[0,1,2]),(42,[.nil,.nil,Z0],[0,1,2]),(39,[.nil,.nil,.nil,Z0,.nil],[0,1,2,3,4]),(150,[Z0,Z0,Z0,Z0,Z0,Z0],[0,1,2,3,4,5]),(52,[.nil,.nil,.nil],[0,1,2])
 ]
def T1:List Nat:=[3,4,5,9,22,82,83,84,49,78,132,133,32,48,130,174,45
 ,36,37,23,141,192,47
 ]
def bH {α:Type}(n:Nat):List (Nat × α)->Option α
 | []=>none| (k,x) :: l=>if k == n then some x else bH n l
def has (n:Nat):List Nat->Bool
 | []=>false| k :: l=>k == n || has n l
def at? {α:Type}:List α->Nat->Option α
 | [],_=>none| x :: _,0=>some x| _ :: l,n+1=>at? l n
def put {α:Type}:List α->Nat->α->List α
 | [],_,_=>[]| _ :: l,0,y=>y :: l| x :: l,n+1,y=>x :: put l n y
def cells (T:Nat):Option Nat:=if has T T1 then some 1 else (bH T TZ).map fun p=>p.1.length
def aGo (T f:Nat):Option Nat:=(bH T TZ).bind fun p=>at? p.2 f
def aFl:Value->CV
 | .int .i64 n=>.int n n| .int .u8 n=>if decide (0<=n) && decide (n<=255) then .byte else .top
 | .bool b=>.tv b| .string s=>if decide (s.size<=4) then .str else .top
 | .slice none 0 0=>.nil| _=>.top
def aQd:Value->AV
 | .agg cs=>.agg (cs.toList.map aFl)| v=>.c (aFl v)
def AS.ev (A:AS):Operand->AV
 | .tmp t=>(bH t A.sl).getD (.c .top)| .const v=>aQd v| _=>.c .top
def AS.rng (A:AS):CV->Option (Int × Int)
 | .int lo hi=>some (lo,hi)| .len s k=>(at? A.sy s).map fun f=>((f.lo:Int)-k,(f.hi:Int)-k)
 | .idx s k=>(at? A.sy s).map fun f=>(0,(f.hi:Int)-k-1)
 | .num _ s k=>(at? A.sy s).map fun f=>(0,(f.hi:Int)-k-1)
 | _=>none
def AS.fit (A:AS):Fd->CV->Bool
 | .n,x=>match A.rng x with
  | some (lo,hi)=>decide (mn<=lo) && decide (hi<=mx)| none=>false
 | .t,.tv _=>true| .t,.bl _ _=>true| .b _,.nil=>true| .i _,.nil=>true| .l _ lo _,.nil=>lo == 0| .b m,.sl s=>match at? A.sy s with
  | some f=>f.k.eq .bt && decide (f.hi<=m)| none=>false
 | .i m,.sl s=>match at? A.sy s with
  | some f=>f.k.eq .ii && decide (f.hi<=m)| none=>false
 | .l t lo m,.sl s=>match at? A.sy s with
  | some f=>f.k.eq (.rc t) && decide (lo<=f.lo) && decide (f.hi<=m)| none=>false
 | _,_=>false
def AS.fits (A:AS):List Fd->List CV->Bool
 | [],[]=>true| f :: r,x :: l=>A.fit f x && A.fits r l| _,_=>false
def wide:Fd->Fd->Bool
 | .n,.n=>true| .t,.t=>true| .b m,.b m'=>decide (m'<=m)| .i m,.i m'=>decide (m'<=m)| .l t lo m,.l t' lo' m'=>t == t' && decide (lo<=lo') && decide (m'<=m)| _,_=>false
def aFv:List Fd->List Fd->Bool
 | [],[]=>true| f :: r,g :: l=>wide f g && aFv r l| _,_=>false
def AS.fitE (A:AS):Rs->AV->Bool
 | .bt,.c .byte=>true| .ii,.c x=>match A.rng x with
  | some (lo,hi)=>decide (mn<=lo) && decide (hi<=mx)| none=>false
 | .st,.c .str=>true| .rc t,.c x=>match (Dt t).2 with
  | [f]=>A.fit f x| _=>false
 | .rc t,.rc t'=>(t == t' || (Dt t').1 == (Dt t).1 && aFv (Dt t).2 (Dt t').2) && decide (1<(Dt t).2.length)| .rc t,.agg l=>decide (1<(Dt t).2.length) && A.fits (Dt t).2 l| _,_=>false
def rdF (c:Nat)(un:Bool):Fd->CV × List SF
 | .n=>(.int mn mx,[])| .t=>(.bl [] [],[])| .b m=>(.sl c,[{ k:=.bt,lo:=0,hi:=m,own:=false,un:=un }])| .i m=>(.sl c,[sf .ii 0 m false])| .l t lo m=>(.sl c,[sf (.rc t) lo m false])
def aA8 (c:Nat):List Fd->List CV × List SF
 | []=>([],[])| f :: r=>((rdF c false f).1 :: (aA8 (c+(rdF c false f).2.length) r).1,(rdF c false f).2++(aA8 (c+(rdF c false f).2.length) r).2)
def iR (c:Nat):AV->Option (List CV × List SF)
 | .c x=>some ([x],[])| .agg l=>some (l,[])| .rc t=>if decide (1<(Dt t).2.length) then some (aA8 c (Dt t).2) else none
 | .tup _ _=>none
structure Out where
 r:AV
 ns:List SF:=[]
 nb:Option Bk:=none
 up:Option (Nat × List CV):=none
 nx:Bool:=false
 nc:List Cf:=[]
 cu:Bool:=false
 nq:Bool:=false
 nt:Bool:=false
 br:Bool:=false
 nm:Bool:=false
inductive CP where
 | cur|gen|int (lo hi:Int)|bool|str|sl (k:Rs) (lo hi:Nat)|rc (t:Nat)|un|fa
inductive RP where
 | int (lo hi:Int)|bool|sl (k:Rs) (lo hi:Nat)|rc (t:Nat)|tb (t:Nat)|ts (t:Nat) (k:Rs) (lo hi:Nat)|ixf|num|vr|ti (t:Nat)|t3 (k:Rs) (lo hi:Nat)
structure Con where
 f:Nat
 st:Bool
 args:List CP
 res:RP
 tg:Bool
structure Cfg where
 st:Bool
 us:Bool
 keep:List Nat
 rowd:List (Nat × Rs)
 rows:List (Nat × Rs)
 cons:List Con
 nt:Nat
def AS.sOk (A:AS)(k:Rs)(lo hi:Nat):CV->Bool
 | .nil=>lo == 0| .sl s=>match at? A.sy s with
  | some f=>f.k.eq k && decide (lo<=f.lo) && decide (f.hi<=hi)| none=>false
 | _=>false
def AS.gen (A:AS)(b:Nat):Bool:=match at? A.bk b with
 | some (.cells T [.ptr c 0,.sl 0,nv,.sl 1,vv,pv,iv,av,.int 1 1,.int lo hi,.bl [] []])=>
  T == 170 && (match at? A.bk c with|some .cur=>true|_=>false) && A.sOk .bt 0 4 nv && A.sOk (.rc 1) 0 3 vv && A.sOk (.rc 12) 0 3 pv && A.sOk (.rc 0) 2 20 iv && A.sOk (.rc 0) 0 20 av && decide (lo=mn) && decide (hi=mx)
 | _=>false
def AS.mat (A:AS):CP->AV->Bool
 | .cur,.c (.ptr b 0)=>match at? A.bk b with|some .cur=>true|_=>false
 | .gen,.c (.ptr b 0)=>A.gen b| .int lo hi,.c x=>match A.rng x with
  | some (l,h)=>decide (lo<=l) && decide (h<=hi)| none=>false
 | .bool,.c (.tv _)=>true| .bool,.c (.bl _ _)=>true| .str,.c .str=>true| .sl k lo hi,.c x=>A.sOk k lo hi x| .rc t,.rc t'=>t == t'| .rc t,.agg l=>A.fits (Dt t).2 l| .un,.c (.sl s)=>match at? A.sy s with
  | some f=>f.k.eq .bt && f.un| none=>false
 | .fa,.c (.sl 0)=>true| _,_=>false
def AS.mats (A:AS):List CP->List AV->Bool
 | [],[]=>true| p :: l,x :: r=>A.mat p x && A.mats l r| _,_=>false
def RP.out (c:Nat):RP->Out
 | .int lo hi=>{ r:=.c (.int lo hi) }| .bool=>{ r:=.c (.bl [] []) }| .sl k lo hi=>{ r:=.c (.sl c),ns:=[sf k lo hi true] }| .rc t=>{ r:=.rc t }| .tb t=>{ r:=.tup t (.bl [] []) }| .ts t k lo hi=>{ r:=.tup t (.sl c),ns:=[sf k lo hi true] }| .ixf=>{ r:=.c (.idx 0 0) }| .num=>{ r:=.agg [.int mn mx,.int mn mx,.nil,.nil,.nil] }| .vr=>{ r:=.agg [.int mn mx,.int mn mx,.nil,.sl c,.nil],ns:=[sf .bt 0 4 false] }| .ti t=>{ r:=.tup t (.int mn mx) }| .t3 _ _ _=>{ r:=.c .top }
def bF:List CP->Bool
 | .gen :: _=>true| _=>false
def eJ:List CP->Bool
 | .cur :: _=>true| _=>false
def mO:CP->Bool
 | .cur=>false| .gen=>false| _=>true
def aEa:List CP->Bool
 | []=>true| _ :: l=>l.all mO
def aL8:RP->Bool
 | .ixf=>true| _=>false
def qG:CP->Bool
 | .fa=>true| .un=>true| .gen=>true| _=>false
def nA (A:AS)(st us:Bool)(f:Nat)(xs:List AV):List Con->Option Out
 | []=>none| c :: l=>if c.f == f && (c.st || !st) && (A.tg || !c.tg) && aEa c.args && (us || !(c.args.any qG || aL8 c.res)) && A.mats c.args xs then some { c.res.out A.sy.length with br:=!c.st,nq:=!c.st,nt:=true,nm:=bF c.args } else nA A st us f xs l
def FS:List Nat:=[29,10,141,101,140,139,143,51,105,100,142,138,99,50,26,25
 ,186,187,178,118,156,57,117,60,59,56,27,28,9,11,147,148,149,150,115,146
 ]
def aE6 (G:Cfg)(A:AS)(f:Nat)(xs:List AV):Option Out:=
 if !(has f FS) then none else
 if f == 29 then match xs with
  | [p,.c x]=>if A.mat .cur p then match x,A.rng x with
   | .len s k,some (lo,hi)=>if decide (1<=lo) && decide (hi<=1000000) then some (if G.st then { r:=.c (.idx s k) } else { r:=.c (.num A.ni s k),nx:=true }) else none
   | _,some (lo,hi)=>if decide (hi<=1000000) then some { r:=.c (.int 0 (if decide (1<=hi) then hi-1 else 0)) } else none
   | _,_=>none else none
  | _=>none
 else nA A G.st G.us f xs G.cons
def evs (A:AS):List Operand->List AV
 | []=>[]| x :: l=>A.ev x :: evs A l
def plc (tot:Nat):List Nat->List (Nat × Nat)
 | []=>[]| [d]=>[(d,tot-d)]| d :: e :: r=>(d,e-d) :: plc tot (e :: r)
def wQ:CV->Bool
 | .top=>false| .und=>false| _=>true
def aAr (A:AS)(ps:List (Nat × Nat)):List (Nat × Operand)->List CV->Option (List CV)
 | [],l=>some l| (f,x) :: r,l=>match at? ps f,A.ev x with
  | some (o,n),.c y=>if n == 1 && wQ y && decide (o<l.length) then aAr A ps r (put l o y) else none
  | _,_=>none
def rJ (A:AS)(k:Rs):Nat->List (Nat × Operand)->Bool
 | _,[]=>true| i,(j,x) :: r=>i == j && A.fitE k (A.ev x) && rJ A k (i+1) r
def aT7:CV->Option CV
 | .tv b=>some (.tv !b)| .bl t f=>some (.bl f t)| _=>none
def aTc (A:AS)(op:BinOp)(x y:CV):Option CV:=
 match A.rng x,A.rng y with
 | some (a,b),some (c,d)=>
  match op with
  | .lss=>if decide (b<c) then some (.tv true) else if decide (d<=a) then some (.tv false) else match x,y with
   | .int i j,.len s k=>if decide (i=j) && decide (0<=i) then some (.bl [⟨s,i.toNat+k,true⟩] [⟨s,i.toNat+k,false⟩]) else some (.bl [] [])
   | .int i j,.idx s k=>if decide (i=j) && decide (0<=i) then some (.bl [⟨s,i.toNat+1+k,true⟩] []) else some (.bl [] [])
   | .len s k,.int i j=>if decide (i=j) && decide (1<=i) then some (.bl [⟨s,i.toNat-1+k,false⟩] [⟨s,i.toNat-1+k,true⟩]) else some (.bl [] [])
   | _,_=>some (.bl [] [])
  | .gtr=>if decide (d<a) then some (.tv true) else if decide (b<=c) then some (.tv false) else match x,y with
   | .len s k,.int i j=>if decide (i=j) && decide (0<=i) then some (.bl [⟨s,i.toNat+k,true⟩] [⟨s,i.toNat+k,false⟩]) else some (.bl [] [])
   | _,_=>some (.bl [] [])
  | .eql=>if decide (a=b) && decide (c=d) && decide (a=c) then some (.tv true) else if decide (b<c) || decide (d<a) then some (.tv false) else match x,y with
   | .len s 0,.int 0 0=>some (.bl [⟨s,0,false⟩] [⟨s,0,true⟩])| _,_=>some (.bl [] [])
  | .leq=>if decide (b<=c) then some (.tv true) else if decide (d<a) then some (.tv false) else some (.bl [] [])
  | .geq=>if decide (d<=a) then some (.tv true) else if decide (b<c) then some (.tv false) else some (.bl [] [])
  | .neq=>some (.bl [] [])| _=>none
 | _,_=>none
def aM0 (A:AS)(op:BinOp)(x y:CV):Option CV:=
 match op,x,y with
 | .sub,.len s k,.int i j=>if decide (i=j) && decide (0<=i) && decide (i<=1000) && (match at? A.sy s with|some f=>decide (k<=1000) && decide (f.hi<=1000)|none=>false) then some (.len s (k+i.toNat)) else none
 | .add,.int i j,.idx s k=>if decide (i=j) && decide (0<=i) && decide (i<=k) && (match at? A.sy s with|some f=>decide (f.hi<=1000)|none=>false) then some (.idx s (k-i.toNat)) else none
 | _,_,_=>match A.rng x,A.rng y with
  | some (a,b),some (c,d)=>
   match op with
   | .add=>if decide (mn<=a+c) && decide (b+d<=mx) then some (.int (a+c) (b+d)) else some (.int mn mx)
   | .sub=>if decide (mn<=a-d) && decide (b-c<=mx) then some (.int (a-d) (b-c)) else some (.int mn mx)
   | .mul=>if decide (0<=a) && decide (0<=c) && decide (b*d<=mx) then some (.int 0 (b*d)) else some (.int mn mx)
   | _=>none
  | _,_=>none
def aRv (A:AS)(x y:CV):Option CV:=match A.rng x,A.rng y with
 | some (a,b),some (c,d)=>if decide (0<=a) && decide (1<=c) && decide (b<=mx) then some (.int 0 b) else none
 | _,_=>none
def aSh:BinOp->Bool
 | .quo=>true| _=>false
def aPf:BinOp->Bool
 | .eql=>true| .neq=>true| .lss=>true| .leq=>true| .gtr=>true| .geq=>true| _=>false
def aSi:BinOp->Bool
 | .eql=>true| _=>false
def isB:CV->Bool
 | .tv _=>true| .bl _ _=>true| _=>false
def wt:CV->List Ct
 | .bl t _=>t| _=>[]
def wf:CV->List Ct
 | .bl _ f=>f| _=>[]
def aN8 (c a b:CV):Option CV:=
 match c with
 | .tv true=>some a| .tv false=>some b| .bl t f=>if isB a && isB b then (match a,b with
  | .tv true,.tv false=>some (.bl t f)| .tv true,_=>some (.bl [] (f++wf b))| _,.tv false=>some (.bl (t++wt a) [])| _,_=>some (.bl [] [])) else none
 | _=>none
def aN2 (l:List CV)(o:Nat):List CV->List CV
 | []=>l| x :: r=>aN2 (put l o x) (o+1) r
def loose (T o:Nat)(x:CV):CV:=match x with
 | .int lo hi=>if T == 170 && o == 9 && decide (mn<=lo) && decide (hi<=mx) then .int mn mx else .int lo hi
 | y=>y
def uE (T:Nat):Nat->List CV->List CV
 | _,[]=>[]| o,x :: r=>loose T o x :: uE T (o+1) r
def aF3 {α:Type}:Nat->List α->Option (List α)
 | 0,_=>some []| n+1,x :: l=>(aF3 n l).map (x :: ·)| _+1,[]=>none
def oEq:Option Nat->Option Nat->Bool
 | none,none=>true| some a,some b=>a == b| _,_=>false
def aT6:Ix->Ix->Bool
 | .k a,.k b=>a == b| .v a,.v b=>a == b| _,_=>false
def aQw (s:Nat)(k:Rs)(ix:Ix)(p:Nat):List Cf->Option Nat
 | []=>none| c :: l=>if c.s == s && c.k.eq k && aT6 c.ix ix && c.p == p then some c.r else aQw s k ix p l
def isL:Fd->Bool
 | .n=>false| .t=>false| _=>true
def aGa (T:Nat)(k:Rs):Bool:=match bH T SE with
 | some e=>e == k.ty| none=>false
def aL6 (s:Nat)(f:SF):CV->Bool
 | .int lo hi=>decide (0<=lo) && decide (hi<f.lo)| .idx s' _=>s == s'| .num _ s' _=>s == s'| .len s' 0=>oEq f.abv (some s')| _=>false
def AS.kd (A:AS)(s:Nat)(k:Rs):Bool:=match at? A.sy s with
 | some g=>g.k.eq k| none=>false
def bP (G:Cfg)(A:AS)(o:Oper):Option Out:=
 match o.op with
 | .move x=>some { r:=A.ev x }| .assign x=>some { r:=A.ev x }| .nilCheck x=>match A.ev x with
  | .c (.ptr b p)=>some { r:=.c (.ptr b p) }| .c (.elp s k ix p)=>some { r:=.c (.elp s k ix p) }| _=>none
 | .fieldAddr T x f=>match aGo T f,A.ev x with
  | some d,.c (.ptr b p)=>some { r:=.c (.ptr b (p+d)) }| some d,.c (.elp s k ix p)=>some { r:=.c (.elp s k ix (p+d)) }| _,_=>none
 | .load T x=>match cells T,A.ev x with
  | some 1,.c (.ptr b p)=>match at? A.bk b with
   | some (.cells _ l)=>(at? l p).map fun y=>{ r:=.c y,nm:=true }
   | _=>none
  | some n,.c (.ptr b p)=>match at? A.bk b with
   | some (.cells _ l)=>(aF3 n (l.drop p)).map fun y=>{ r:=.agg y,nm:=true }
   | _=>none
  | some 1,.c (.elp s .ii _ 0)=>if A.kd s .ii then some { r:=.c (.int mn mx) } else none
  | some 1,.c (.elp s .st _ 0)=>if A.kd s .st then some { r:=.c .str } else none
  | some 1,.c (.elp s .bt _ 0)=>if A.kd s .bt then some { r:=.c .byte } else none
  | some 1,.c (.elp s (.rc t) ix p)=>match at? (Dt t).2 p with
   | some f=>if (A.tg || !turn t) && A.kd s (.rc t) then (match (if isL f then aQw s (.rc t) ix p A.cf else none) with
    | some r=>some { r:=.c (.sl r),nt:=turn t,cu:=true }| none=>some { r:=.c (rdF A.sy.length (G.us && s == 1 && t == 0) f).1,ns:=(rdF A.sy.length (G.us && s == 1 && t == 0) f).2,nt:=turn t,nc:=if isL f then [⟨s,.rc t,ix,p,A.sy.length⟩] else [] }) else none
   | none=>none
  | some n,.c (.elp s (.rc t) _ 0)=>if n == (Dt t).2.length && (A.tg || !turn t) && A.kd s (.rc t) then some { r:=.rc t,nt:=turn t } else none
  | _,_=>none
 | .store T x y=>match cells T,A.ev x,A.ev y with
  | some n,.c (.ptr b p),v=>match at? A.bk b,iR A.sy.length v with
   | some (.cells T' l),some (vs,ns)=>if vs.length == n && decide (p+n<=l.length) && vs.all wQ then some { r:=.c .und,ns:=ns,up:=some (b,aN2 l p (uE T' p vs)) } else none
   | _,_=>none
  | some 1,.c (.elp s (.rc t) _ p),.c v=>match at? (Lt t) p,at? A.sy s with
   | some f,some g=>if A.fit f v && (g.own || !G.st) && (!G.st || !turn t) && A.kd s (.rc t) then some { r:=.c .und,br:=turn t,nq:=true } else none
   | _,_=>none
  | some n,.c (.elp s (.rc t) _ 0),v=>match at? A.sy s with
   | some g=>if n == (Dt t).2.length && A.fitE (.rc t) v && (g.own || !G.st) && !turn t && A.kd s (.rc t) then some { r:=.c .und,nq:=true } else none
   | none=>none
  | _,_,_=>none
 | .build T ps=>match bH T TZ with
  | some (z,ds)=>(aAr A (plc z.length ds) ps.toList z).map fun l=>{ r:=.agg l }
  | none=>none
 | .buildSlice T n ps=>match (match o.dst with|some d=>(match bH d G.rowd with|some k=>some k|none=>bH T G.rows)|none=>none) with
  | some k=>if aGa T k && ps.toList.length == n && rJ A k 0 ps.toList && decide (n<=1000) then some { r:=.c (.sl A.sy.length),ns:=[{ k:=k,lo:=n,hi:=n,own:=true,c0:=n == 0 }] } else none
  | none=>none
 | .alloc T=>match bH T TZ with
  | some (z,_)=>some { r:=.c (.ptr A.bk.length 0),nb:=some (.cells T z) }| none=>none
 | .box T x=>match cells T,iR A.sy.length (A.ev x) with
  | some n,some (vs,ns)=>if vs.length == n && decide (1<n) && vs.all wQ then some { r:=.c (.ptr A.bk.length 0),ns:=ns,nb:=some (.cells T (uE T 0 vs)) } else none
  | _,_=>none
 | .binOp op T x y _=>if T == 3 then match A.ev x,A.ev y with
   | .c a,.c b=>(if aPf op then aTc A op a b else if aSh op then aRv A a b else aM0 A op a b).map fun z=>{ r:=.c z }
   | _,_=>none
  else match A.ev x,A.ev y with
   | .c .str,.c .str=>if T == 9 && aSi op then some { r:=.c (.bl [] []) } else none
   | .c .byte,.c .byte=>if T == 5 && aPf op then some { r:=.c (.bl [] []) } else none
   | _,_=>none
 | .unOp op T x=>match op,A.ev x with
  | .not,.c a=>(aT7 a).map fun z=>{ r:=.c z }
  | _,_=>none
 | .pick c a b=>match A.ev c,A.ev a,A.ev b with
  | .c c,.c a,.c b=>(aN8 c a b).map fun z=>{ r:=.c z }
  | _,_,_=>none
 | .convert S D x=>
  if S == 9 && D == 22 then match A.ev x with
   | .c .str=>some { r:=.c (.sl A.sy.length),ns:=[sf .bt 0 4 true] }| _=>none
  else if S == 22 && D == 9 then match A.ev x with
   | .c (.sl s)=>match at? A.sy s with
    | some f=>if f.k.eq .bt && decide (f.hi<=4) then some { r:=.c .str } else none
    | none=>none
   | _=>none
  else if S == 22 && D == 22 then match A.ev x with
   | .c (.sl s)=>match at? A.sy s with
    | some f=>if f.k.eq .bt && decide (1<=f.lo) && (f.own || !G.st) then some { r:=.c (.sl s) } else none
    | none=>none
   | _=>none
  else if S == 3 && D == 5 then match A.ev x with
   | .c a=>if (A.rng a).isSome then some { r:=.c .byte } else none
   | _=>none
  else none
 | .extract x i=>match A.ev x with
  | .tup t y=>if i == 0 then some { r:=.rc t } else if i == 1 then some { r:=.c y } else none
  | _=>none
 | .indexAddr T x i=>match A.ev x,A.ev i with
  | .c (.sl s),.c j=>match at? A.sy s with
   | some f=>if aGa T f.k && aL6 s f j then (match j with
     | .int lo hi=>if decide (lo=hi) then some { r:=.c (.elp s f.k (.k lo.toNat) 0) } else some { r:=.c (.elp s f.k (.v A.ni) 0),nx:=true }
     | .num c _ _=>some { r:=.c (.elp s f.k (.v c) 0) }| _=>some { r:=.c (.elp s f.k (.v A.ni) 0),nx:=true }) else none
   | none=>none
  | _,_=>none
 | .slice T x (some lo) none none=>match A.ev x,A.ev lo with
  | .c (.sl s),.c (.int 1 1)=>match at? A.sy s with
   | some f=>if aGa T f.k && decide (1<=f.lo) then some { r:=.c (.sl A.sy.length),ns:=[sf f.k (f.lo-1) (f.hi-1) f.own] } else none
   | none=>none
  | _,_=>none
 | .slice T x none (some hi) none=>match A.ev x,A.ev hi with
  | .c (.sl s),.c (.int n m)=>match at? A.sy s with
   | some f=>if aGa T f.k && decide (n=m) && decide (0<=n) && decide (n<=f.lo) then some { r:=.c (.sl A.sy.length),ns:=[sf f.k n.toNat n.toNat f.own] } else none
   | none=>none
  | _,_=>none
 | .call c=>match c.callee with
  | .value (.func f)=>aE6 G A f (evs A c.args.toList)| .builtin .len=>match c.args.toList,c.argTypes.toList with
   | [x],[T]=>if (bH T SE).isSome then match A.ev x with
    | .c (.sl s)=>if (at? A.sy s).isSome then some { r:=.c (.len s 0) } else none
    | .c .nil=>some { r:=.c (.int 0 0) }| _=>none else none
   | _,_=>none
  | .builtin .append=>match c.args.toList,c.argTypes.toList with
   | [x,y],[T,T']=>if T == T' then match A.ev x,A.ev y with
    | .c .nil,.c (.sl s)=>match at? A.sy s with
     | some g=>if aGa T g.k && decide (g.hi<=1000000) && !(g.k.eq .bt) && (A.tg || !g.k.turn) then some { r:=.c (.sl A.sy.length),ns:=[sf g.k g.lo g.hi true],nt:=g.k.turn } else none
     | none=>none
    | .c (.sl q),.c (.sl s)=>match at? A.sy q,at? A.sy s with
     | some f,some g=>if aGa T g.k && f.k.eq g.k && decide (f.hi+g.hi<=1000000) && (f.own || !G.st) && (!(f.k.eq .bt) || f.c0) && (A.tg || !g.k.turn) then some { r:=.c (.sl A.sy.length),ns:=[{ k:=f.k,lo:=f.lo+g.lo,hi:=f.hi+g.hi,own:=f.own,abv:=if decide (1<=g.lo) then some q else none }],nq:=true,nt:=g.k.turn } else none
     | _,_=>none
    | _,_=>none else none
   | _,_=>none
  | _=>none
 | _=>none
def del {α:Type}(t:Nat):List (Nat × α)->List (Nat × α)
 | []=>[]| (k,x) :: l=>if k == t then del t l else (k,x) :: del t l
def AS.lay (A:AS)(d:Option Nat)(u:Out):AS where
 sl:=match d with|some t=>(t,u.r) :: del t A.sl|none=>A.sl
 sy:=A.sy++u.ns
 bk:=(match u.up with|some (b,l)=>(match at? A.bk b with|some (.cells T _)=>put A.bk b (.cells T l)|_=>A.bk)|none=>A.bk)++u.nb.toList
 ni:=if u.nx then A.ni+1 else A.ni
 cf:=A.cf
 nc:=u.nc++A.nc
 tg:=A.tg && !u.br
structure Ri where
 un:Bool
 cu:Bool
 nq:Bool
 nt:Bool
 br:Bool
 nm:Bool
 sp:Bool
 nk:Bool
def Ri.of (nk un:Bool)(u:Out):Ri:=⟨un,u.cu,u.nq,u.nt,u.br,u.nm,u.up.isSome || u.nb.isSome,nk⟩
def aL9:AV->Bool
 | .c (.elp _ _ _ _)=>true| _=>false
def aQp (A:AS)(o:Oper):Bool:=match o.op with
 | .move _=>true| .nilCheck _=>true| .fieldAddr _ _ _=>true| .indexAddr _ _ _=>true| .assign _=>true| .extract _ _=>true| .store _ x _=>aL9 (A.ev x)| _=>false
def wY (ops:List Oper)(A:AS)(is:List Ri)(o:Oper):Option (Option Bool):=match o.guard with
 | none=>some (some true)| some (g,w)=>match at? is g,at? ops g with
  | some r,some og=>match og.dst with
   | some t=>match bH t A.sl with
    | some (.c (.tv b))=>if r.un then some none else some (some (b == w))
    | some (.c (.bl _ _))=>some none| some (.c .und)=>if r.un then none else some (some false)
    | _=>none
   | none=>none
  | _,_=>none
def uD (ms:List Nat):List Edge->Nat
 | []=>0| e :: l=>if Region.binds .any e then uD ms l ||| ((1 <<< e.on) ||| (at? ms e.on).getD 0) else uD ms l
def kW:List Nat->List Oper->List Nat
 | ms,[]=>ms| ms,o :: l=>kW (ms++[uD ms o.after.toList]) l
def xA:Nat->List Oper->List Nat
 | _,[]=>[]| i,_ :: l=>((1 <<< i)-1) :: xA (i+1) l
def bit (ms:List Nat)(i j:Nat):Bool:=((at? ms i).getD 0).testBit j
def lJ (i:Nat):List Edge->Bool
 | []=>true| e :: l=>(!(Region.binds .any e) || decide (e.on<i)) && lJ i l
def jQ (t:Nat):Nat->List Oper->Option Nat
 | _,[]=>none| i,o :: l=>match o.dst with
  | some d=>if d == t then some i else jQ t (i+1) l
  | none=>jQ t (i+1) l
def gEq:Option (Nat × Bool)->Option (Nat × Bool)->Bool
 | some (a,b),some (c,d)=>a == c && b == d| none,none=>true| _,_=>false
def yJ (ops:List Oper)(ms:List Nat)(is:List Ri)(i:Nat)(g:Option (Nat × Bool))(pk:Option (Nat × Bool))(t:Nat):Bool:=match jQ t 0 ops with
 | none=>true| some j=>if decide (j<i) then bit ms i j && (match at? is j,at? ops j with
   | some r,some oj=>!r.un || gEq oj.guard g || (match oj.guard,pk with
    | some (gj,wj),some (c,Xe)=>wj == Xe && (match at? ops gj with|some og=>oEq og.dst (some c)|none=>false)
    | _,_=>false)
   | _,_=>false) else decide (i<j) && bit ms j i
def aDf (ops:List Oper)(ms:List Nat)(is:List Ri)(i:Nat)(g:Option (Nat × Bool))(pk:Option (Nat × Bool)):Operand->Bool
 | .tmp t=>yJ ops ms is i g pk t| _=>true
def yU (ops:List Oper)(ms:List Nat)(is:List Ri)(i:Nat)(g:Option (Nat × Bool)):List Operand->Bool
 | []=>true| x :: l=>aDf ops ms is i g none x && yU ops ms is i g l
def zH (ops:List Oper)(ms:List Nat)(is:List Ri)(i:Nat)(o:Oper):Bool:=match o.op with
 | .pick (.tmp c) a b=>yJ ops ms is i o.guard none c && aDf ops ms is i o.guard (some (c,true)) a && aDf ops ms is i o.guard (some (c,false)) b| op=>yU ops ms is i o.guard op.operands.toList
def oD (ms:List Nat)(i:Nat):Option (Nat × Bool)->Bool
 | none=>true| some (g,_)=>decide (g<i) && bit ms i g
def aCe (n:Nat):List Oper->Bool
 | []=>true| o :: l=>(match o.dst with|some d=>decide (d<n) && (jQ d 0 l).isNone|none=>true) && aCe n l
def inB (b n h:Nat)(l:List Nat)(s:Nat):Bool:=decide (s<b) || has s l || (decide (n<=s) && decide (s<h))
def aQt (A:AS):List Operand->List Nat
 | []=>[]| x :: l=>(A.ev x).sy++aQt A l
def aQv (A:AS):List Operand->List Nat
 | []=>[]| x :: l=>(A.ev x).bs++aQv A l
def aQu (A:AS):List Operand->List Nat
 | []=>[]| x :: l=>(A.ev x).is++aQu A l
def aF1 (A:AS)(b:Nat)(c:Operand):CV->CV
 | .bl t f=>.bl (t.filter fun x=>decide (x.s<b) || has x.s (A.ev c).sy) (f.filter fun x=>decide (x.s<b) || has x.s (A.ev c).sy)
 | x=>x
def trim (A:AS)(b:Nat)(o:Oper)(u:Out):Out:=match o.op,u.r with
 | .pick c _ _,.c x=>{ u with r:=.c (aF1 A b c x) }
 | _,_=>u
def aUk:Option (Nat × List CV)->List CV
 | some (_,l)=>l| none=>[]
def nbL:Option Bk->List CV
 | some (.cells _ l)=>l| _=>[]
def looks (o:Oper):List Operand:=match o.op with
 | .pick c _ _=>[c]| op=>op.operands.toList
def aTw (A:AS)(u:Out):Bool:=match u.up with
 | some (b,_)=>(match at? A.bk b with
  | some (.cells _ _)=>true| _=>false)
 | none=>true
def aUl (f:Nat->Bool):Option (Nat × List CV)->Bool
 | some (b,_)=>f b| none=>true
def spk (B A:AS)(o:Oper)(u:Out):Bool:=
 let iS:=inB B.sy.length A.sy.length (A.sy.length+u.ns.length) (aQt A (looks o))
 let iB:=inB B.bk.length A.bk.length (A.bk.length+u.nb.toList.length) (aQv A (looks o))
 let iX:=inB B.ni A.ni (if u.nx then A.ni+1 else A.ni) (aQu A (looks o))
 aUl iB u.up && aTw A u && u.r.sy.all iS && u.r.bs.all iB && u.r.is.all iX &&
 (aUk u.up++nbL u.nb).all (fun x=>x.sy.all iS && x.bs.all iB && x.is.all iX) &&
 u.ns.all (fun f=>f.sy.all iS) && u.nc.all (fun c=>iS c.s && iS c.r && c.ix.is.all iX)
def aQn (u:Out):Bool:=u.up.isNone && u.nb.isNone && !u.br && u.ns.all fun f=>f.lo == 0 && !f.un && f.abv.isNone
def noNc (b:Bool)(u:Out):Out:=if b then { u with nc:=[] } else u
def wP:Option Bool->Bool
 | none=>true| _=>false
def pre:List Oper->List Bk
 | []=>[]| o :: l=>match o.op with
  | .alloc T=>(match bH T TZ with
   | some (z,_)=>.cells T z :: pre l| none=>.cur :: pre l)
  | _=>pre l
def nAl:Nat->List Oper->Nat
 | 0,_=>0| _,[]=>0| i+1,o :: l=>match o.op with
  | .alloc _=>nAl i l+1| _=>nAl i l
def aF6 (G:Cfg)(ops:List Oper)(B A:AS)(i:Nat)(o:Oper):Option Out:=match o.op with
 | .alloc T=>(match bH T TZ,o.guard with
  | some _,none=>some { r:=.c (.ptr (B.bk.length+nAl i ops) 0) }| _,_=>none)
 | _=>(bP G A o).bind fun u=>if spk B A o (trim A B.sy.length o u) then some u else none
def tR (G:Cfg)(ops:List Oper)(ms:List Nat)(B:AS):Nat->List Oper->AS->List Ri->Option (AS × List Ri)
 | _,[],A,is=>some (A,is)| i,o :: r,A,is=>if lJ i o.after.toList && oD ms i o.guard && zH ops ms is i o then (match wY ops A is o with
  | some (some false)=>tR G ops ms B (i+1) r (A.lay o.dst { r:=.c .und }) (is++[Ri.of true false { r:=.c .und }])| some st=>(aF6 G ops B A i o).bind fun u=>if !(wP st) || aQn u then tR G ops ms B (i+1) r (A.lay o.dst (noNc (wP st) (trim A B.sy.length o u))) (is++[Ri.of (aQp A o) (wP st) u]) else none
  | none=>none) else none
def lV:List Oper->List Ri->List (Nat × AV)->List (Nat × AV)
 | o :: l,r :: m,sl=>match o.dst with
  | some t=>lV l m (if r.un then del t sl else sl)
  | none=>lV l m sl
 | _,_,sl=>sl
def aOa (ms:List Nat)(m:Nat)(rm:Ri):Nat->List Ri->Bool
 | _,[]=>true| j,r :: l=>(j == m || ((!(rm.nq && r.cu) || bit ms m j) && (!(rm.br || rm.sp) || bit ms m j || bit ms j m || r.nk))) && aOa ms m rm (j+1) l
def aBc (ms:List Nat)(is:List Ri):Nat->List Ri->Bool
 | _,[]=>true| m,r :: l=>!(r.sp && r.nk) && aOa ms m r 0 is && aBc ms is (m+1) l
def xU:List Ri->Bool
 | []=>false| r :: l=>r.nq || xU l
def aMv (A:AS):List Cf->Bool
 | []=>true| c :: l=>A.kd c.s c.k && !(c.k.eq .bt) && decide (c.r<A.sy.length) && aMv A l
def pC (K:List Nat):List (Nat × AV)->List (Nat × AV)
 | []=>[]| (k,x) :: l=>if has k K then (k,x) :: pC K l else pC K l
section
variable {α β γ:Type}
def fN (n:Nat)(k:Nat->α):α:=match n with|0=>k 0|m+1=>k (m+1)
def fI (x:Int)(k:Int->α):α:=match x with|.ofNat n=>fN n fun n=>k (.ofNat n)|.negSucc n=>fN n fun n=>k (.negSucc n)
def fB (b:Bool)(k:Bool->α):α:=match b with|true=>k true|false=>k false
def fL (f:β->(β->α)->α):List β->(List β->α)->α
 | [],k=>k []| x :: l,k=>f x fun x=>fL f l fun l=>k (x :: l)
def fO (f:β->(β->α)->α):Option β->(Option β->α)->α
 | none,k=>k none| some x,k=>f x fun x=>k (some x)
def fX (x:Ix)(k:Ix->α):α:=match x with|.u=>k .u|.k n=>fN n fun n=>k (.k n)|.v n=>fN n fun n=>k (.v n)
def fR (x:Rs)(k:Rs->α):α:=match x with|.bt=>k .bt|.ii=>k .ii|.st=>k .st|.rc t=>fN t fun t=>k (.rc t)
def fT (x:Ct)(k:Ct->α):α:=match x with|⟨s,n,g⟩=>fN s fun s=>fN n fun n=>fB g fun g=>k ⟨s,n,g⟩
def fC (x:CV)(k:CV->α):α:=match x with
 | .top=>k .top| .und=>k .und| .int a b=>fI a fun a=>fI b fun b=>k (.int a b)
 | .len a b=>fN a fun a=>fN b fun b=>k (.len a b)
 | .idx a b=>fN a fun a=>fN b fun b=>k (.idx a b)
 | .num c a b=>fN c fun c=>fN a fun a=>fN b fun b=>k (.num c a b)
 | .byte=>k .byte| .tv b=>fB b fun b=>k (.tv b)
 | .bl a b=>fL fT a fun a=>fL fT b fun b=>k (.bl a b)
 | .str=>k .str| .sl s=>fN s fun s=>k (.sl s)
 | .nil=>k .nil| .ptr a b=>fN a fun a=>fN b fun b=>k (.ptr a b)
 | .elp a r i b=>fN a fun a=>fR r fun r=>fX i fun i=>fN b fun b=>k (.elp a r i b)
def fA (x:AV)(k:AV->α):α:=match x with
 | .c x=>fC x fun x=>k (.c x)
 | .rc t=>fN t fun t=>k (.rc t)
 | .agg l=>fL fC l fun l=>k (.agg l)
 | .tup t x=>fN t fun t=>fC x fun x=>k (.tup t x)
def fF (x:SF)(k:SF->α):α:=match x with|⟨r,a,b,p,q,s,v⟩=>fR r fun r=>fN a fun a=>fN b fun b=>fB p fun p=>fB q fun q=>fB s fun s=>fO fN v fun v=>k ⟨r,a,b,p,q,s,v⟩
def fK (x:Bk)(k:Bk->α):α:=match x with
 | .cur=>k .cur| .cells T l=>fN T fun T=>fL fC l fun l=>k (.cells T l)
def fG (x:Cf)(k:Cf->α):α:=match x with|⟨s,r,i,p,q⟩=>fN s fun s=>fR r fun r=>fX i fun i=>fN p fun p=>fN q fun q=>k ⟨s,r,i,p,q⟩
def fP (x:Nat × AV)(k:Nat × AV->α):α:=match x with|(n,a)=>fN n fun n=>fA a fun a=>k (n,a)
def fS (A:AS)(k:AS->α):α:=match A with|⟨a,b,c,d,e,f,g⟩=>fL fP a fun a=>fL fF b fun b=>fL fK c fun c=>fN d fun d=>fL fG e fun e=>fL fG f fun f=>fB g fun g=>k ⟨a,b,c,d,e,f,g⟩
end
def aNa:List Oper->Bool
 | []=>true| o :: l=>(match o.op with
  | .alloc T=>(bH T TZ).isSome && o.guard.isNone| _=>true) && aNa l
def region (G:Cfg)(A:AS)(ops:Array Oper)(dr:Bool):Option AS:=
 let l:=ops.toList
 let ms:=if dr then kW [] l else xA 0 l
 if aCe G.nt l && aNa l then (tR G l ms A 0 l { A with nc:=[],bk:=A.bk++pre l } []).bind fun p=>if aBc ms p.2 0 p.2 && aMv p.1 (p.1.nc++p.1.cf) then fS { p.1 with sl:=pC G.keep (lV l p.2 p.1.sl),cf:=if xU p.2 then [] else p.1.nc++p.1.cf,nc:=[] } some else none else none
inductive Ex where
 | normal|exit (id:Nat)|ret
def refine:List Ct->AS->Option AS
 | [],A=>some A| c :: r,A=>match at? A.sy c.s with
  | some f=>if c.gt then (if decide (f.hi<=c.k) then none else refine r { A with sy:=put A.sy c.s { f with lo:=max f.lo (c.k+1) } })
   else (if decide (c.k<f.lo) then none else refine r { A with sy:=put A.sy c.s { f with hi:=min f.hi c.k } })
  | none=>none
abbrev Mp:=List (Option Nat)
structure Jn where
 keys:List (Option Nat × Option Nat)
 sy:List SF
def aOo (x y:Option Nat):Nat->List (Option Nat × Option Nat)->Option Nat
 | _,[]=>none| i,(a,b) :: l=>if oEq a x && oEq b y then some i else aOo x y (i+1) l
def aPb (f g:SF):Option SF:=if f.k.eq g.k then some { k:=f.k,lo:=min f.lo g.lo,hi:=max f.hi g.hi,own:=f.own && g.own,un:=f.un && g.un,c0:=f.c0 && g.c0 } else none
def aTx (A:AS)(k:Rs):Option Nat->Option SF
 | some s=>at? A.sy s| none=>some { k:=k,lo:=0,hi:=0,own:=true,c0:=true }
def aJh (A B:AS):Option Nat->Option Nat->Rs
 | some s,_=>match at? A.sy s with|some f=>f.k|none=>.bt
 | none,some s=>match at? B.sy s with|some f=>f.k|none=>.bt
 | none,none=>.bt
def aBs (A B:AS)(x y:Option Nat)(J:Jn):Option (Nat × Jn):=
 match aOo x y 0 J.keys with
 | some i=>some (i,J)| none=>match aTx A (aJh A B x y) x,aTx B (aJh A B x y) y with
  | some f,some g=>(aPb f g).map fun h=>(J.keys.length,⟨J.keys++[(x,y)],J.sy++[h]⟩)
  | _,_=>none
def aPc (A B:AS)(x y:CV)(J:Jn):CV × Jn:=
 match x,y with
 | .sl s,.sl t=>match aBs A B (some s) (some t) J with|some (i,J)=>(.sl i,J)|none=>(.top,J)
 | .nil,.sl t=>match aBs A B none (some t) J with|some (i,J)=>(.sl i,J)|none=>(.top,J)
 | .sl s,.nil=>match aBs A B (some s) none J with|some (i,J)=>(.sl i,J)|none=>(.top,J)
 | .nil,.nil=>(.nil,J)| .und,.und=>(.und,J)| .byte,.byte=>(.byte,J)| .str,.str=>(.str,J)| .ptr b p,.ptr b' p'=>if b == b' && p == p' then (.ptr b p,J) else (.top,J)
 | .elp s k _ p,.elp t k' _ p'=>if k.eq k' && p == p' then match aBs A B (some s) (some t) J with|some (i,J)=>(.elp i k .u p,J)|none=>(.top,J) else (.top,J)
 | .tv b,.tv b'=>if b == b' then (.tv b,J) else (.bl [] [],J)
 | .tv _,.bl _ _=>(.bl [] [],J)| .bl _ _,.tv _=>(.bl [] [],J)| .bl _ _,.bl _ _=>(.bl [] [],J)| .idx s k,.idx t k'=>if k == k' then match aBs A B (some s) (some t) J with|some (i,J)=>(.idx i k,J)|none=>(.top,J) else (.top,J)
 | .len s k,.len t k'=>if k == k' then match aBs A B (some s) (some t) J with|some (i,J)=>(.len i k,J)|none=>(.top,J) else (.top,J)
 | x,y=>match A.rng x,B.rng y with
  | some (a,b),some (c,d)=>(.int (min a c) (max b d),J)| _,_=>(.top,J)
def aL3 (A B:AS):List CV->List CV->Jn->List CV × Jn
 | x :: l,y :: r,J=>let p:=aPc A B x y J;let q:=aL3 A B l r p.2;(p.1 :: q.1,q.2)| _,_,J=>([],J)
def aSg (A B:AS)(x y:AV)(J:Jn):AV × Jn:=
 match x,y with
 | .c x,.c y=>let p:=aPc A B x y J;(.c p.1,p.2)| .rc t,.rc t'=>if t == t' then (.rc t,J) else (.c .top,J)
 | .agg l,.agg r=>if l.length == r.length then (let p:=aL3 A B l r J;(.agg p.1,p.2)) else (.c .top,J)
 | _,_=>(.c .top,J)
def aD2 (A B:AS):List (Nat × AV)->Jn->List (Nat × AV) × Jn
 | [],J=>([],J)| (n,x) :: l,J=>match bH n B.sl with
  | some y=>let p:=aSg A B x y J;let q:=aD2 A B l p.2;((n,p.1) :: q.1,q.2)| none=>aD2 A B l J
def aL4 (A B:AS):List Bk->List Bk->Jn->List Bk × Jn
 | .cur :: l,.cur :: r,J=>let q:=aL4 A B l r J;(.cur :: q.1,q.2)| .cells T x :: l,.cells T' y :: r,J=>if T == T' && x.length == y.length then (let p:=aL3 A B x y J;let q:=aL4 A B l r p.2;(.cells T p.1 :: q.1,q.2)) else ([],J)
 | _,_,J=>([],J)
def aP1 (n:Nat):CV->CV
 | .ptr b p=>if decide (b<n) then .ptr b p else .top
 | x=>x
def aS9 (n:Nat):AV->AV
 | .c x=>.c (aP1 n x)| .agg l=>.agg (l.map (aP1 n))| x=>x
def aPd (e:Nat)(A B:AS):AS:=
 let J0:Jn:=⟨(List.range e).map fun i=>(some i,some i),(A.sy.zip B.sy).take e |>.map fun p=>((aPb p.1 p.2).getD p.1)⟩
 let p:=aL4 A B A.bk B.bk J0
 let q:=aD2 A B A.sl p.2
 fS ⟨q.1.map fun z=>(z.1,aS9 p.1.length z.2),q.2.sy,p.1,0,[],[],A.tg && B.tg⟩ fun x=>x
def sEq (m:Mp)(i s:Nat):Bool:=match at? m i with|some (some t)=>t == s|_=>false
def leC (B:AS)(m:Mp)(x y:CV):Bool:=
 match x with
 | .top=>true| .und=>match y with|.und=>true|_=>false
 | .int lo hi=>match B.rng y with|some (a,b)=>decide (lo<=a) && decide (b<=hi)|none=>false
 | .len s k=>match y with|.len t k'=>sEq m s t && k == k'|_=>false
 | .idx s k=>match y with|.idx t k'=>sEq m s t && k == k'|_=>false
 | .num _ _ _=>false| .byte=>match y with|.byte=>true|_=>false
 | .tv b=>match y with|.tv b'=>b == b'|_=>false
 | .bl [] []=>isB y| .bl t f=>false| .str=>match y with|.str=>true|_=>false
 | .sl s=>match y with|.sl t=>sEq m s t|.nil=>(match at? m s with|some none=>true|_=>false)|_=>false
 | .nil=>match y with|.nil=>true|_=>false
 | .ptr b p=>match y with|.ptr b' p'=>b == b' && p == p'|_=>false
 | .elp s k .u p=>match y with|.elp t k' _ p'=>sEq m s t && k.eq k' && p == p'|_=>false
 | .elp _ _ _ _=>false
def leL (B:AS)(m:Mp):List CV->List CV->Bool
 | [],[]=>true| x :: l,y :: r=>leC B m x y && leL B m l r| _,_=>false
def leA (B:AS)(m:Mp)(x y:AV):Bool:=
 match x,y with
 | .c .top,_=>true| .c x,.c y=>leC B m x y| .rc t,.rc t'=>t == t'| .agg l,.agg r=>leL B m l r| _,_=>false
def aQq (B:AS)(m:Mp):List (Nat × AV)->Bool
 | []=>true| (n,x) :: l=>(match bH n B.sl with|some y=>leA B m x y|none=>false) && aQq B m l
def leB (B:AS)(m:Mp):List Bk->List Bk->Bool
 | [],_=>true| .cur :: l,.cur :: r=>leB B m l r| .cells T x :: l,.cells T' y :: r=>T == T' && leL B m x y && leB B m l r| _,_=>false
def leF (f g:SF):Bool:=f.k.eq g.k && decide (f.lo<=g.lo) && decide (g.hi<=f.hi) && (!f.own || g.own) && (!f.un || g.un) && (!f.c0 || g.c0) && f.abv.isNone
def aM6 (B:AS):Mp->List SF->Bool
 | [],[]=>true| some s :: m,f :: l=>(match at? B.sy s with|some g=>leF f g|none=>false) && aM6 B m l
 | none :: m,f :: l=>f.lo == 0 && !f.un && f.abv.isNone && aM6 B m l| _,_=>false
def aQr:Nat->Nat->Mp->Bool
 | 0,_,_=>true| e+1,i,some s :: m=>s == i && aQr e (i+1) m| _,_,_=>false
def aI2 (A:AS):Bool:=A.sl.all (fun p=>p.2.bs.all fun b=>Nat.blt b A.bk.length) && A.bk.all (fun x=>x.bs.all fun b=>Nat.blt b A.bk.length)
def le (eb e:Nat)(A B:AS)(m:Mp):Bool:=aQq B m A.sl && leB B m A.bk B.bk && aM6 B m A.sy && aQr e 0 m && (!A.tg || B.tg) && (match A.cf with|[]=>true|_=>false) && Nat.ble eb A.bk.length && aI2 A
def aT3:CV->CV->Mp->Mp
 | .sl s,.sl t,m=>put m s (some t)| .sl s,.nil,m=>put m s none| .len s _,.len t _,m=>put m s (some t)| .idx s _,.idx t _,m=>put m s (some t)| .elp s _ _ _,.elp t _ _ _,m=>put m s (some t)| _,_,m=>m
def aR3:List CV->List CV->Mp->Mp
 | x :: l,y :: r,m=>aR3 l r (aT3 x y m)| _,_,m=>m
def aUz:AV->AV->Mp->Mp
 | .c x,.c y,m=>aT3 x y m| .agg l,.agg r,m=>aR3 l r m| _,_,m=>m
def aK9 (B:AS):List (Nat × AV)->Mp->Mp
 | [],m=>m| (n,x) :: l,m=>match bH n B.sl with|some y=>aK9 B l (aUz x y m)|none=>aK9 B l m
def aR4:List Bk->List Bk->Mp->Mp
 | .cells _ x :: l,.cells _ y :: r,m=>aR4 l r (aR3 x y m)| _ :: l,_ :: r,m=>aR4 l r m| _,_,m=>m
def aGz (e:Nat)(A B:AS):Mp:=aK9 B A.sl (aR4 A.bk B.bk ((List.range A.sy.length).map fun i=>if decide (i<e) then some i else none))
def aL5 (e:Nat):List AS->Option AS
 | []=>none| A :: l=>some (l.foldl (aPd e) (aPd e A A))
def all (eb e:Nat)(J:AS):List AS->Bool
 | []=>true| A :: l=>le eb e J A (aGz e J A) && all eb e J l
def aGy (eb e:Nat)(l:List AS):Option AS:=(aL5 e l).bind fun J=>if all eb e J l then some J else none
def oS:List (Ex × AS)->List AS
 | []=>[]| (.normal,A) :: l=>A :: oS l| _ :: l=>oS l
def tV:List (Ex × AS)->List (Ex × AS)
 | []=>[]| (.normal,_) :: l=>tV l| p :: l=>p :: tV l
def xL (id:Nat):List (Ex × AS)->List AS
 | []=>[]| (.normal,A) :: l=>A :: xL id l| (.exit i,A) :: l=>if i == id then A :: xL id l else xL id l
 | _ :: l=>xL id l
def stays (id:Nat):List (Ex × AS)->List (Ex × AS)
 | []=>[]| (.normal,_) :: l=>stays id l| (.exit i,A) :: l=>if i == id then stays id l else (.exit i,A) :: stays id l
 | p :: l=>p :: stays id l
def aF2 (f:AS->Option (List (Ex × AS))):List AS->Option (List (Ex × AS))
 | []=>some []| A :: l=>(f A).bind fun x=>(aF2 f l).map fun y=>x++y
def rounds (eb e:Nat)(f:AS->Option (List (Ex × AS))):Nat->List AS->Option (List (Ex × AS))
 | _,[]=>some []| 0,_ :: _=>none| n+1,A :: l=>(aGy eb e (A :: l)).bind fun H=>(f H).bind fun x=>(rounds eb e f n (oS x)).map fun y=>tV x++y
def nR (G:Cfg)(eb e:Nat):Nat->Code->AS->Option (List (Ex × AS))
 | 0,_,_=>none| n+1,c,A=>match c with
  | .skip=>some [(.normal,A)]| .label _=>some [(.normal,A)]| .region _ ops dr=>(region G A ops dr).map fun B=>[(.normal,B)]
  | .seq x y=>(nR G eb e n x A).bind fun l=>(aF2 (nR G eb e n y) (oS l)).map fun r=>tV l++r
  | .cond c x y=>match A.ev c with
   | .c (.tv true)=>nR G eb e n x A| .c (.tv false)=>nR G eb e n y A| .c (.bl t f)=>(match refine t A with|some B=>fS B (nR G eb e n x)|none=>some []).bind fun l=>(match refine f A with|some B=>fS B (nR G eb e n y)|none=>some []).map fun r=>l++r
   | _=>none
  | .block id b=>(nR G eb e n b A).bind fun l=>match xL id l with
   | []=>some (stays id l)| B :: r=>(aGy eb e (B :: r)).map fun J=>(.normal,J) :: stays id l
  | .loop b=>rounds eb e (nR G eb e n b) 30 [A]| .exit id=>some [(.exit id,A)]| .ret=>some [(.ret,A)]| _=>none
def aRt (A:AS):ResultVar->Option AV
 | .tmp t=>bH t A.sl| .cell t T=>match bH t A.sl,cells T with
  | some (.c (.ptr b 0)),some n=>match at? A.bk b with
   | some (.cells _ l)=>if n == 1 then none else if l.length == n then some (.agg l) else none
   | _=>none
  | _,_=>none
def aDe (A:AS)(st:Bool):CV->Bool
 | .nil=>true| .sl s=>match at? A.sy s with
  | some f=>f.own || !st| none=>false
 | _=>false
def AS.slC (A:AS):CV->Bool
 | .nil=>true| .sl s=>(at? A.sy s).isSome| _=>false
def aGm (A:AS)(st:Bool):RP->List AV->Bool
 | .int lo hi,[.c x]=>match A.rng x with
  | some (a,b)=>decide (lo<=a) && decide (b<=hi)| none=>false
 | .bool,[.c x]=>isB x| .sl k lo hi,[.c x]=>A.sOk k lo hi x && aDe A st x| .num,[.agg [x,y,.nil,.nil,.nil]]=>A.fit .n x && A.fit .n y| .vr,[.agg [x,y,.nil,z,.nil]]=>A.fit .n x && A.fit .n y && A.fit (.b 4) z| .rc t,[v]=>A.fitE (.rc t) v && (match v with|.c _=>false|_=>true)
 | .tb t,[v,.c x]=>A.fitE (.rc t) v && (match v with|.c _=>false|_=>true) && isB x
 | .ti t,[v,.c x]=>A.fitE (.rc t) v && (match v with|.c _=>false|_=>true) && A.fit .n x
 | .t3 k lo hi,[.c x,_,.agg [y,z,u]]=>A.sOk k lo hi x && aDe A st x && A.slC y && A.slC z && A.slC u| .ts t k lo hi,[v,.c x]=>A.fitE (.rc t) v && (match v with|.c _=>false|_=>true) && A.sOk k lo hi x && aDe A st x
 | _,_=>false
def kU (A:AS):List ResultVar->Option (List AV)
 | []=>some []| r :: l=>(aRt A r).bind fun x=>(kU A l).map fun y=>x :: y
def xO (fn:Func)(st:Bool)(res:RP):List (Ex × AS)->Bool
 | []=>true| (.exit _,_) :: _=>false| (_,A) :: l=>(match kU A fn.results.toList with|some vs=>aGm A st res vs|none=>false) && xO fn st res l
def oR:Nat->List AV->List (Nat × AV)
 | _,[]=>[]| i,x :: l=>(i,x) :: oR (i+1) l
end Eg
end
namespace Eg
def zV (P:Program)(T:Nat):Option (Nat × Nat × Value):=match P.info? T with
  | some i=>match i.zero with|some z=>some (i.size,i.bytes,z)|none=>none
  | none=>none
def lX (P:Program)(fs:Array Field)(ds:List Nat):Nat->Bool
  | 0=>true| n+1=>(match fs[n]?,at? ds n with
    | some f,some d=>f.offset == d && (match P.info? f.type with|some fi=>fi.size != 0|none=>false)
    | _,_=>false) && lX P fs ds n
def aTb:CV->CV->Bool
  | .top,.top=>true| .int a b,.int c d=>decide (a=c) && decide (b=d)| .nil,.nil=>true| .tv a,.tv b=>a == b| _,_=>false
def aIg:List CV->List CV->Bool
  | [],[]=>true| x :: l,y :: r=>aTb x y && aIg l r| _,_=>false
def pEq:List (Nat × Nat)->List (Nat × Nat)->Bool
  | [],[]=>true| (a,b) :: l,(c,d) :: r=>a == c && b == d && pEq l r| _,_=>false
theorem aI6:∀{l r:List (Nat × Nat)},pEq l r=true->l=r
  | [],[],_=>rfl| _ :: _,[],h=>by cases h
  | [],_ :: _,h=>by cases h
  | (a,b) :: l,(c,d) :: r,h=>by
    simp only[pEq,zC0,beq_iff_eq]at h;rw[h.1.1,h.1.2,aI6 h.2]
def aF0 (P:Program):List (Nat × List CV × List Nat)->Bool
  | []=>true| (T,z,ds) :: l=>(match P.underlying T,zV P T with
    | some (.struct fs),some (n,b,.agg cs)=>fs.size == ds.length && lX P fs ds ds.length && n == z.length && cs.size == n && aIg (cs.toList.map aFl) z && decide (1<n) && decide (b<=1000) && (match fs.toList.mapM (fun f=>(P.info? f.type).map fun i=>(f.offset,i.size)) with|some ps=>pEq ps (plc n ds)|none=>false)
    | _,_=>false) && aF0 P l
def aF4 (P:Program):List Nat->Bool
  | []=>true| T :: l=>(match P.underlying T,P.info? T with
    | some (.struct _),_=>false| some (.array _ _),_=>false| some _,some i=>i.size == 1| _,_=>false) && aF4 P l
def aGb (P:Program):List (Nat × Nat)->Bool
  | []=>true| (T,e) :: l=>(match P.underlying T with
    | some (.slice e')=>e' == e| _=>false) && aGb P l
def aJl (P:Program)(k:Rs):Bool:=match zV P k.ty with
  | some (n,b,z)=>n == k.k && z.cells.size == n && decide (b<=1000)| none=>false
def aG4 (P:Program):Nat->Bool
  | 0=>true| n+1=>aJl P (.rc n) && aG4 P n
theorem vP:aF0 Tryz.prog TZ=true:=by kernel_rfl
theorem aNk:aF4 Tryz.prog T1=true:=by kernel_rfl
theorem aRq:aGb Tryz.prog SE=true:=by kernel_rfl
theorem aU3:(aJl Tryz.prog .bt && aJl Tryz.prog .ii && aJl Tryz.prog .st && aG4 Tryz.prog 25)=true:=by kernel_rfl
theorem pE {T n b:Nat}{z:Value}(h:zV Tryz.prog T=some (n,b,z)):(Tryz.prog.info? T).map (fun i=>(i.zero,i.size,i.bytes))=some (some z,n,b):=by
  unfold zV at h;split at h
  . rename_i i hi
    split at h
    . rename_i z' hz
      simp only[zG2,Prod.mk.injEq]at h;obtain⟨rfl,rfl,rfl⟩:=h;rw[hi];simp[hz]
    . cases h
  . cases h
theorem rV:∀(n:Nat),aG4 Tryz.prog n=true->∀t,t<n->aJl Tryz.prog (.rc t)=true
  | 0,_,t,ht=>by omega
  | n+1,h,t,ht=>by
    simp only[aG4,zC0]at h;by_cases e:t=n
    . subst e;exact h.1
    . exact rV n h.2 t A0
theorem aQl (t:Nat)(h:25<=t):Dt t=Dt 0:=by
  unfold Dt;split <;> first|omega|rfl
theorem aHd (k:Rs):aJl Tryz.prog k=true:=by
  have h:=aU3;simp only[zC0]at h;cases k with
  | bt=>exact h.1.1.1| ii=>exact h.1.1.2| st=>exact h.1.2| rc t=>
    by_cases ht:t<25
    . exact rV 25 h.2 t ht
    . have e:=aQl t A0
      have h0:=rV 25 h.2 0 A0;unfold aJl Rs.ty Rs.k at *;simp only[e];exact h0
theorem aHc (k:Rs):∃z b,(Tryz.prog.info? k.ty).map (fun i=>(i.zero,i.size,i.bytes))=some (some z,k.k,b)/\z.cells.size=k.k/\b<=1000:=by
  have h:=aHd k;unfold aJl at h;split at h
  . rename_i n b z hi
    simp only[zC0,beq_iff_eq,zE3]at h;obtain⟨⟨h1,h2⟩,h3⟩:=h;subst h1;exact⟨z,b,pE hi,h2,h3⟩
  . cases h
theorem aTy:∀{l:List (Nat × Nat)},aGb Tryz.prog l=true->∀{T e:Nat},bH T l=some e->Tryz.prog.underlying T=some (.slice e)
  | [],_,_,_,h=>by cases h
  | (k,x) :: l,hc,T,e,h=>by
    simp only[aGb,zC0]at hc;simp only[bH]at h;split at h
    . rename_i hk
      simp only[beq_iff_eq]at hk;subst hk;cases h;have h1:=hc.1;split at h1
      . rename_i e' he
        simp only[beq_iff_eq]at h1;subst h1;exact he
      . cases h1
    . exact aTy hc.2 h
theorem nX {T e:Nat}(h:bH T SE=some e):Tryz.prog.underlying T=some (.slice e):=aTy aRq h
theorem dM {α:Type}:∀(l:List α) (n:Nat),at? l n=l[n]?
  | [],_=>by simp[at?]
  | _ :: _,0=>rfl| _ :: l,n+1=>by rw[at?,List.getElem?_cons_succ];exact dM l n
theorem aC2 {α:Type}:∀(l:List α) (n:Nat) (y:α),put l n y=l.set n y
  | [],_,_=>rfl| _ :: _,0,_=>rfl| _ :: l,n+1,y=>by rw[put,List.set_cons_succ,aC2 l n y]
theorem pO {fs:Array Field}{ds:List Nat}:∀(n:Nat),lX Tryz.prog fs ds n=true->∀j,j<n->∃f d fi,fs[j]?=some f/\at? ds j=some d/\f.offset=d/\Tryz.prog.info? f.type=some fi/\fi.size ≠ 0
  | 0,_,j,hj=>by omega
  | n+1,h,j,hj=>by
    simp only[lX,zC0]at h;by_cases e:j=n
    . subst e
      have h1:=h.1;split at h1
      . rename_i f d h2 h3
        simp only[zC0,beq_iff_eq]at h1;obtain⟨h4,h5⟩:=h1;split at h5
        . rename_i fi hfi
          exact⟨f,d,fi,h2,h3,h4,hfi,by simpa using h5⟩
        . cases h5
      . cases h1
    . exact pO n h.2 j A0
theorem aMt:∀{x y:CV},aTb x y=true->x=y:=by
  intro x y h;cases x <;> cases y <;> simp_all[aTb]
theorem aAk:∀{l r:List CV},aIg l r=true->l=r
  | [],[],_=>rfl| _ :: _,[],h=>by cases h
  | [],_ :: _,h=>by cases h
  | x :: l,y :: r,h=>by
    simp only[aIg,zC0]at h;rw[aMt h.1,aAk h.2]
theorem aIw:∀{l:List (Nat × List CV × List Nat)},aF0 Tryz.prog l=true->∀{T:Nat} {z:List CV} {ds:List Nat},bH T l=some (z,ds)->∃fs b cs,Tryz.prog.underlying T=some (.struct fs)/\fs.size=ds.length/\lX Tryz.prog fs ds ds.length=true ∧
      (Tryz.prog.info? T).map (fun i=>(i.zero,i.size,i.bytes))=some (some (.agg cs),z.length,b)/\cs.size=z.length/\cs.toList.map aFl=z/\1<z.length/\fs.toList.mapM (fun f=>(Tryz.prog.info? f.type).map fun i=>(f.offset,i.size))=some (plc z.length ds)
  | [],_,_,_,_,h=>by cases h
  | (k,x,y) :: l,hc,T,z,ds,h=>by
    simp only[aF0,zC0]at hc;simp only[bH]at h;split at h
    . rename_i hk
      simp only[beq_iff_eq]at hk;subst hk;simp only[zG2,Prod.mk.injEq]at h;obtain⟨rfl,rfl⟩:=h;have h1:=hc.1;split at h1
      . rename_i fs n b cs h2 h3
        simp only[zC0,beq_iff_eq,zE3]at h1;obtain⟨⟨⟨⟨⟨⟨⟨a1,a2⟩,a3⟩,a4⟩,a5⟩,a6⟩,a7⟩,a8⟩:=h1;subst a3;refine⟨fs,b,cs,h2,a1,a2,pE h3,a4,aAk a5,a6, ?_⟩;split at a8
        . rename_i ps hps
          rw[hps,aI6 a8]
        . cases a8
      . cases h1
    . exact aIw hc.2 h
theorem aQ7:∀{l:List Nat},aF4 Tryz.prog l=true->∀{T:Nat},has T l=true->∃d i,Tryz.prog.underlying T=some d/\(∀fs,d ≠ .struct fs)/\(∀n e,d ≠ .array n e)/\Tryz.prog.info? T=some i/\i.size=1
  | [],_,_,h=>by cases h
  | k :: l,hc,T,h=>by
    simp only[aF4,zC0]at hc;simp only[has,Bool.or_eq_true,beq_iff_eq]at h;rcases h with rfl|h
    . have h1:=hc.1
      split at h1
      . cases h1
      . cases h1
      . rename_i d i n1 n2 hu hi
        simp only[beq_iff_eq]at h1;exact⟨d,i,hu,fun fs e=>n1 fs A82,fun n e e'=>n2 n e (by rw[e']),hi,h1⟩
      . cases h1
    . exact aQ7 hc.2 h
end Eg
section
theorem A53{p:Prop}(h:p:=by rw[hup]at e;cases e):p:=h
theorem A63{p:Prop}(h:p:=by rw[Ba]at e;cases e):p:=h
theorem A80{p:Prop}(h:p:=by simp[at?]at hq):p:=h
theorem QA74{p:Prop}(h:p:=by
 cases x <;> simp only[AS.fitE,Bool.false_eq_true]at hf
 rename_i y
 cases y <;> simp at hf
 obtain⟨n,rfl,h1⟩:=hx
 exact⟨n,rfl,h1⟩):p:=h
theorem QA94{p:Prop}(h:p:=by
 exact⟨_,rfl,by omega,by omega⟩):p:=h
theorem QA104{p:Prop}(h:p:=by
 obtain⟨n,rfl,h1,h2⟩:=iE h hx hs hr
 unfold mn mx at hf
 exact⟨n,rfl,by unfold I64;omega⟩):p:=h
namespace Eg
variable{A:AS}{a:Act}{C:Cx}{Q:Exit->Act->World->Prop}{us:List Value}{c:Nat}{B S X:Nat->Prop}{τ:Sm}{v:Value}{U:Value->Prop}{V V':Vl}{w w':World}
structure Kn (C:Cx) (U:Value->Prop) (A:AS) (S B X:Nat->Prop) (τ:Sm) (V:Vl) (w:World):Prop where
 fr:Fr C τ w
 sy:∀s f,at? A.sy s=some f->S s->f.ok C U τ V (V.ρ s)
 sc:∀s f,at? A.sy s=some f->S s->∀t ∈ f.sy,S t
 bk:∀n x,at? A.bk n=some x->B n->x.ok V w (V.β n)/\τ (V.β n)=none/\V.β n<w.heap.size/\(V.β n ∈ C.K\/C.w0.heap.size<=V.β n)
 bc:∀n x,at? A.bk n=some x->B n->(∀s ∈ x.sy,S s)/\(∀m ∈ x.bs,B m)/\(∀c ∈ x.is,X c)
 dj:∀n m x y,at? A.bk n=some x->at? A.bk m=some y->B n->B m->n ≠ m->V.β n ≠ V.β m
 lo:∀n,at? A.bk n=some .cur->B n->V.β n<=C.w0.heap.size/\∀b,b<V.β n->τ b=none/\b ∉ C.K
 tg:A.tg=true->Tg τ
 cu:∀n,at? A.bk n=some .cur->n=0
structure Res (C:Cx) (U:Value->Prop) (A:AS) (u:Out) (S B X:Nat->Prop) (τ:Sm) (V:Vl) (w:World) (v:Value) (τ':Sm) (V':Vl) (w':World):Prop where
 fr:Fr C τ' w'
 sub:Sub τ τ'
 size:w.heap.size<=w'.heap.size
 non:∀b,b<w.heap.size->τ b=none->τ' b=none
 qt:u.nq=false->∀b s,τ b=some s->s.k ≠ .bt->w'.heap[b]?=w.heap[b]?
 tg:u.br=false->Tg τ->Tg τ'
 ρ:∀s,S s->V'.ρ s=V.ρ s
 β:∀n,B n->V'.β n=V.β n
 ι:∀c,X c->V'.ι c=V.ι c
 ns:∀q f,at? u.ns q=some f->f.ok C U τ' V' (V'.ρ (A.sy.length+q))
 r:u.r.ok τ' V' v
 old:∀n x,B n->at? A.bk n=some x->(∀l,u.up ≠ some (n,l))->x.ok V' w' (V'.β n)
 up:∀n l T x,u.up=some (n,l)->at? A.bk n=some (.cells T x)->B n->(Bk.cells T l).ok V' w' (V'.β n)
 nb:∀x,u.nb=some x->x.ok V' w' (V'.β A.bk.length)/\τ' (V'.β A.bk.length)=none/\w.heap.size<=V'.β A.bk.length/\V'.β A.bk.length<w'.heap.size/\x ≠ .cur
 nc:∀c ∈ u.nc,c.ok V' w'
theorem Kn.blkOn(h:Kn C U A S B X τ V w)(hρ:∀s,S s->V'.ρ s=V.ρ s)(hβ:∀n,B n->V'.β n=V.β n)(hι:∀c,X c->V'.ι c=V.ι c){n:Nat}{x:Bk}(hn:B n)(hx:at? A.bk n=some x)(he:∀b,b<=V.β n->w'.heap[b]?=w.heap[b]?\/(x ≠ .cur/\b ≠ V.β n)):x.ok V' w' (V'.β n):=by
 rw[hβ n hn];have h1:=(h.bk n x hx hn).1;obtain⟨c1,c2,c3⟩:=h.bc n x hx hn;refine Bk.on ?_ (fun s hs=>hρ s (c1 s hs)) (fun b hb=>hβ b (c2 b hb)) (fun c hc=>hι c (c3 c hc));cases x with
 | cur=>exact Cur.on h1 fun b hb=>(he b hb).resolve_right (fun hc=>hc.1 rfl)
 | cells T l=>
  obtain⟨vs,e,h2⟩:=h1;exact⟨vs,((he _ (zB0 _)).resolve_right (fun hc=>hc.2 rfl)).trans e,h2⟩
theorem Res.same{u:Out}(h:Kn C U A S B X τ V w)(hup:u.up=none)(Ba:u.nb=none)(hρ:∀s,S s->V'.ρ s=V.ρ s)(hβ:∀n,B n->V'.β n=V.β n)(hι:∀c,X c->V'.ι c=V.ι c)
  (Qi:∀q f,at? u.ns q=some f->f.ok C U τ V' (V'.ρ (A.sy.length+q))) (hr:u.r.ok τ V' v) (Fu:∀c ∈ u.nc,c.ok V' w):Res C U A u S B X τ V w v τ V' w:=
 ⟨h.fr,Sub.refl _,zB0 _,fun _ _ h=>h,fun _ _ _ _ _=>rfl,fun _ h=>h,hρ,hβ,hι,Qi,hr,fun n x hn hx _=>h.blkOn hρ hβ hι hn hx fun _ _=>.inl rfl,fun n l T x e=> A53,fun x e=> A63,Fu⟩
theorem Res.pure{r:AV}{nt nm:Bool}(h:Kn C U A S B X τ V w)(hr:r.ok τ V v):Res C U A { r:=r,nt:=nt,nm:=nm } S B X τ V w v τ V w:=
 Res.same h rfl rfl (fun _ _=>rfl) (fun _ _=>rfl) (fun _ _=>rfl) (fun q f hq=> A80) hr (fun c hc=>by cases hc)
def Vl.add (V:Vl)(c:Nat)(us:List Value):Vl:={ V with ρ:=fun s=>if c<=s then (us[s-c]?).getD (V.ρ s) else V.ρ s }
theorem Vl.add_at{q:Nat}{u:Value}(h:us[q]?=some u):(V.add c us).ρ (c+q)=u:=by
 show(if c<=c+q then _ else _)=u
 rw[if_pos A0,Nat.add_sub_cancel_left,h];rfl
theorem Vl.add_ne{s:Nat}(h:∀q,q<us.length->s ≠ c+q):(V.add c us).ρ s=V.ρ s:=by
 show(if c<=s then _ else _)=_
 split
 .
  rw[List.getElem?_eq_none]
  .
   rfl
  .
   rcases zJ1 (s-c) us.length with h'|h'
   .
    exact absurd A0 (h (s-c) h')
   .
    exact h'
 .
  rfl
theorem aIu{o:Oper}{K:Act->World->Prop}(h:(execOp a.eval o).run Tryz.prog w=.ok (.value v) w')(hk:K (a.put o.dst v) w'):o.wp Tryz.prog a w K Q:=by
 unfold Oper.wp;rw[h];exact hk
theorem aJ4{o:Oper}{K:Act->World->Prop}(h:(execOp a.eval o).run Tryz.prog w=.ok .skip w')(hk:K (a.put o.dst undef) w'):o.wp Tryz.prog a w K Q:=by
 unfold Oper.wp;rw[h];exact hk
theorem aFj (V:Vl)(v:Value):(aFl v).ok V v:=by
 unfold aFl;split
 .
  rename_i n;exact⟨n,rfl,Int.le_refl _,Int.le_refl _⟩
 .
  rename_i n;split
  .
   rename_i h;simp only[zC0,zE3]at h;exact⟨n,rfl,h.1,h.2⟩
  .
   exact trivial
 .
  rfl
 .
  rename_i s;split
  .
   rename_i h;exact⟨s,rfl,by simpa using h⟩
  .
   exact trivial
 .
  rfl
 .
  exact trivial
theorem sT (V:Vl):∀(l:List Value),fQ V (l.map aFl) l
 | []=>rfl| v :: l=>⟨v,l,rfl,aFj V v,sT V l⟩
theorem aFh (τ:Sm)(V:Vl)(v:Value):(aQd v).ok τ V v:=by
 unfold aQd;split
 .
  rename_i cs;exact⟨cs.toList,by simp,sT V _⟩
 .
  exact aFj V v
theorem iE(h:Kn C U A S B X τ V w){x:CV}{v:Value}(hx:x.ok V v)(hs:∀s ∈ x.sy,S s){lo hi:Int}(hr:A.rng x=some (lo,hi)):∃n,v=.int .i64 n/\lo<=n/\n<=hi:=by
 cases x with
 | int a b=>
  simp only[AS.rng,zG2,Prod.mk.injEq]at hr;obtain⟨rfl,rfl⟩:=hr;exact hx
 | len s k=>
  simp only[AS.rng,zF0,Prod.mk.injEq]at hr;obtain⟨f,hf,rfl,rfl⟩:=hr;obtain⟨h1,h2,h3,_⟩:=h.sy s f hf (hs s A38);exact⟨_,hx,by omega,by omega⟩
 | idx s k=>
  simp only[AS.rng,zF0,Prod.mk.injEq]at hr;obtain⟨f,hf,rfl,rfl⟩:=hr;obtain⟨h1,h2,h3,_⟩:=h.sy s f hf (hs s A38);obtain⟨n,rfl,hn⟩:=hx;exact QA94
 | num c s k=>
  simp only[AS.rng,zF0,Prod.mk.injEq]at hr;obtain⟨f,hf,rfl,rfl⟩:=hr;obtain⟨h1,h2,h3,_⟩:=h.sy s f hf (hs s A38);obtain⟨rfl,hn⟩:=hx;exact QA94
 | _=>simp[AS.rng]at hr
theorem Rs.eq_eq{a b:Rs}(h:a.eq b=true):a=b:=by
 cases a <;> cases b <;> simp_all[Rs.eq]
theorem aJe:ln (.slice none 0 0)=0:=rfl
theorem lW(h:Kn C U A S B X τ V w){f:Fd}{x:CV}{v:Value}(hx:x.ok V v)(hs:∀s ∈ x.sy,S s)(hf:A.fit f x=true):FV τ f v:=by
 have slc:∀(s:Nat) (k:Rs) (lo m:Nat),x=.sl s->(∀g,at? A.sy s=some g->g.k=k->lo<=g.lo->g.hi<=m->∃n,(lo<=n/\n<=m)/\SV τ k n v):=by
  intro s k lo m e g hg hk h1 h2;subst e;obtain⟨a1,a2,a3,_⟩:=h.sy s g hg (hs s A38);have hv:v=V.ρ s:=hx;rw[<-hv]at a1 a2 a3;subst hk;exact⟨ln v,⟨by omega,by omega⟩,a1⟩
 cases f with
 | n=>
  simp only[AS.fit]at hf;split at hf
  .
   rename_i lo hi hr;simp only[zC0,zE3]at hf;exact QA104
  .
   cases hf
 | t=>
  cases x <;> simp[AS.fit]at hf
  .
   exact⟨_,hx⟩
  .
   obtain⟨b,rfl,_⟩:=hx;exact⟨b,rfl⟩
 | b m=>
  cases x <;> simp only[AS.fit,Bool.false_eq_true]at hf
  .
   rename_i s;split at hf
   .
    rename_i f hg;simp only[zC0,zE3]at hf;obtain⟨n,⟨_,h1⟩,h2⟩:=slc s .bt 0 m rfl f hg (Rs.eq_eq hf.1) (zD1 _) hf.2;exact⟨n,h1,h2⟩
   .
    cases hf
  .
   exact⟨0,zD1 _,by rw[show v=_ from hx];exact SV.nil _⟩
 | i m=>
  cases x <;> simp only[AS.fit,Bool.false_eq_true]at hf
  .
   rename_i s;split at hf
   .
    rename_i f hg;simp only[zC0,zE3]at hf;obtain⟨n,⟨_,h1⟩,h2⟩:=slc s .ii 0 m rfl f hg (Rs.eq_eq hf.1) (zD1 _) hf.2;exact⟨n,h1,h2⟩
   .
    cases hf
  .
   exact⟨0,zD1 _,by rw[show v=_ from hx];exact SV.nil _⟩
 | l t lo m=>
  cases x <;> simp only[AS.fit,Bool.false_eq_true]at hf
  .
   rename_i s;split at hf
   .
    rename_i f hg;simp only[zC0,zE3]at hf;exact slc s (.rc t) lo m rfl f hg (Rs.eq_eq hf.1.1) hf.1.2 hf.2
   .
    cases hf
  .
   simp only[beq_iff_eq]at hf;subst hf;exact⟨0,⟨zB0 _,zD1 _⟩,by rw[show v=_ from hx];exact SV.nil _⟩
theorem sF {C:Cx}{U:Value->Prop}{A:AS}{S B X:Nat->Prop}{τ:Sm}{V:Vl}{w:World}(h:Kn C U A S B X τ V w):∀{r:List Fd} {l:List CV} {vs:List Value},fQ V l vs->(∀s ∈ l.flatMap CV.sy,S s)->A.fits r l=true->RV τ r vs
 | [],[],_,hx,_,_=>hx| [],_ :: _,_,_,_,hf=>by cases hf
 | _ :: _,[],_,_,_,hf=>by cases hf
 | f :: r,x :: l,_,⟨v,us,e,h1,h2⟩,hs,hf=>by
  simp only[AS.fits,zC0]at hf;exact⟨v,us,e,lW h h1 (fun s hm=>hs s A23) hf.1,sF h h2 (fun s hm=>hs s A20) hf.2⟩
theorem aJ5{f g:Fd}(h:wide f g=true)(hv:FV τ g v):FV τ f v:=by
 cases f <;> cases g <;> simp only[wide,Bool.false_eq_true,zC0,beq_iff_eq,zE3]at h
 .
  exact hv
 .
  exact hv
 .
  obtain⟨n,h1,h2⟩:=hv;exact⟨n,by omega,h2⟩
 .
  obtain⟨n,h1,h2⟩:=hv;exact⟨n,by omega,h2⟩
 .
  obtain⟨⟨rfl,h3⟩,h4⟩:=h;obtain⟨n,h1,h2⟩:=hv;exact⟨n,⟨by omega,by omega⟩,h2⟩
theorem rC {τ:Sm}:∀{r l:List Fd} {vs:List Value},aFv r l=true->RV τ l vs->RV τ r vs
 | [],[],_,_,h=>h| [],_ :: _,_,h,_=>by cases h
 | _ :: _,[],_,h,_=>by cases h
 | f :: r,g :: l,vs,h,hv=>by
  simp only[aFv,zC0]at h;obtain⟨v,us,rfl,h1,h2⟩:=hv;exact⟨v,us,rfl,aJ5 h.1 h1,rC h.2 h2⟩
theorem aEq(h:Kn C U A S B X τ V w){k:Rs}{x:AV}{v:Value}(hx:x.ok τ V v)(hs:∀s ∈ x.sy,S s)(hf:A.fitE k x=true):EV τ false k v.cells.toList:=by
 cases k with
 | bt=>
  exact QA74
 | ii=>
  cases x <;> simp only[AS.fitE,Bool.false_eq_true]at hf
  rename_i y;split at hf
  .
   rename_i lo hi hr;simp only[zC0,zE3]at hf;exact QA104
  .
   cases hf
 | st=>
  exact QA74
 | rc t=>
  show RV τ (Dt t).2 v.cells.toList
  cases x with
  | c y=>
   simp only[AS.fitE]at hf;split at hf
   .
    rename_i f hd;rw[hd];have:=lW h hx hs hf;have h1:=this.one;have h2:v.cells=#[v]:=by cases v <;> first|rfl|(simp[Value.oneCell']at h1)
    rw[h2];exact⟨v,[],rfl,this,rfl⟩
   .
    cases hf
  | rc t'=>
   simp only[AS.fitE,zC0,Bool.or_eq_true,beq_iff_eq]at hf;obtain⟨vs,rfl,h1⟩:=hx;rcases hf.1 with rfl|⟨_,h9⟩
   .
    exact h1
   .
    exact rC h9 h1
  | agg l=>
   simp only[AS.fitE,zC0]at hf;obtain⟨vs,rfl,h1⟩:=hx;exact sF h h1 hs hf.2
  | tup _ _=>simp[AS.fitE]at hf
end Eg
end
section
theorem A42{p:Prop}(h:p:=by simp only[execOp,h2];rfl):p:=h
theorem A45{p:Prop}(h:p:=by simp only[execOp,h2,Sem.run_bind,tM hp,Result.andThen_ok];rfl):p:=h
namespace Eg
def Opd (A:AS)(S B X:Nat->Prop)(τ:Sm)(V:Vl)(a:Act)(x:Operand):Prop:=(A.ev x).ok τ V (a.eval x)/\(∀s ∈ (A.ev x).sy,S s)/\(∀n ∈ (A.ev x).bs,B n)/\(∀c ∈ (A.ev x).is,X c)
def dA (C:Cx)(U:Value->Prop)(A:AS)(o:Oper)(u:Out)(S B X:Nat->Prop)(τ:Sm)(V:Vl)(a:Act)(w:World):Prop:=
 ∀Q:Exit->Act->World->Prop,o.wp Tryz.prog a w (fun a' w'=>∃v τ' V',a'=a.put o.dst v/\Res C U A u S B X τ V w v τ' V' w') Q
theorem dA.val {C:Cx}{U:Value->Prop}{A:AS}{o:Oper}{u:Out}{S B X:Nat->Prop}{τ:Sm}{V:Vl}{a:Act}{w w':World}{v:Value}{τ':Sm}{V':Vl}(h:(execOp a.eval o).run Tryz.prog w=.ok (.value v) w')(hr:Res C U A u S B X τ V w v τ' V' w'):dA C U A o u S B X τ V a w:=
 fun Q=>aIu h ⟨v,τ',V',rfl,hr⟩
theorem dA.unit {C:Cx}{U:Value->Prop}{A:AS}{o:Oper}{u:Out}{S B X:Nat->Prop}{τ:Sm}{V:Vl}{a:Act}{w w':World}{τ':Sm}{V':Vl}(h:(execOp a.eval o).run Tryz.prog w=.ok .skip w')(hr:Res C U A u S B X τ V w undef τ' V' w'):dA C U A o u S B X τ V a w:=
 fun Q=>aJ4 h ⟨undef,τ',V',rfl,hr⟩
theorem aA9 {T f d:Nat}(h:aGo T f=some d):∃z ds,bH T TZ=some (z,ds)/\at? ds f=some d:=by
 unfold aGo at h;cases e:bH T TZ with
 | none=>rw[e]at h;cases h| some p=>rw[e]at h;exact⟨p.1,p.2,rfl,h⟩
theorem kH {T n b:Nat}{z:Option Value}(h:(Tryz.prog.info? T).map (fun i=>(i.zero,i.size,i.bytes))=some (z,n,b))(w:World):(sizeOf T).run Tryz.prog w=.ok n w:=by
 cases e:Tryz.prog.info? T with
 | none=>rw[e]at h;cases h| some i=>
  rw[e]at h;simp only[Option.map_some,zG2,Prod.mk.injEq]at h;simp[sizeOf,typeInfo,e,h.2.1,go_sem]
theorem tM {T f d b p:Nat}(h:aGo T f=some d)(w:World):(Instr.fieldAt T (.pointer (some ⟨b,p,none⟩)) f).run Tryz.prog w=.ok (.pointer (some ⟨b,p+d,none⟩)) w:=by
 obtain⟨z,ds,h1,h2⟩:=aA9 h;obtain⟨fs,by',cs,hu,hl,hc,_⟩:=aIw vP h1;have Ad:f<ds.length:=by
  rw[dM]at h2;exact(zC1.1 h2).1
 obtain⟨fl,d',fi,e1,e2,e3,e4,e5⟩:=pO _ hc f Ad;rw[h2]at e2;cases e2;simp[Instr.fieldAt,run_underlying hu,e1,Instr.sureAddr,fieldPlace,sizeOf,typeInfo,e4,e5,e3,Addr.add_lit,go_sem]
theorem vB {T:Nat}(h:cells T=some 1):has T T1=true:=by
 unfold cells at h;split at h
 .
  assumption
 .
  exfalso;rename_i hn;simp only[zF0]at h;obtain⟨p,h1,h2⟩:=h;obtain⟨_,_,_,_,_,_,_,_,_,h3,_⟩:=aIw vP (z:=p.1) (ds:=p.2) h1;omega
theorem mY {T n:Nat}(h:cells T=some n)(hn:n ≠ 1):∃z ds,bH T TZ=some (z,ds)/\z.length=n:=by
 unfold cells at h;split at h
 .
  cases h;exact absurd rfl hn
 .
  simp only[zF0]at h;obtain⟨p,h1,h2⟩:=h;exact⟨p.1,p.2,h1,h2⟩
theorem tL {T:Nat}(h:has T T1=true)(w:World):(isAgg T).run Tryz.prog w=.ok false w:=by
 obtain⟨d,i,hu,h1,h2,_⟩:=aQ7 aNk h;unfold isAgg;simp only[Sem.run_bind,run_underlying hu,Result.andThen_ok];rfl
theorem jT {T b p:Nat}{v:Value}{w:World}(h:cells T=some 1)(hc:w.cell? ⟨b,p,none⟩=some v):(Instr.loadAt T (.pointer (some ⟨b,p,none⟩))).run Tryz.prog w=.ok v w:=by
 simp[Instr.loadAt,Instr.sureAddr,loadVar,tL (vB h),load,Sem.run,hc,go_sem]
theorem tK {T b p n:Nat}{vs:List Value}{w:World}(h:cells T=some n)(hn:n ≠ 1)(hl:vs.length=n)(hc:∀j v,vs[j]?=some v->w.cell? ⟨b,p+j,none⟩=some v):(Instr.loadAt T (.pointer (some ⟨b,p,none⟩))).run Tryz.prog w=.ok (.agg vs.toArray) w:=by
 obtain⟨z,ds,h1,h2⟩:=mY h hn;obtain⟨fs,by',cs,hu,_,_,hi,_⟩:=aIw vP h1;have hs:=kH hi w;have Dv:=run_loadCells_list (P:=Tryz.prog) w ⟨b,p,none⟩ vs (fun j v hv=>by rw[Addr.add_lit];exact hc j v hv);rw[hl,<-h2]at Dv;unfold loadCells at Dv;simp[Instr.loadAt,Instr.sureAddr,loadVar,isAgg,run_underlying hu,hs,Dv,go_sem]
section
variable {C:Cx} {U:Value->Prop} {G:Cfg} {A:AS} {S B X:Nat->Prop} {τ:Sm} {V:Vl} {a:Act} {w:World} {d:Option Nat} {ty:TypeId} {pos:String} {aft:Array Edge} {gd:Option (Nat × Bool)}
theorem aKy (h:Kn C U A S B X τ V w){x:Operand}(hx:Opd A S B X τ V a x):dA C U A ⟨d,.move x,ty,pos,aft,gd⟩ { r:=A.ev x } S B X τ V a w:=
 dA.val (v:=a.eval x) rfl (Res.pure h hx.1)
theorem aDk (h:Kn C U A S B X τ V w){x:Operand}(hx:Opd A S B X τ V a x):dA C U A ⟨d,.assign x,ty,pos,aft,gd⟩ { r:=A.ev x } S B X τ V a w:=
 dA.val (v:=a.eval x) rfl (Res.pure h hx.1)
theorem wF (h:Kn C U A S B X τ V w){x:Operand}(hx:Opd A S B X τ V a x){u:Out}(hu:bP G A ⟨d,.nilCheck x,ty,pos,aft,gd⟩=some u):dA C U A ⟨d,.nilCheck x,ty,pos,aft,gd⟩ u S B X τ V a w:=by
 simp only[bP]at hu;split at hu
 .
  rename_i b p e;cases hu;have h1:=hx.1;rw[e]at h1;have h2:a.eval x=.pointer (some ⟨V.β b,p,none⟩):=h1;exact dA.val (v:=a.eval x) A42 (Res.pure h h1)
 .
  rename_i s k ix p e;cases hu;have h1:=hx.1;rw[e]at h1;obtain⟨b,j,n,c,i,_,_,h2,_⟩:=id h1;exact dA.val (v:=a.eval x) A42 (Res.pure h h1)
 .
  cases hu
theorem tY (h:Kn C U A S B X τ V w){x:Operand}{T f:Nat}(hx:Opd A S B X τ V a x){u:Out}(hu:bP G A ⟨d,.fieldAddr T x f,ty,pos,aft,gd⟩=some u):dA C U A ⟨d,.fieldAddr T x f,ty,pos,aft,gd⟩ u S B X τ V a w:=by
 simp only[bP]at hu;split at hu
 .
  rename_i q b p hp e;cases hu;have h1:=hx.1;rw[e]at h1;have h2:a.eval x=.pointer (some ⟨V.β b,p,none⟩):=h1;exact dA.val (v:=.pointer (some ⟨V.β b,p+q,none⟩)) A45 (Res.pure h rfl)
 .
  rename_i q s k ix p hp e;cases hu;have h1:=hx.1;rw[e]at h1;obtain⟨b,j,n,c,i,e1,e2,h2,e3⟩:=id h1;exact dA.val (v:=.pointer (some ⟨b,(j+i)*k.k+p+q,none⟩)) A45 (Res.pure h ⟨b,j,n,c,i,e1,e2,by rw[Nat.add_assoc],e3⟩)
 .
  cases hu
theorem aBe (h:Kn C U A S B X τ V w){x:Operand}{i:Nat}(hx:Opd A S B X τ V a x){u:Out}(hu:bP G A ⟨d,.extract x i,ty,pos,aft,gd⟩=some u):dA C U A ⟨d,.extract x i,ty,pos,aft,gd⟩ u S B X τ V a w:=by
 simp only[bP]at hu;split at hu
 .
  rename_i t y e;have h1:=hx.1;rw[e]at h1;obtain⟨vs,q,h2,h3,h4⟩:=h1;split at hu
  .
   rename_i hi;simp only[beq_iff_eq]at hi;subst hi;cases hu;exact dA.val (v:=.agg vs.toArray) A42 (Res.pure h ⟨vs,rfl,h3⟩)
  .
   split at hu
   .
    rename_i hi;simp only[beq_iff_eq]at hi;subst hi;cases hu;exact dA.val (v:=q) A42 (Res.pure h h4)
   .
    cases hu
 .
  cases hu
theorem aKw (h:Kn C U A S B X τ V w){op:UnOp}{x:Operand}{T:Nat}(hx:Opd A S B X τ V a x){u:Out}(hu:bP G A ⟨d,.unOp op T x,ty,pos,aft,gd⟩=some u):dA C U A ⟨d,.unOp op T x,ty,pos,aft,gd⟩ u S B X τ V a w:=by
 simp only[bP]at hu;split at hu
 .
  rename_i y e;have h1:=hx.1;rw[e]at h1;cases y <;> simp only[aT7,Option.map_none,Option.map_some,zG2]at hu
  all_goals first|(cases hu;done)|skip
  .
   rename_i b;subst hu;have h2:a.eval x=.bool b:=h1;exact dA.val (v:=.bool !b) A42 (Res.pure h rfl)
  .
   rename_i t f;subst hu;obtain⟨b,h2,h3,h4⟩:=h1;exact dA.val (v:=.bool !b) A42 (Res.pure h ⟨!b,rfl,(fun e=>h4 (by simpa using e)),(fun e=>h3 (by simpa using e))⟩)
 .
  cases hu
theorem yE {V:Vl}:∀{n:Nat} {l r:List CV} {vs:List Value},fQ V l vs->aF3 n l=some r->fQ V r (vs.take n)/\n<=vs.length
 | 0,_,_,_,_,h=>by cases h;exact⟨rfl,zD1 _⟩
 | n+1,[],_,_,_,h=>by cases h
 | n+1,x :: l,r,_,⟨v,us,e,h1,h2⟩,h=>by
  subst e;simp only[aF3,zF0]at h;obtain⟨r',hr,rfl⟩:=h;obtain⟨h3,h4⟩:=yE h2 hr;exact⟨⟨v,us.take n,rfl,h1,h3⟩,by rw[zB1];omega⟩
theorem fQ.drop {V:Vl}:∀(p:Nat) {l:List CV} {vs:List Value},fQ V l vs->fQ V (l.drop p) (vs.drop p)
 | 0,_,_,h=>h| p+1,[],_,h=>by rw[show _=[] from h];exact rfl
 | p+1,_ :: l,_,⟨v,us,e,h1,h2⟩=>by subst e;exact fQ.drop p h2
theorem yM {τ:Sm}{V:Vl}{f:Fd}{v:Value}(hv:FV τ f v)(c:Nat)(un:Bool)(Ho:un=true->U v)(hV:isL f=true->V.ρ c=v):(rdF c un f).1.ok V v/\∀q g,at? (rdF c un f).2 q=some g->q=0/\isL f=true/\g.ok C U τ V v:=by
 have sl:∀(k:Rs) (lo m:Nat) (un':Bool),(un'=true->U v)->(∃n,(lo<=n/\n<=m)/\SV τ k n v)->({ k:=k,lo:=lo,hi:=m,own:=false,un:=un' }:SF).ok C U τ V v:=by
  rintro k lo m un' hu ⟨n,⟨h1,h2⟩,h3⟩;have e:ln v=n:=by
   rcases h3 with⟨rfl,rfl⟩|⟨b,j,c,s,rfl,_⟩ <;> rfl
  exact⟨by rw[e];exact h3,by rw[e];exact h1,by rw[e];exact h2,(fun h=>by cases h),hu,(fun h=>by cases h),(fun s h=>by cases h)⟩
 cases f with
 | n=>obtain⟨x,e,h1⟩:=hv;exact⟨⟨x,e,h1.1,h1.2⟩,fun q g h=>by simp[rdF,at?]at h⟩
 | t=>obtain⟨x,e⟩:=hv;exact⟨⟨x,e,(fun _ c hc=>by cases hc),(fun _ c hc=>by cases hc)⟩,fun q g h=>by simp[rdF,at?]at h⟩
 | b m=>
  refine⟨(hV rfl).symm,fun q g h=>?_⟩;cases q with
  | succ q=>simp[rdF,at?]at h| zero=>
   simp only[rdF,at?,zG2]at h;subst h;obtain⟨n,h1,h2⟩:=hv;exact⟨rfl,rfl,sl _ _ _ _ Ho ⟨n,⟨zD1 _,h1⟩,h2⟩⟩
 | i m=>
  refine⟨(hV rfl).symm,fun q g h=>?_⟩;cases q with
  | succ q=>simp[rdF,at?]at h| zero=>
   simp only[rdF,at?,zG2]at h;subst h;obtain⟨n,h1,h2⟩:=hv;exact⟨rfl,rfl,sl _ _ _ _ (fun h=>by cases h) ⟨n,⟨zD1 _,h1⟩,h2⟩⟩
 | l t lo m=>
  refine⟨(hV rfl).symm,fun q g h=>?_⟩;cases q with
  | succ q=>simp[rdF,at?]at h| zero=>
   simp only[rdF,at?,zG2]at h;subst h;exact⟨rfl,rfl,sl _ _ _ _ (fun h=>by cases h) hv⟩
theorem pR (h:Kn C U A S B X τ V w){s:Nat}{k:Rs}{b j n c i:Nat}(hs:S s){f:SF}(hf:at? A.sy s=some f)(hk:f.k=k)(e:V.ρ s=.slice (some ⟨b,j*k.k,none⟩) n c)(hi:i<n):∃so vs,τ b=some so/\so.k=k/\j+i<so.u/\EV τ so.q k vs/\∀z u,vs[z]?=some u->w.cell? ⟨b,(j+i)*k.k+z,none⟩=some u:=by
 subst hk;have h1:=(h.sy s f hf hs).1;rw[e]at h1;rcases h1 with⟨e1,_⟩|⟨b',j',c',so,e1,h2,h3,h4,h5,h6⟩
 .
  cases e1
 .
  simp only[Value.slice.injEq,zG2,Addr.mk.injEq,and_true]at e1;obtain⟨⟨rfl,ej⟩,hl,rfl⟩:=e1;have hj:=Nat.eq_of_mul_eq_mul_right f.k.k0 ej;subst hj;have Fw:ln (Value.slice (some ⟨b,j*f.k.k,none⟩) n c)=n:=rfl;rw[Fw]at h4;have hr:=h.fr.th b so h2;obtain⟨vs,a1,a2,a3⟩:=hr.el (j+i) A0;rw[h3]at a2 a3;exact⟨so,vs,h2,h3,by omega,a2,a3⟩
end
end Eg
end
section
theorem A16{p:Prop}(h:p:=by simp[AV.sy,CV.sy]):p:=h
theorem A31{p:Prop}(h:p:=by simp only[execOp,e3,Sem.run_bind,jT hc hv,Result.andThen_ok];rfl):p:=h
theorem A50{p:Prop}(h:p:=by simp[AV.bs,CV.bs]):p:=h
namespace Eg
section
variable {C:Cx} {U:Value->Prop} {G:Cfg} {A:AS} {S B X:Nat->Prop} {τ:Sm} {V:Vl} {a:Act} {w:World} {d:Option Nat} {ty:TypeId} {pos:String} {aft:Array Edge} {gd:Option (Nat × Bool)}
def aUg (G:Cfg)(U:Value->Prop)(V:Vl)(w:World):Prop:=G.us=true->∀b j n c i v,V.ρ 1=.slice (some ⟨b,j,none⟩) n c->i<n->w.cell? ⟨b,j+i,none⟩=some v->U v
theorem rP {t:Nat}(h:turn t=false):Lt t=(Dt t).2:=by
 unfold Lt;split <;> first|(cases h;done)|rfl
theorem yC (h:Kn C U A S B X τ V w){t b:Nat}{so:So}{vs:List Value}(hb:τ b=some so)(hg:(A.tg || !turn t)=true)(he:EV τ so.q (.rc t) vs):RV τ (Dt t).2 vs:=by
 cases ht:turn t with
 | false=>exact EV.tight (k:=.rc t) (rP ht) he| true=>
  rw[ht]at hg;have:=h.tg A79 b so hb;rw[this]at he;exact he
theorem wM {s:Nat}{k:Rs}(h:A.kd s k=true):∃f,at? A.sy s=some f/\f.k=k:=by
 unfold AS.kd at h;split at h
 .
  rename_i g hg;exact⟨g,hg,Rs.eq_eq h⟩
 .
  cases h
theorem aE4 {s r:Nat}{k:Rs}{ix:Ix}{p:Nat}:∀{l:List Cf},aQw s k ix p l=some r->∃c ∈ l,c.s=s/\c.k=k/\c.ix=ix/\c.ix ≠ .u/\c.p=p/\c.r=r
 | [],h=>by cases h
 | c :: l,h=>by
  simp only[aQw]at h;split at h
  .
   rename_i hc;simp only[zC0,beq_iff_eq]at hc;obtain⟨⟨⟨h1,h2⟩,h3⟩,h4⟩:=hc;cases h;have h5:c.ix=ix/\c.ix ≠ .u:=by
    cases hi:c.ix <;> cases ix <;> simp_all[aT6]
   exact⟨c,by simp,h1,Rs.eq_eq h2,h5.1,h5.2,h4,rfl⟩
  .
   obtain⟨c',hm,r⟩:=aE4 h;exact⟨c',by simp[hm],r⟩
theorem aKz (h:Kn C U A S B X τ V w)(hU:aUg G U V w){x:Operand}{T:Nat}(hx:Opd A S B X τ V a x){u:Out}(hu:bP G A ⟨d,.load T x,ty,pos,aft,gd⟩=some u)(hcf:u.cu=true->∀c ∈ A.cf,c.ok V w)(hn:∀q,q<u.ns.length->¬S (A.sy.length+q)):dA C U A ⟨d,.load T x,ty,pos,aft,gd⟩ u S B X τ V a w:=by
 obtain⟨h1,h2,h3,h4⟩:=hx;simp only[bP]at hu;split at hu
 .
  rename_i b p hc e;rw[e]at h1 h3;have e1:a.eval x=.pointer (some ⟨V.β b,p,none⟩):=h1;split at hu
  .
   rename_i T' l hb;simp only[zF0]at hu;obtain⟨y,hy,rfl⟩:=hu;obtain⟨⟨vs,Ck,Km⟩,_⟩:=h.bk b _ hb (h3 b A50);rw[dM]at hy;obtain⟨v,hv,Dh⟩:=fQ.get Km hy;exact dA.val (v:=v) (by simp only[execOp,e1,Sem.run_bind,jT hc (Ck.cell hv),Result.andThen_ok];rfl) (Res.pure h Dh)
  .
   cases hu
 .
  rename_i n b p Ae hc e;rw[e]at h1 h3;have e1:a.eval x=.pointer (some ⟨V.β b,p,none⟩):=h1;split at hu
  .
   rename_i T' l hb;simp only[zF0]at hu;obtain⟨y,hy,rfl⟩:=hu;obtain⟨⟨vs,Ck,Km⟩,_⟩:=h.bk b _ hb (h3 b A50);obtain⟨h5,h6⟩:=yE (fQ.drop p Km) hy;exact dA.val (v:=.agg ((vs.drop p).take n).toArray) (by
    simp only[execOp,e1,Sem.run_bind,tK hc (fun e=>Ae e) (vs:=(vs.drop p).take n) (by rw[List.length_take];omega) (fun j v hv=>Ck.cell (by
     rw[List.getElem?_take]at hv;split at hv
     .
      rw[List.getElem?_drop]at hv;exact hv
     .
      cases hv)),Result.andThen_ok];rfl) (Res.pure h ⟨_,rfl,h5⟩)
  .
   cases hu
 .
  rename_i s ix hc e;rw[e]at h1 h2;split at hu
  .
   rename_i hk;cases hu;obtain⟨f,hf,Yc⟩:=wM hk;obtain⟨b,j,n,c,i,e1,e2,e3,_⟩:=id h1;obtain⟨so,vs,_,_,_,⟨y,rfl,hy⟩,As⟩:=pR h (h2 s A16) hf Yc e1 e2;have hv:=As 0 _ rfl;exact dA.val (v:=.int .i64 y) A31 (Res.pure h ⟨y,rfl,hy.1,hy.2⟩)
  .
   cases hu
 .
  rename_i s ix hc e;rw[e]at h1 h2;split at hu
  .
   rename_i hk;cases hu;obtain⟨f,hf,Yc⟩:=wM hk;obtain⟨b,j,n,c,i,e1,e2,e3,_⟩:=id h1;obtain⟨so,vs,_,_,_,⟨y,rfl,hy⟩,As⟩:=pR h (h2 s A16) hf Yc e1 e2;have hv:=As 0 _ rfl;exact dA.val (v:=.string y) A31 (Res.pure h ⟨y,rfl,hy⟩)
  .
   cases hu
 .
  rename_i s ix hc e;rw[e]at h1 h2;split at hu
  .
   rename_i hk;cases hu;obtain⟨f,hf,Yc⟩:=wM hk;obtain⟨b,j,n,c,i,e1,e2,e3,_⟩:=id h1;obtain⟨so,vs,_,_,_,⟨y,rfl,hy⟩,As⟩:=pR h (h2 s A16) hf Yc e1 e2;have hv:=As 0 _ rfl;exact dA.val (v:=.int .u8 y) A31 (Res.pure h ⟨y,rfl,hy⟩)
  .
   cases hu
 .
  rename_i s t ix p hc e;rw[e]at h1 h2 h4;split at hu
  .
   rename_i fd hfd;split at hu
   .
    rename_i hg;simp only[zC0]at hg;obtain⟨f,hf,Yc⟩:=wM hg.2;have Jj:S s:=h2 s A16;obtain⟨b,j,n,c,i,e1,e2,e3,e4⟩:=id h1;obtain⟨so,vs,Ff,_,_,Kj,As⟩:=pR h Jj hf Yc e1 e2;have hrv:=yC h Ff hg.1 Kj;rw[dM]at hfd;obtain⟨v,hv,Un⟩:=RV.get hrv hfd;have hw:=As p v hv;have hrun:(execOp a.eval ⟨d,.load T x,ty,pos,aft,gd⟩).run Tryz.prog w=.ok (.value v) w:=by simp only[execOp,e3,Sem.run_bind,jT hc hw,Result.andThen_ok];rfl
    split at hu
    .
     rename_i r hr;cases hu;split at hr
     .
      obtain⟨cc,hm,rfl,hk,rfl,Tx,rfl,rfl⟩:=aE4 hr;have Dh:=hcf rfl cc hm;have:=Dh b j n c i (by rw[hk];exact e1) e2 e4 Tx;rw[hk,hw]at this;cases this;exact dA.val hrun (Res.same h rfl rfl (fun _ _=>rfl) (fun _ _=>rfl) (fun _ _=>rfl) (fun q f hq=> A80) rfl (fun c hc=>by cases hc))
     .
      cases hr
    .
     cases hu;have Ho:(G.us && s == 1 && t == 0)=true->U v:=by
      intro hh;simp only[zC0,beq_iff_eq]at hh;obtain⟨⟨a1,rfl⟩,rfl⟩:=hh;have hk1:(Rs.rc 0).k=1:=rfl;have La:p=0:=by
       have:p<(Dt 0).2.length:=(zC1.1 hfd).1;have h9:(Dt 0).2.length=1:=rfl;omega
      subst La;rw[hk1,Nat.mul_one]at e1;refine hU a1 b j n c i v e1 e2 ?_;rw[hk1,Nat.mul_one,zG1]at hw;exact hw
     cases hl:isL fd with
     | false=>
      have Dh:=yM (C:=C) (U:=U) (V:=V) Un A.sy.length _ Ho (fun h9=>by rw[hl]at h9;cases h9);exact dA.val hrun (Res.same h rfl rfl (fun _ _=>rfl) (fun _ _=>rfl) (fun _ _=>rfl) (fun q f hq=>by have:=(Dh.2 q f hq).2.1;rw[hl]at this;cases this) Dh.1 (fun c hc=>by simp at hc))
     | true=>
      have Qi:(rdF A.sy.length (G.us && s == 1 && t == 0) fd).2.length=1:=by cases fd <;> first|rfl|(cases hl)
      have hV:(V.add A.sy.length [v]).ρ A.sy.length=v:=Vl.add_at (q:=0) rfl;have Ja:∀s',S s'->(V.add A.sy.length [v]).ρ s'=V.ρ s':=fun s' Ee=>Vl.add_ne (fun q hq e9=>by
       subst e9;exact hn q (by simp only[Qi];simpa using hq) Ee)
      have Dh:=yM (C:=C) (U:=U) (V:=V.add A.sy.length [v]) Un A.sy.length _ Ho (fun _=>hV);refine dA.val hrun (Res.same (V':=V.add A.sy.length [v]) h rfl rfl Ja (fun _ _=>rfl) (fun _ _=>rfl) (fun q f hq=>?_) Dh.1 (fun c hc=>?_))
      .
       obtain⟨q0,_,h9⟩:=Dh.2 q f hq;subst q0;rw[zG1,hV];exact h9
      .
       simp only[if_true,List.mem_singleton]at hc;subst hc;intro b' j' n' c' i' e5 e6 e7 e8;have hV9:=Ja s Jj;simp only at e5 e6 e7 e8 ⊢;rw[hV9,e1]at e5;simp only[Value.slice.injEq,zG2,Addr.mk.injEq,and_true,true_and]at e5;obtain⟨⟨rfl,ej⟩,rfl,rfl⟩:=e5;have hj:j=j':=Nat.eq_of_mul_eq_mul_right (Rs.k0 _) ej;subst hj;have hi:i'=i:=by
        cases ix with
        | u=>exact absurd rfl e8| k m=>exact e7.trans e4.symm| v m=>exact e7.trans e4.symm
       subst hi;rw[hV];exact hw
   .
    cases hu
  .
   cases hu
 .
  rename_i n s t ix Ae hc e;rw[e]at h1 h2;split at hu
  .
   rename_i hg;simp only[zC0,beq_iff_eq]at hg;obtain⟨⟨hn1,hg1⟩,hk⟩:=hg;cases hu;obtain⟨f,hf,Yc⟩:=wM hk;obtain⟨b,j,m,c,i,e1,e2,e3,_⟩:=id h1;obtain⟨so,vs,Ff,_,_,Kj,As⟩:=pR h (h2 s A16) hf Yc e1 e2;have hrv:=yC h Ff hg1 Kj;have hl:=hrv.length;have e4:a.eval x=.pointer (some ⟨b,(j+i)*(Rs.rc t).k,none⟩):=e3;exact dA.val (v:=.agg vs.toArray) (by simp only[execOp,e4,Sem.run_bind,tK hc Ae (hl.trans hn1.symm) As,Result.andThen_ok];rfl) (Res.pure h ⟨vs,rfl,hrv⟩)
  .
   cases hu
 .
  cases hu
end
end Eg
end
section
theorem A49{p:Prop}(h:p:=by simp only[execOp,e3,e4];cases op <;> first|rfl|(cases hc)):p:=h
theorem A75{p:Prop}(h:p:=by unfold mn;omega):p:=h
theorem QA37{p:Prop}(h:p:=by
 split at hz
 .
  rename_i hc
  simp only[zE3]at hc
  cases hz
  show Value.bool _=Value.bool true
  simp only[pV,Value.bool.injEq,zE3]
  omega
 .
  split at hz
  .
   rename_i hc
   simp only[zE3]at hc
   cases hz
   show Value.bool _=Value.bool false
   simp only[pV,Value.bool.injEq,zH0]
   omega
  .
   cases hz;exact eM V _):p:=h
theorem QA46{p:Prop}(h:p:=by
 cases hz
 show Value.bool _=Value.bool false
 simp only[pV,Value.bool.injEq,zH0]
 omega):p:=h
theorem QA47{p:Prop}(h:p:=by
 cases hz
 show Value.bool _=Value.bool true
 simp only[pV,Value.bool.injEq,zE3]
 omega):p:=h
theorem QA49{p:Prop}(h:p:=by
 refine⟨_,rfl,fun hb c Dc=>?_,fun hb c Dc=>?_⟩
 .
  rw[List.mem_singleton.1 Dc]
  simp only[pV,zE3]at hb
  simp only[Ct.ok,if_true]
  omega
 .
  rw[List.mem_singleton.1 Dc]
  simp only[pV,zH0]at hb
  simp only[Ct.ok,Bool.false_eq_true,if_false]
  omega):p:=h
theorem QA54{p:Prop}(h:p:=by
 cases hz;exact eM V _):p:=h
theorem QA124{p:Prop}(h:p:=by
 have:Value.int .i64 m=.int .i64 ((ln (V.ρ s):Int)-k):=hx
 simpa using this):p:=h
namespace Eg
section
variable {C:Cx} {U:Value->Prop} {G:Cfg} {A:AS} {S B X:Nat->Prop} {τ:Sm} {V:Vl} {a:Act} {w:World} {d:Option Nat} {ty:TypeId} {pos:String} {aft:Array Edge} {gd:Option (Nat × Bool)}
theorem aE2 (h:Kn C U A S B X τ V w){y:CV}{v:Value}(hy:wQ y=true)(hv:y.ok V v)(hs:∀s ∈ y.sy,S s)(hd:∀s,y=.sl s->∃a n c,V.ρ s=.slice a n c):v.cells=#[v]/\v.oneCell'=true:=by
 cases y with
 | top=>cases hy| und=>cases hy| int a b=>obtain⟨x,rfl,_⟩:=hv;exact⟨rfl,rfl⟩| len s k=>rw[show v=_ from hv];exact⟨rfl,rfl⟩| idx s k=>obtain⟨x,rfl,_⟩:=hv;exact⟨rfl,rfl⟩| num c s k=>obtain⟨rfl,_⟩:=hv;exact⟨rfl,rfl⟩| byte=>obtain⟨x,rfl,_⟩:=hv;exact⟨rfl,rfl⟩| tv b=>rw[show v=_ from hv];exact⟨rfl,rfl⟩| bl t f=>obtain⟨x,rfl,_⟩:=hv;exact⟨rfl,rfl⟩| str=>obtain⟨x,rfl,_⟩:=hv;exact⟨rfl,rfl⟩| sl s=>
  obtain⟨b,n,c,e⟩:=hd s rfl;rw[show v=_ from hv,e];exact⟨rfl,rfl⟩
 | nil=>rw[show v=_ from hv];exact⟨rfl,rfl⟩| ptr b o=>rw[show v=_ from hv];exact⟨rfl,rfl⟩| elp s k ix o=>obtain⟨b,j,n,c,i,_,_,rfl,_⟩:=hv;exact⟨rfl,rfl⟩
def aIp (V:Vl)(S:Nat->Prop):Prop:=∀s,S s->∃b n c,V.ρ s=.slice b n c
theorem rA (h:Kn C U A S B X τ V w)(hS:aIp V S){ps:List (Nat × Nat)}:∀{l:List (Nat × Operand)} {z r:List CV} {vs:List Value},fQ V z vs->aAr A ps l z=some r->(∀p ∈ l,Opd A S B X τ V a p.2)->∃us:List Value,Instr.fill (ps.toArray[·]?) vs.toArray (l.map fun (i,x)=>(i,a.eval x))=some us.toArray/\fQ V r us
 | [],z,r,vs,hz,hb,_=>by cases hb;exact⟨vs,rfl,hz⟩
 | (f,x) :: l,z,r,vs,hz,hb,ho=>by
  simp only[aAr]at hb;split at hb
  .
   rename_i o n y hp he;split at hb
   .
    rename_i hc;simp only[zC0,beq_iff_eq,zE3]at hc;obtain⟨⟨rfl,h1⟩,h2⟩:=hc;obtain⟨q1,q2,q3,q4⟩:=ho (f,x) A8;rw[he]at q1 q2 q3 q4;have Ge:=(aE2 h h1 q1 q2 (fun s e=>hS s (q2 s (by simp[AV.sy,e,CV.sy])))).1;rw[aC2]at hb;have Cz:=fQ.set hz o q1;obtain⟨us,e1,e2⟩:=rA h hS Cz hb (fun p hp=>ho p (by simp[hp]));refine⟨us, ?_,e2⟩;rw[dM]at hp;have hl:=hz.length;simp only[zH2,Instr.fill];have hp2:(ps.toArray[f]?:Option (Nat × Nat))=some (o,1):=by simpa using hp
    rw[hp2];simp only[Ge];rw[if_neg A10];rw[<-e1];congr 1;simp
   .
    cases hb
  .
   cases hb
theorem aGu (h:Kn C U A S B X τ V w)(hS:aIp V S){T:Nat}{ps:Array (Nat × Operand)}(hx:∀p ∈ ps.toList,Opd A S B X τ V a p.2){u:Out}(hu:bP G A ⟨d,.build T ps,ty,pos,aft,gd⟩=some u):dA C U A ⟨d,.build T ps,ty,pos,aft,gd⟩ u S B X τ V a w:=by
 simp only[bP]at hu;split at hu
 .
  rename_i z ds hz;simp only[zF0]at hu;obtain⟨l,hl,rfl⟩:=hu;obtain⟨fs,b,cs,Tx,_,_,hi,Kl,habs,_,Qh⟩:=aIw vP hz;have Dd:fQ V z cs.toList:=by rw[<-habs];exact sT V _
  obtain⟨us,h1,h2⟩:=rA h hS Dd hl hx;obtain⟨i0,e1,e2,e3,e4⟩:=info_parts hi;have hb:Tryz.prog.built T (ps.map fun (i,x)=>(i,a.eval x)).toList=some us.toArray:=by
   unfold Program.built;rw[e1,Tx];simp only[e2,Qh];rw[<-h1];simp[Value.cells]
  exact dA.val (v:=.agg us.toArray) (by simp only[execOp,Sem.run_bind,run_build w T _ _ hb,Result.andThen_ok];rfl) (Res.pure h ⟨us,rfl,h2⟩)
 .
  cases hu
theorem mH {n:Int}(h:mn<=n)(h':n<=mx):IntKind.i64.wrap n=n:=by
 unfold mn mx at *;rw[IntKind.wrap_i64];omega
theorem aCm (n:Int):mn<=IntKind.i64.wrap n/\IntKind.i64.wrap n<=mx:=by
 unfold mn mx;rw[IntKind.wrap_i64];omega
def pV (op:BinOp)(m n:Int):Bool:=match op with
 | .eql=>m == n| .neq=>m != n| .lss=>decide (m<n)| .leq=>decide (m<=n)| .gtr=>decide (m > n)| .geq=>decide (m ≥ n)| _=>false
theorem eM (V:Vl)(b:Bool):(CV.bl [] []).ok V (.bool b):=⟨b,rfl,(fun _ c hc=>by cases hc),(fun _ c hc=>by cases hc)⟩
theorem aP4 (h:Kn C U A S B X τ V w){op:BinOp}{x y z:CV}{p q:Value}(hx:x.ok V p)(hy:y.ok V q)(sx:∀s ∈ x.sy,S s)(sy:∀s ∈ y.sy,S s)(hz:aTc A op x y=some z):∃m n,p=.int .i64 m/\q=.int .i64 n/\z.ok V (.bool (pV op m n)):=by
 unfold aTc at hz;split at hz
 .
  rename_i a b c d Io Il;obtain⟨m,rfl,h1,h2⟩:=iE h hx sx Io;obtain⟨n,rfl,h3,h4⟩:=iE h hy sy Il;refine⟨m,n,rfl,rfl, ?_⟩;cases op <;> simp only[zG2]at hz <;> try(cases hz;done)
  .
   split at hz
   .
    rename_i hc;simp only[zC0,zE3]at hc;cases hz;show Value.bool _=Value.bool true
    simp only[pV,Value.bool.injEq,beq_iff_eq];omega
   .
    split at hz
    .
     rename_i hc;simp only[Bool.or_eq_true,zE3]at hc;cases hz;show Value.bool _=Value.bool false
     simp only[pV,Value.bool.injEq,beq_eq_false_iff_ne];omega
    .
     split at hz
     .
      rename_i s;cases hz;have e1:m=(ln (V.ρ s):Int):=by
       have:Value.int .i64 m=.int .i64 ((ln (V.ρ s):Int)-(0:Nat)):=hx;simpa using this
      obtain⟨n',e2,h5,h6⟩:=hy;simp only[Value.int.injEq,true_and]at e2;subst e2;refine⟨_,rfl,fun hb c hc=>?_,fun hb c hc=>?_⟩
      .
       rw[List.mem_singleton.1 hc];simp only[pV,beq_iff_eq]at hb;simp only[Ct.ok,Bool.false_eq_true,if_false];omega
      .
       rw[List.mem_singleton.1 hc];simp only[pV,beq_eq_false_iff_ne]at hb;simp only[Ct.ok,if_true];omega
     .
      exact QA54
  .
   exact QA54
  .
   split at hz
   .
    rename_i hc;simp only[zE3]at hc;exact QA47
   .
    split at hz
    .
     rename_i hc;simp only[zE3]at hc;exact QA46
    .
     split at hz
     .
      rename_i i j s k;split at hz
      .
       rename_i hc;simp only[zC0,zE3]at hc;cases hz;obtain⟨m',e1,h5,h6⟩:=hx;simp only[Value.int.injEq,true_and]at e1;subst e1;have e2:n=(ln (V.ρ s):Int)-k:=by
        have:Value.int .i64 n=.int .i64 ((ln (V.ρ s):Int)-k):=hy;simpa using this
       exact QA49
      .
       exact QA54
     .
      rename_i i j s k;split at hz
      .
       rename_i hc;simp only[zC0,zE3]at hc;cases hz;obtain⟨m',e1,h5,h6⟩:=hx;simp only[Value.int.injEq,true_and]at e1;subst e1;obtain⟨n',e2,h7⟩:=hy;simp only[Value.int.injEq,true_and]at e2;subst e2;refine⟨_,rfl,fun hb c Dc=>?_,fun hb c Dc=>by cases Dc⟩;rw[List.mem_singleton.1 Dc];simp only[pV,zE3]at hb;simp only[Ct.ok,if_true];omega
      .
       exact QA54
     .
      rename_i s k i j;split at hz
      .
       rename_i hc;simp only[zC0,zE3]at hc;cases hz;obtain⟨n',e1,h5,h6⟩:=hy;simp only[Value.int.injEq,true_and]at e1;subst e1;have e2:m=(ln (V.ρ s):Int)-k:=by
        exact QA124
       refine⟨_,rfl,fun hb c Dc=>?_,fun hb c Dc=>?_⟩
       .
        rw[List.mem_singleton.1 Dc];simp only[pV,zE3]at hb;simp only[Ct.ok,Bool.false_eq_true,if_false];omega
       .
        rw[List.mem_singleton.1 Dc];simp only[pV,zH0]at hb;simp only[Ct.ok,if_true];omega
      .
       exact QA54
     .
      exact QA54
  .
   exact QA37
  .
   split at hz
   .
    rename_i hc;simp only[zE3]at hc;exact QA47
   .
    split at hz
    .
     rename_i hc;simp only[zE3]at hc;exact QA46
    .
     split at hz
     .
      rename_i s k i j;split at hz
      .
       rename_i hc;simp only[zC0,zE3]at hc;cases hz;obtain⟨n',e1,h5,h6⟩:=hy;simp only[Value.int.injEq,true_and]at e1;subst e1;have e2:m=(ln (V.ρ s):Int)-k:=by
        exact QA124
       exact QA49
      .
       exact QA54
     .
      exact QA54
  .
   exact QA37
 .
  cases hz
def arV (op:BinOp)(m n:Int):Int:=match op with
 | .add=>m+n| .sub=>m-n| _=>m*n
def aVi:BinOp->Bool
 | .add=>true| .sub=>true| .mul=>true| _=>false
theorem aIl (h:Kn C U A S B X τ V w){op:BinOp}{x y z:CV}{p q:Value}(hx:x.ok V p)(hy:y.ok V q)(sx:∀s ∈ x.sy,S s)(sy:∀s ∈ y.sy,S s)(hz:aM0 A op x y=some z):∃m n,p=.int .i64 m/\q=.int .i64 n/\aVi op=true/\z.ok V (.int .i64 (IntKind.i64.wrap (arV op m n))):=by
 unfold aM0 at hz;split at hz
 .
  rename_i s k i j;cases hf:at? A.sy s with
  | none=>rw[hf]at hz;simp at hz| some f=>
   rw[hf]at hz;dsimp only at hz;split at hz
   .
    rename_i hc;simp only[zC0,zE3]at hc;obtain⟨⟨⟨h1,h2⟩,h3⟩,h4,Ps⟩:=hc;cases hz;obtain⟨_,a2,a3,_⟩:=h.sy s f hf (sx s A38);obtain⟨n,rfl,h5,h6⟩:=hy;refine⟨_,n,hx,rfl,rfl, ?_⟩;show Value.int .i64 _=.int .i64 _
    have hn:n=i:=A0;subst hn;rw[show arV .sub ((ln (V.ρ s):Int)-k) n=(ln (V.ρ s):Int)-k-n from rfl,mH A75 (by unfold mx;omega)];congr 1;omega
   .
    cases hz
 .
  rename_i i j s k;cases hf:at? A.sy s with
  | none=>rw[hf]at hz;simp at hz| some f=>
   rw[hf]at hz;dsimp only at hz;split at hz
   .
    rename_i hc;simp only[zC0,zE3]at hc;obtain⟨⟨⟨h1,h2⟩,h3⟩,h4⟩:=hc;cases hz;obtain⟨_,a2,a3,_⟩:=h.sy s f hf (sy s A38);obtain⟨m,rfl,h5,h6⟩:=hx;obtain⟨n,rfl,h7⟩:=hy;refine⟨m,n,rfl,rfl,rfl, ?_⟩;have hm:m=i:=A0;subst hm;rw[show arV .add m (n:Int)=m+n from rfl,mH A75 (by unfold mx;omega)];exact⟨m.toNat+n,by congr 1;omega,by omega⟩
   .
    cases hz
 .
  split at hz
  .
   rename_i a b c d Io Il;obtain⟨m,rfl,h1,h2⟩:=iE h hx sx Io;obtain⟨n,rfl,h3,h4⟩:=iE h hy sy Il;have any:∀k:Int,(CV.int mn mx).ok V (.int .i64 (IntKind.i64.wrap k)):=fun k=>⟨_,rfl,(aCm k).1,(aCm k).2⟩;refine⟨m,n,rfl,rfl, ?_⟩;cases op <;> simp only[]at hz <;> try(cases hz;done)
   .
    refine⟨rfl, ?_⟩;split at hz
    .
     rename_i hc;simp only[zC0,zE3]at hc;cases hz;rw[show arV .add m n=m+n from rfl,mH A0 A0];exact QA94
    .
     cases hz;exact any _
   .
    refine⟨rfl, ?_⟩;split at hz
    .
     rename_i hc;simp only[zC0,zE3]at hc;cases hz;rw[show arV .sub m n=m-n from rfl,mH A0 A0];exact QA94
    .
     cases hz;exact any _
   .
    refine⟨rfl, ?_⟩;split at hz
    .
     rename_i hc;simp only[zC0,zE3]at hc;cases hz;have h5:0<=m*n:=Int.mul_nonneg A0 A0;have h6:m*n<=b*d:=Int.mul_le_mul h2 h4 A0 A0;rw[show arV .mul m n=m*n from rfl,mH A75 A0];exact⟨_,rfl,h5,h6⟩
    .
     cases hz;exact any _
  .
   cases hz
theorem aN0 (h:Kn C U A S B X τ V w){x y z:CV}{p q:Value}(hx:x.ok V p)(hy:y.ok V q)(sx:∀s ∈ x.sy,S s)(sy:∀s ∈ y.sy,S s)(hz:aRv A x y=some z):∃m n,p=.int .i64 m/\q=.int .i64 n/\n ≠ 0/\z.ok V (.int .i64 (IntKind.i64.wrap (m.tdiv n))):=by
 unfold aRv at hz;split at hz
 .
  rename_i a b c d Io Il;split at hz
  .
   rename_i hc;simp only[zC0,zE3]at hc;cases hz;obtain⟨m,rfl,h1,h2⟩:=iE h hx sx Io;obtain⟨n,rfl,h3,h4⟩:=iE h hy sy Il;have h5:0<=m.tdiv n:=Int.tdiv_nonneg A0 A0;have h6:m.tdiv n<=m:=Int.tdiv_le_self n A0;refine⟨m,n,rfl,rfl,by omega, ?_⟩;rw[mH A75 A0];exact⟨_,rfl,h5,by omega⟩
  .
   cases hz
 .
  cases hz
theorem aGv (h:Kn C U A S B X τ V w){op:BinOp}{x y:Operand}{T T':Nat}(hx:Opd A S B X τ V a x)(hy:Opd A S B X τ V a y){u:Out}(hu:bP G A ⟨d,.binOp op T x y T',ty,pos,aft,gd⟩=some u):dA C U A ⟨d,.binOp op T x y T',ty,pos,aft,gd⟩ u S B X τ V a w:=by
 simp only[bP]at hu;split at hu
 .
  split at hu
  .
   rename_i p q e1 e2;obtain⟨h1,h2,_⟩:=hx;obtain⟨h3,h4,_⟩:=hy;rw[e1]at h1 h2;rw[e2]at h3 h4;simp only[zF0]at hu;obtain⟨z,hz,rfl⟩:=hu;split at hz
   .
    rename_i hc;obtain⟨m,n,e3,e4,Dh⟩:=aP4 h h1 h3 h2 h4 hz;exact dA.val (v:=.bool (pV op m n)) A49 (Res.pure h Dh)
   .
    split at hz
    .
     rename_i hq;obtain⟨m,n,e3,e4,hn,Dh⟩:=aN0 h h1 h3 h2 h4 hz;exact dA.val (v:=.int .i64 (IntKind.i64.wrap (m.tdiv n))) (by
      cases op <;> first|(cases hq;done)|skip
      have hg:(eqGuard .quo T x y (.int .i64 m) (.int .i64 n)).run Tryz.prog w=.ok () w:=rfl;have hr:(binOp .quo T (.int .i64 m) (.int .i64 n)).run Tryz.prog w=.ok (.int .i64 (IntKind.i64.wrap (m.tdiv n))) w:=by
       show Sem.run Tryz.prog (Op.intDiv .quo .i64 m n) w=_
       unfold Op.intDiv;rw[if_neg hn];rfl
      simp only[execOp,e3,e4,Sem.run_bind,hg,Result.andThen_ok,hr,Sem.run_pure]) (Res.pure h Dh)
    obtain⟨m,n,e3,e4,Qs,Dh⟩:=aIl h h1 h3 h2 h4 hz;exact dA.val (v:=.int .i64 (IntKind.i64.wrap (arV op m n))) (by simp only[execOp,e3,e4];cases op <;> first|rfl|(cases Qs)) (Res.pure h Dh)
  .
   cases hu
 .
  split at hu
  .
   rename_i e1 e2;obtain⟨h1,_⟩:=hx;obtain⟨h3,_⟩:=hy;rw[e1]at h1;rw[e2]at h3;obtain⟨s,e3,_⟩:=h1;obtain⟨t,e4,_⟩:=h3;split at hu
   .
    rename_i hc;simp only[zC0,beq_iff_eq]at hc;obtain⟨rfl,hc⟩:=hc;cases hu;cases op <;> first|(cases hc;done)|exact dA.val (v:=.bool (s.toList == t.toList)) (by simp only[execOp,e3,e4];rfl) (Res.pure h (eM V _))
   .
    cases hu
  .
   rename_i e1 e2;obtain⟨h1,_⟩:=hx;obtain⟨h3,_⟩:=hy;rw[e1]at h1;rw[e2]at h3;obtain⟨m,e3,_⟩:=h1;obtain⟨n,e4,_⟩:=h3;split at hu
   .
    rename_i hc;simp only[zC0,beq_iff_eq]at hc;obtain⟨rfl,hc⟩:=hc;cases hu;exact dA.val (v:=.bool (pV op m n)) A49 (Res.pure h (eM V _))
   .
    cases hu
  .
   cases hu
end
end Eg
end
section
theorem QA107{p:Prop}(h:p:=by
 apply Array.toList_inj.1
 rw[h]):p:=h
namespace Eg
section
variable {C:Cx} {U:Value->Prop} {G:Cfg} {A:AS} {S B X:Nat->Prop} {τ:Sm} {V:Vl} {a:Act} {w:World} {d:Option Nat} {ty:TypeId} {pos:String} {aft:Array Edge} {gd:Option (Nat × Bool)}
theorem aD0 (k:Rs)(w:World):(sizeOf k.ty).run Tryz.prog w=.ok k.k w:=by
 obtain⟨z,b,h,_⟩:=aHc k;exact kH h w
theorem aCz {T:Nat}{k:Rs}{b o n c:Nat}{i:Int}(hT:Tryz.prog.underlying T=some (.slice k.ty))(h0:0<=i)(h1:i<n)(w:World):(Instr.indexAt T (.slice (some ⟨b,o,none⟩) n c) (.int .i64 i)).run Tryz.prog w=.ok (.pointer (some ⟨b,o+i.toNat*k.k,none⟩)) w:=by
 simp only[Instr.indexAt,asIntOf,Sem.run_bind,Sem.run_pure,Result.andThen_ok,run_underlying hT,aD0,Addr.add_lit];rw[if_pos ⟨h0,h1⟩];simp only[Sem.run_bind,aD0,Result.andThen_ok,Sem.run_pure]
theorem aNs {T:Nat}{k:Rs}(h:aGa T k=true):Tryz.prog.underlying T=some (.slice k.ty):=by
 unfold aGa at h;split at h
 .
  rename_i e he;simp only[beq_iff_eq]at h;rw[<-h];exact nX he
 .
  cases h
theorem aQ8 (h:Kn C U A S B X τ V w){s:Nat}{f:SF}(hf:at? A.sy s=some f)(hs:S s)(hl:0<ln (V.ρ s)):∃b j c,V.ρ s=.slice (some ⟨b,j*f.k.k,none⟩) (ln (V.ρ s)) c:=by
 have h1:=(h.sy s f hf hs).1;rcases h1 with⟨e,h0⟩|⟨b,j,c,so,e,_⟩
 .
  omega
 .
  exact⟨b,j,c,e⟩
theorem tX (h:Kn C U A S B X τ V w){x y:Operand}{T:Nat}(hx:Opd A S B X τ V a x)(hy:Opd A S B X τ V a y){u:Out}(hu:bP G A ⟨d,.indexAddr T x y,ty,pos,aft,gd⟩=some u)(hn:u.nx=true->¬X A.ni):dA C U A ⟨d,.indexAddr T x y,ty,pos,aft,gd⟩ u S B X τ V a w:=by
 simp only[bP]at hu;split at hu
 .
  rename_i s j e1 e2;obtain⟨h1,h2,_⟩:=hx;obtain⟨h3,h4,_⟩:=hy;rw[e1]at h1 h2;rw[e2]at h3 h4;have hS:S s:=h2 s A16;split at hu
  .
   rename_i f hf;have Fk:=h.sy s f hf hS;split at hu
   .
    rename_i hc;simp only[zC0]at hc;obtain⟨Gk,Dl⟩:=hc;have hT:=aNs Gk;have hv:a.eval x=V.ρ s:=h1;have hix:∃i:Nat,a.eval y=.int .i64 i/\i<ln (V.ρ s)/\∀lo hi,j=.int lo hi->lo=hi->i=lo.toNat:=by
     cases j with
     | int lo hi=>
      simp only[aL6,zC0,zE3]at Dl;obtain⟨n,e,h5,h6⟩:=h3;obtain⟨i,rfl⟩:=Int.eq_ofNat_of_zero_le (show 0<=n by omega);exact⟨i,e,by have:=Fk.2.1;omega,fun lo' hi' e9 e10=>by cases e9;omega⟩
     | idx s' k=>
      simp only[aL6,beq_iff_eq]at Dl;subst Dl;obtain⟨i,e,h5⟩:=h3;exact⟨i,e,by omega,fun lo' hi' e9=>by cases e9⟩
     | num c s' k=>
      simp only[aL6,beq_iff_eq]at Dl;subst Dl;obtain⟨e,h5⟩:=h3;exact⟨_,e,by omega,fun lo' hi' e9=>by cases e9⟩
     | len s' k=>
      cases k with
      | succ k=>simp[aL6]at Dl| zero=>
       have ha:f.abv=some s':=by
        simp only[aL6]at Dl;cases hab:f.abv with
        | none=>rw[hab]at Dl;simp[oEq]at Dl| some q=>rw[hab]at Dl;simp only[oEq,beq_iff_eq]at Dl;rw[Dl]
       have h9:=Fk.2.2.2.2.2.2 s' ha;exact⟨ln (V.ρ s'),by rw[show a.eval y=_ from h3];simp,h9,fun lo' hi' e9=>by cases e9⟩
     | _=>simp[aL6]at Dl
    obtain⟨i,e3,hi,hco⟩:=hix;obtain⟨b,q,c,e4⟩:=aQ8 h hf hS A0;have hrun:(execOp a.eval ⟨d,.indexAddr T x y,ty,pos,aft,gd⟩).run Tryz.prog w=.ok (.value (.pointer (some ⟨b,(q+i)*f.k.k+0,none⟩))) w:=by
     have:=aCz (k:=f.k) (b:=b) (o:=q*f.k.k) (n:=ln (V.ρ s)) (c:=c) (i:=(i:Int)) hT A0 A0 w;simp only[execOp,hv,e3,Sem.run_bind];rw[e4];rw[this];simp only[Result.andThen_ok,Int.toNat_natCast,Nat.add_mul,zG1];rfl
    have fin:∀(ix:Ix) (V':Vl),(∀s',S s'->V'.ρ s'=V.ρ s')->ix.ok V' i->(CV.elp s f.k ix 0).ok V' (.pointer (some ⟨b,(q+i)*f.k.k+0,none⟩)):=fun ix V' hρ hi'=>⟨b,q,_,c,i,(hρ s hS).trans e4,hi,rfl,hi'⟩;have new:dA C U A ⟨d,.indexAddr T x y,ty,pos,aft,gd⟩ { r:=.c (.elp s f.k (.v A.ni) 0),nx:=true } S B X τ V a w\/X A.ni:=by
     by_cases hXn:X A.ni
     .
      exact .inr hXn
     .
      left;refine dA.val hrun (Res.same (V':={ V with ι:=fun c=>if c=A.ni then i else V.ι c }) h rfl rfl (fun _ _=>rfl) (fun _ _=>rfl) (fun c hc=>?_) (fun q f hq=> A80) (fin _ _ (fun _ _=>rfl) ?_) (fun c hc=>by cases hc))
      .
       show(if c=A.ni then i else V.ι c)=V.ι c
       rw[if_neg (by rintro rfl;exact hXn hc)]
      .
       show i=if A.ni=A.ni then i else _
       rw[if_pos rfl]
    split at hu
    .
     rename_i lo hi;split at hu
     .
      rename_i Ye;simp only[zE3]at Ye;cases hu;exact dA.val hrun (Res.pure h (fin _ V (fun _ _=>rfl) (hco lo hi rfl Ye)))
     .
      cases hu;exact new.resolve_right (hn rfl)
    .
     rename_i c' _ _;cases hu;refine dA.val hrun (Res.pure h (fin _ V (fun _ _=>rfl) ?_));have e9:=h3.1;rw[e3]at e9;simp only[Value.int.injEq,true_and]at e9;show i=V.ι c'
     omega
    .
     cases hu;exact new.resolve_right (hn rfl)
   .
    cases hu
  .
   cases hu
 .
  cases hu
theorem aKx (h:Kn C U A S B X τ V w){c x y:Operand}(hc:Opd A S B X τ V a c)(hx:a.eval c=.bool true->Opd A S B X τ V a x)(hy:a.eval c=.bool false->Opd A S B X τ V a y){u:Out}(hu:bP G A ⟨d,.pick c x y,ty,pos,aft,gd⟩=some u):dA C U A ⟨d,.pick c x y,ty,pos,aft,gd⟩ u S B X τ V a w:=by
 simp only[bP]at hu;split at hu
 .
  rename_i pc px py e1 e2 e3;simp only[zF0]at hu;obtain⟨z,hz,rfl⟩:=hu;have h1:=hc.1;rw[e1]at h1;have run:∀b:Bool,a.eval c=.bool b->(execOp a.eval ⟨d,.pick c x y,ty,pos,aft,gd⟩).run Tryz.prog w=.ok (.value (if b then a.eval x else a.eval y)) w:=fun b e=>by
   simp only[execOp,e];cases b <;> rfl
  unfold aN8 at hz;split at hz
  .
   cases hz;have h2:a.eval c=.bool true:=h1;have h3:=(hx h2).1;rw[e2]at h3;exact dA.val (run true h2) (Res.pure h h3)
  .
   cases hz;have h2:a.eval c=.bool false:=h1;have h3:=(hy h2).1;rw[e3]at h3;exact dA.val (run false h2) (Res.pure h h3)
  .
   rename_i t f;obtain⟨b,h2,ht,hf⟩:=h1;split at hz
   .
    rename_i hb;simp only[zC0]at hb;have hval:∃v:Bool,(if b then a.eval x else a.eval y)=.bool v/\(b=true->px.ok V (.bool v))/\(b=false->py.ok V (.bool v)):=by
     have isb:∀(q:CV) (v:Value),isB q=true->q.ok V v->∃r,v=.bool r:=by
      intro q v hq hv;cases q <;> simp[isB]at hq
      .
       exact⟨_,hv⟩
      .
       obtain⟨r,e,_⟩:=hv;exact⟨r,e⟩
     cases b with
     | true=>
      have h3:=(hx h2).1;rw[e2]at h3;obtain⟨r,e⟩:=isb px _ hb.1 h3;exact⟨r,e,(fun _=>by rw[<-e];exact h3),(fun h9=>by cases h9)⟩
     | false=>
      have h3:=(hy h2).1;rw[e3]at h3;obtain⟨r,e⟩:=isb py _ hb.2 h3;exact⟨r,e,(fun h9=>by cases h9),(fun _=>by rw[<-e];exact h3)⟩
    obtain⟨v,ev,Qd,Tv⟩:=hval;have hrun:=run b h2;rw[ev]at hrun;have wtOk:∀(q:CV),q.ok V (.bool v)->v=true->∀c ∈ wt q,c.ok V:=by
     intro q hq hvt c hc;cases q <;> simp only[wt,List.not_mem_nil]at hc
     obtain⟨r,e,h5,h6⟩:=hq;cases e;exact h5 hvt c hc
    have wfOk:∀(q:CV),q.ok V (.bool v)->v=false->∀c ∈ wf q,c.ok V:=by
     intro q hq hvt c hc;cases q <;> simp only[wf,List.not_mem_nil]at hc
     obtain⟨r,e,h5,h6⟩:=hq;cases e;exact h6 hvt c hc
    split at hz
    .
     cases hz;refine dA.val hrun (Res.pure h ⟨v,rfl,fun hvt c hc=>?_,fun Wf c hc=>?_⟩)
     .
      cases b with
      | true=>exact ht rfl c hc| false=>
       have h9:Value.bool v=.bool false:=Tv rfl;rw[hvt]at h9;cases h9
     .
      cases b with
      | false=>exact hf rfl c hc| true=>
       have h9:Value.bool v=.bool true:=Qd rfl;rw[Wf]at h9;cases h9
    .
     cases hz;refine dA.val hrun (Res.pure h ⟨v,rfl,(fun _ c hc=>by cases hc),fun Wf c hc=>?_⟩);cases b with
     | true=>have:=Qd rfl;rw[Wf]at this;cases this| false=>
      rcases List.mem_append.1 hc with hc|hc
      .
       exact hf rfl c hc
      .
       exact wfOk py (Tv rfl) Wf c hc
    .
     cases hz;refine dA.val hrun (Res.pure h ⟨v,rfl,fun hvt c hc=>?_,(fun _ c hc=>by cases hc)⟩);cases b with
     | false=>have:=Tv rfl;rw[hvt]at this;cases this| true=>
      rcases List.mem_append.1 hc with hc|hc
      .
       exact ht rfl c hc
      .
       exact wtOk px (Qd rfl) hvt c hc
    .
     cases hz;exact dA.val hrun (Res.pure h (eM V v))
   .
    cases hz
  .
   cases hz
 .
  cases hu
theorem aTr {l:Array Operand}{x:Operand}(h:l.toList=[x]):l=#[x]:=by
 exact QA107
theorem aP8 {l:Array Operand}{x y:Operand}(h:l.toList=[x,y]):l=#[x,y]:=by
 exact QA107
theorem aNj {l:Array TypeId}{x:TypeId}(h:l.toList=[x]):l=#[x]:=by
 exact QA107
theorem aNi {l:Array TypeId}{x y:TypeId}(h:l.toList=[x,y]):l=#[x,y]:=by
 exact QA107
theorem aKm {T e:Nat}(hT:Tryz.prog.underlying T=some (.slice e))(b:Option Addr)(n c:Nat)(w:World):(Builtin.len_ #[T] ty #[.slice b n c]).run Tryz.prog w=.ok (.int .i64 n) w:=by
 simp only[Builtin.len_];simp[run_underlying hT,goInt]
theorem aOd (h:Kn C U A S B X τ V w)(hS:aIp V S){c:Call}(hc:c.callee=.builtin .len)(hx:∀x ∈ c.args.toList,Opd A S B X τ V a x){u:Out}(hu:bP G A ⟨d,.call c,ty,pos,aft,gd⟩=some u):dA C U A ⟨d,.call c,ty,pos,aft,gd⟩ u S B X τ V a w:=by
 simp only[bP,hc]at hu;split at hu
 .
  rename_i x T e1 e2;obtain⟨h1,h2,_⟩:=hx x (by rw[e1];simp);split at hu
  .
   rename_i hT;obtain⟨e,hTe⟩:=Option.isSome_iff_exists.1 hT;have hTu:=nX hTe;have run:∀(b:Option Addr) (n q:Nat),a.eval x=.slice b n q->(execOp a.eval ⟨d,.call c,ty,pos,aft,gd⟩).run Tryz.prog w=.ok (.value (.int .i64 n)) w:=fun b n q e9=>by
    simp only[execOp,resolve,hc,aTr e1,aNj e2,invoke,builtin,Sem.run_bind,Sem.run_pure,Result.andThen_ok,List.map_toArray,zH2,List.map_nil,e9,aKm hTu]
   split at hu
   .
    rename_i s e3;rw[e3]at h1 h2;have Jj:S s:=h2 s A16;split at hu
    .
     rename_i Wh;obtain⟨f,hf⟩:=Option.isSome_iff_exists.1 Wh;cases hu;have Fk:=(h.sy s f hf Jj).1;have hv:a.eval x=V.ρ s:=h1;obtain⟨b,q,e4,_⟩:=Fk.sh h.fr.th;exact dA.val (run b _ q (hv.trans e4)) (Res.pure h (by show Value.int _ _=Value.int _ _;simp))
    .
     cases hu
   .
    rename_i e3;rw[e3]at h1;cases hu;exact dA.val (run none 0 0 h1) (Res.pure h ⟨0,rfl,Int.le_refl _,Int.le_refl _⟩)
   .
    cases hu
  .
   cases hu
 .
  cases hu
end
end Eg
end
section
theorem A51{p:Prop}(h:p:=by simpa using hq):p:=h
theorem A77{p:Prop}(h:p:=by rw[Fu]at hc;cases hc):p:=h
namespace Eg
section
variable {C:Cx} {U:Value->Prop} {G:Cfg} {A:AS} {S B X:Nat->Prop} {τ τ':Sm} {V V':Vl} {a:Act} {w w':World} {d:Option Nat} {ty:TypeId} {pos:String} {aft:Array Edge} {gd:Option (Nat × Bool)}
theorem Res.mv {u:Out}{v:Value}(h:Kn C U A S B X τ V w)(m:Mv C [] τ w τ' w')(hq:u.nq=false->∀b s,τ b=some s->s.k ≠ .bt->w'.heap[b]?=w.heap[b]?)(hup:u.up=none)(Ba:u.nb=none)(hρ:∀s,S s->V'.ρ s=V.ρ s)(hβ:∀n,B n->V'.β n=V.β n)(hι:∀c,X c->V'.ι c=V.ι c)
  (Qi:∀q f,at? u.ns q=some f->f.ok C U τ' V' (V'.ρ (A.sy.length+q))) (hr:u.r.ok τ' V' v) (Fu:∀c ∈ u.nc,c.ok V' w'):Res C U A u S B X τ V w v τ' V' w':=
 ⟨m.fr,m.sub,m.size,m.non,hq,fun _=>m.tg,hρ,hβ,hι,Qi,hr,fun n x hn hx _=>h.blkOn hρ hβ hι hn hx fun b hb=>by
   obtain⟨_,h1,h2,_⟩:=h.bk n x hx hn;by_cases e:b=V.β n
   .
    subst e;exact .inl (m.blk _ h2 h1 A8)
   .
    cases x with
    | cur=>exact .inl (m.blk b A0 ((h.lo n hx hn).2 b A0).1 A8)| cells T l=>exact .inr ⟨by simp,e⟩,fun n l T x e=> A53,fun x e=> A63,Fu⟩
theorem qH (h:Kn C U A S B X τ V w){k:Rs}:∀{l:List (Nat × Operand)} {i:Nat},rJ A k i l=true->(∀p ∈ l,Opd A S B X τ V a p.2)->(l.map fun (i,x)=>(i,a.eval x))=(((l.map fun p=>a.eval p.2).zipIdx i).map fun x=>(x.2,x.1))/\∀us ∈ l.map (fun p=>(a.eval p.2).cells.toList),EV τ false k us
 | [],i,_,_=>⟨rfl,fun us hu=>by cases hu⟩
 | (j,x) :: l,i,hp,ho=>by
  simp only[rJ,zC0,beq_iff_eq]at hp;obtain⟨⟨rfl,h1⟩,h2⟩:=hp;obtain⟨q1,q2,_⟩:=ho (i,x) A8;obtain⟨e1,e2⟩:=qH h h2 (fun p hp=>ho p (by simp[hp]));refine⟨?_,fun us hu=>?_⟩
  .
   simp only[zH2,List.zipIdx_cons,e1]
  .
   rw[zH2]at hu;rcases zG3.1 hu with rfl|hu
   .
    exact aEq h q1 q2 h1
   .
    exact e2 us hu
theorem aKl {T n:Nat}{k:Rs}{ps:Array (Nat × Value)}{vs:List Value}(hT:Tryz.prog.underlying T=some (.slice k.ty))(hl:vs.length=n)(hn:n<=1000)(hp:ps.toList=((vs.zipIdx 0).map fun x=>(x.2,x.1)))(hk:∀v ∈ vs,v.cells.size=k.k)(w:World):
  (Instr.buildSlice T n ps).run Tryz.prog w=.ok (.slice (some ⟨w.heap.size,0,none⟩) n n) (w.alloc (.cells (vs.map fun v=>v.cells.toList).flatten.toArray k.ty)):=by
 obtain⟨z,b,hi,hz,hb⟩:=aHc k;obtain⟨i0,e1,e2,e3,e4⟩:=info_parts hi;have Jg:=k.k0;have Fm:k.k<=6:=by
  cases k with
  | rc t=>show(Dt t).2.length<=6;unfold Dt;split <;> decide| _=>decide
 rcases zG0 n with rfl|Dq
 .
  have hv:vs=[]:=by cases vs with|nil=>rfl|cons _ _=>simp at hl
  subst hv;have La:ps=#[]:=by apply Array.toList_inj.1;rw[hp];rfl
  subst La;simp[Instr.buildSlice,run_underlying hT,sizeOf,typeInfo,e1,Instr.fill,newRow,go_sem]
 .
  obtain⟨r,hr,Bg,hrk⟩:=Great.fill_dense Jg vs 0 ((Array.range (n*k.k)).map (z.cells[· % z.cells.size]!)) hk (by simp[hl]);have hlf:=flat_len (k:=k.k) (vs.map fun v=>v.cells.toList) (by simpa using hk);rw[zB2,hl]at hlf;have hre:r=(vs.map fun v=>v.cells.toList).flatten.toArray:=by
   apply Array.ext_getElem?;intro i;rw[hrk i];by_cases hi':i<n*k.k
   .
    rw[if_pos (by rw[Nat.zero_mul,zJ0,hl];omega)];have hd:i / k.k<n:=Nat.div_lt_of_lt_mul (by rw[Nat.mul_comm];exact hi');have hm:i % k.k<k.k:=Nat.mod_lt _ Jg;have Qc:i / k.k<vs.length:=A0;have Ab:i % k.k<(vs[i / k.k]).cells.toList.length:=by
     have:=hk _ (List.getElem_mem Qc);simp[this,hm]
    have e9:=flat_get (k:=k.k) (vs.map fun v=>v.cells.toList) (i / k.k) (vs[i / k.k]).cells.toList (i % k.k) ((vs[i / k.k]).cells.toList[i % k.k]) (by simpa using hk) (by rw[zA2,zA0 Qc];rfl) (zA0 Ab);have hdm:i / k.k*k.k+i % k.k=i:=by rw[Nat.mul_comm];exact Nat.div_add_mod i k.k
    rw[hdm]at e9;rw[Nat.sub_zero,zA0 Qc];simp only[Option.bind_some];have e8:(vs.map fun v=>v.cells.toList).flatten.toArray[i]?=some ((vs[i / k.k]).cells.toList[i % k.k]):=by rw[List.getElem?_toArray];exact e9
    rw[e8,<-Array.getElem?_toList,zA0 Ab]
   .
    rw[if_neg (by rw[hl,zJ0];rintro⟨_,h9⟩;exact hi' h9),Array.getElem?_eq_none A10,Array.getElem?_eq_none (by simp only[List.size_toArray];omega)]
  have hbig:¬n*i0.size > 2 ^ 24:=by
   rw[e3];have:n*k.k<=1000*6:=Nat.mul_le_mul hn Fm;omega
  have h0:¬n*i0.size=0:=by
   rw[e3];intro h9;rcases Nat.mul_eq_zero.1 h9 with h9|h9 <;> omega
  have:=run_buildSlice (P:=Tryz.prog) w T k.ty n ps r i0 z hT e1 e2 hbig h0 (by rw[e3,hp];exact hr);rw[this,hre]
theorem rN (h:Kn C U A S B X τ V w){T n:Nat}{ps:Array (Nat × Operand)}(hx:∀p ∈ ps.toList,Opd A S B X τ V a p.2){u:Out}(hu:bP G A ⟨d,.buildSlice T n ps,ty,pos,aft,gd⟩=some u)(hn:∀q,q<u.ns.length->¬S (A.sy.length+q)):dA C U A ⟨d,.buildSlice T n ps,ty,pos,aft,gd⟩ u S B X τ V a w:=by
 simp only[bP]at hu;split at hu
 .
  rename_i k hk;split at hu
  .
   rename_i hc;simp only[zC0,beq_iff_eq,zE3]at hc;obtain⟨⟨⟨hT,hl⟩,hp⟩,Ad⟩:=hc;cases hu;obtain⟨e1,e2⟩:=qH h hp hx;have hxl:(ps.toList.map fun p=>(a.eval p.2).cells.toList).length=n:=by rw[zB2];exact hl
   obtain⟨τ',hm,Sy,Gd⟩:=h.fr.row hxl e2 (zF2 Ad A6);have hrun:=aKl (n:=n) (ps:=ps.map fun (i,x)=>(i,a.eval x)) (vs:=ps.toList.map fun p=>a.eval p.2) (aNs hT) (by rw[zB2];exact hl) Ad (by rw[Array.toList_map];exact e1) (fun v hv=>by
    obtain⟨p,hp1,rfl⟩:=zE1.1 hv;have:=(e2 _ (zE1.2 ⟨p,hp1,rfl⟩)).length;simpa using this) w
   rw[List.map_map]at hrun;have hV:(V.add A.sy.length [.slice (some ⟨w.heap.size,0,none⟩) n n]).ρ A.sy.length=.slice (some ⟨w.heap.size,0,none⟩) n n:=Vl.add_at (q:=0) rfl;have Ja:∀s',S s'->(V.add A.sy.length [.slice (some ⟨w.heap.size,0,none⟩) n n]).ρ s'=V.ρ s':=fun s' Ee=>Vl.add_ne (fun q hq e9=>by
    subst e9;exact hn q A51 Ee)
   refine dA.val (v:=.slice (some ⟨w.heap.size,0,none⟩) n n) (by simp only[execOp,Sem.run_bind,hrun,Result.andThen_ok];rfl) (Res.mv (V':=V.add A.sy.length [.slice (some ⟨w.heap.size,0,none⟩) n n]) h hm (fun _ b s hb _=>((zD2 w.heap.size w).alloc (zB0 _) _).block b (h.fr.th.lt hb)) rfl rfl Ja (fun _ _=>rfl) (fun _ _=>rfl) (fun q f hq=>?_) hV.symm (fun c hc=>by cases hc));cases q with
   | succ q=>simp[at?]at hq| zero=>
    simp only[at?,zG2]at hq;subst hq;rw[zG1,hV];exact⟨Sy,zB0 _,zB0 _,(fun _ _ g hg=>by cases hg;exact h.fr.size),(fun h9=>by cases h9),(fun h9 a' n' c' e9=>by cases e9;simpa using h9),(fun s h9=>by cases h9)⟩
  .
   cases hu
 .
  cases hu
theorem gY {c:Nat}{us:List Value}(hn:∀q,q<us.length->¬S (c+q)):∀s,S s->(V.add c us).ρ s=V.ρ s:=fun s hs=>Vl.add_ne (fun q hq e=>by subst e;exact hn q hq hs)
theorem vG {u:Out}{T:Nat}{l:List CV}{vs:List Value}(h:Kn C U A S B X τ V w)(Lb:¬B A.bk.length)(hr:u.r=.c (.ptr A.bk.length 0))(Ba:u.nb=some (.cells T l))(hup:u.up=none)(Fu:u.nc=[])(Gy:V'.ι=V.ι)(hβ:V'.β=fun n=>if n=A.bk.length then w.heap.size else V.β n)(hρ:∀s,S s->V'.ρ s=V.ρ s)(Qi:∀q f,at? u.ns q=some f->f.ok C U τ V' (V'.ρ (A.sy.length+q)))(hl:fQ V' l vs):
  Res C U A u S B X τ V w (.pointer (some ⟨w.heap.size,0,none⟩)) τ V' (w.alloc (.cells vs.toArray T (0,0))):=by
 have m:=h.fr.alloc (.cells vs.toArray T (0,0));have Be:V'.β A.bk.length=w.heap.size:=by rw[hβ];exact if_pos rfl
 have Jh:∀n,B n->V'.β n=V.β n:=fun n hn=>by rw[hβ];exact if_neg (by rintro rfl;exact Lb hn)
 have hi:∀c,X c->V'.ι c=V.ι c:=fun c _=>by rw[Gy]
 refine⟨m.fr,m.sub,m.size,m.non,fun _ b s hb _=>((zD2 w.heap.size w).alloc (zB0 _) _).block b (h.fr.th.lt hb),fun _=>m.tg,hρ,Jh,hi,Qi, ?_,fun n x hn hx _=>h.blkOn hρ Jh hi hn hx fun b hb=>?_,fun n l T x e=> A53,fun x e=>?_,fun c hc=> A77⟩
 .
  rw[hr];show Value.pointer _=Value.pointer _
  rw[Be]
 .
  obtain⟨_,_,h2,_⟩:=h.bk n x hx hn;exact .inl (((zD2 w.heap.size w).alloc (zB0 _) _).block b A0)
 .
  rw[Ba]at e;cases e;rw[Be];exact⟨⟨vs,Blk.new w T vs,hl⟩,h.fr.th.fresh (zB0 _),zB0 _,by simp,by simp⟩
theorem aGe {T n b:Nat}{z:Value}(hi:(Tryz.prog.info? T).map (fun i=>(i.zero,i.size,i.bytes))=some (some z,n,b))(w:World):(zeroValue T).run Tryz.prog w=.ok z w:=by
 obtain⟨i0,e1,e2,e3,e4⟩:=info_parts hi;simp[zeroValue,typeInfo,e1,e2,go_sem]
theorem yW (h:Kn C U A S B X τ V w){T:Nat}{u:Out}(hu:bP G A ⟨d,.alloc T,ty,pos,aft,gd⟩=some u)(Lb:¬B A.bk.length):dA C U A ⟨d,.alloc T,ty,pos,aft,gd⟩ u S B X τ V a w:=by
 simp only[bP]at hu;split at hu
 .
  rename_i z ds hz;cases hu;obtain⟨fs,b,cs,Tx,_,_,hi,Kl,habs,_,Qh⟩:=aIw vP hz;have Dd:∀V:Vl,fQ V z cs.toList:=fun V=>by rw[<-habs];exact sT V _
  refine dA.val (v:=.pointer (some ⟨w.heap.size,0,none⟩)) (w':=w.alloc (.cells cs.toList.toArray T (0,0))) ?_ (vG (V':={ V with β:=fun n=>if n=A.bk.length then w.heap.size else V.β n }) h Lb rfl rfl rfl rfl rfl rfl (fun _ _=>rfl) (fun q f hq=> A80) (Dd _));simp only[execOp,Instr.alloc,Sem.run_bind,aGe hi,Result.andThen_ok,newVar,newRow,newObj,Sem.run,Value.cells];rfl
 .
  cases hu
theorem vU {τ:Sm}:∀{r:List Fd} {us:List Value} (c:Nat),RV τ r us->∃Bp:List Value,Bp.length=(aA8 c r).2.length/\∀V':Vl,(∀q u,Bp[q]?=some u->V'.ρ (c+q)=u)->fQ V' (aA8 c r).1 us/\∀q f,at? (aA8 c r).2 q=some f->f.ok C U τ V' (V'.ρ (c+q))
 | [],us,c,h=>⟨[],rfl,fun V' _=>⟨h,fun q f hq=>by simp[aA8,at?]at hq⟩⟩
 | f :: r,_,c,⟨v,us,e,h1,h2⟩=>by
  subst e;cases hl:isL f with
  | false=>
   have h0:(rdF c false f).2=[]:=by cases f <;> first|rfl|(cases hl)
   obtain⟨Bp,hn,hh⟩:=vU (r:=r) (us:=us) c h2;refine⟨Bp,by simp only[aA8,h0,zC3,zG1,List.nil_append];exact hn,fun V' hV=>?_⟩;obtain⟨a1,a2⟩:=hh V' hV;have a3:=yM (C:=C) (U:=U) (V:=V') h1 c false (fun h9=>by cases h9) (fun h9=>by rw[hl]at h9;cases h9);simp only[aA8,h0,zC3,zG1,List.nil_append];exact⟨⟨v,us,rfl,a3.1,a1⟩,a2⟩
  | true=>
   have h0:(rdF c false f).2.length=1:=by cases f <;> first|rfl|(cases hl)
   obtain⟨Bp,hn,hh⟩:=vU (r:=r) (us:=us) (c+1) h2;refine⟨v :: Bp,by simp only[aA8,h0,zB1,zA1];omega,fun V' hV=>?_⟩;have hv:V'.ρ c=v:=hV 0 v rfl;obtain⟨a1,a2⟩:=hh V' (fun q u hq=>by have:=hV (q+1) u hq;rwa [show c+1+q=c+(q+1) by omega]);have a3:=yM (C:=C) (U:=U) (V:=V') h1 c false (fun h9=>by cases h9) (fun _=>hv);simp only[aA8,h0];refine⟨⟨v,us,rfl,a3.1,a1⟩,fun q g hq=>?_⟩;rw[dM]at hq;cases q with
   | zero=>
    rw[List.getElem?_append_left A0,<-dM]at hq;obtain⟨_,_,a4⟩:=a3.2 0 g hq;rw[zG1,hv];exact a4
   | succ q=>
    rw[List.getElem?_append_right A0,h0,Nat.add_sub_cancel,<-dM]at hq;have:=a2 q g hq;rwa [show c+(q+1)=c+1+q by omega]
theorem qY (h:Kn C U A S B X τ V w)(hS:aIp V S){x:AV}{v:Value}{vs:List CV}{ns:List SF}(hx:x.ok τ V v)(hs:∀s ∈ x.sy,S s)(hc:iR A.sy.length x=some (vs,ns))(ho:vs.all wQ=true)(hn:∀q,q<ns.length->¬S (A.sy.length+q)):
  ∃Bp:List Value,Bp.length=ns.length/\fQ (V.add A.sy.length Bp) vs v.cells.toList/\(∀q f,at? ns q=some f->f.ok C U τ (V.add A.sy.length Bp) ((V.add A.sy.length Bp).ρ (A.sy.length+q)))/\∀u ∈ v.cells.toList,u.oneCell'=true:=by
 have ones:∀{l:List CV} {us:List Value},fQ V l us->l.all wQ=true->(∀s ∈ l.flatMap CV.sy,S s)->∀u ∈ us,u.oneCell'=true:=by
  intro l;induction l with
  | nil=>intro us h1 _ _ u hu;rw[show us=[] from h1]at hu;cases hu| cons y l ih=>
   rintro _ ⟨v,us,rfl,h1,h2⟩ h3 h4 u hu;simp only[List.all_cons,zC0]at h3;rcases zG3.1 hu with rfl|hu
   .
    exact(aE2 h h3.1 h1 (fun s hm=>h4 s A23) (fun s e=>hS s (h4 s (by rw[List.flatMap_cons,e];simp[CV.sy])))).2
   .
    exact ih h2 h3.2 (fun s hm=>h4 s A20) u hu
 have add0:V.add A.sy.length []=V:=by
  unfold Vl.add;congr 1;funext s;simp
 cases x with
 | c y=>
  simp only[iR,zG2,Prod.mk.injEq]at hc;obtain⟨rfl,rfl⟩:=hc;simp only[List.all_cons,List.all_nil,Bool.and_true]at ho;obtain⟨h1,Kp⟩:=aE2 h ho hx hs (fun s e=>hS s (hs s (by simp[AV.sy,e,CV.sy])));refine⟨[],rfl, ?_,(fun q f hq=>by simp[at?]at hq), ?_⟩
  .
   rw[h1,add0];exact⟨v,[],rfl,hx,rfl⟩
  .
   rw[h1];intro u hu;simp only[List.mem_singleton]at hu;subst hu;exact Kp
 | agg l=>
  simp only[iR,zG2,Prod.mk.injEq]at hc;obtain⟨rfl,rfl⟩:=hc;obtain⟨us,rfl,h1⟩:=hx;refine⟨[],rfl, ?_,(fun q f hq=>by simp[at?]at hq), ?_⟩
  .
   rw[add0];exact h1
  .
   exact ones h1 ho hs
 | rc t=>
  simp only[iR]at hc;split at hc
  .
   simp only[zG2]at hc;obtain⟨us,rfl,h1⟩:=hx;obtain⟨Bp,e1,e2⟩:=vU (C:=C) (U:=U) A.sy.length h1;rw[hc]at e1 e2;obtain⟨a1,a2⟩:=e2 (V.add A.sy.length Bp) (fun q u hq=>Vl.add_at hq);exact⟨Bp,e1,a1,a2,h1.one⟩
  .
   cases hc
 | tup _ _=>cases hc
end
end Eg
end
section
theorem A69{p:Prop}(h:p:=by cases e):p:=h
theorem A89{p:Prop}(h:p:=by cases hc):p:=h
namespace Eg
section
variable {C:Cx} {U:Value->Prop} {G:Cfg} {A:AS} {S B X:Nat->Prop} {τ τ':Sm} {V V':Vl} {a:Act} {w w':World} {d:Option Nat} {ty:TypeId} {pos:String} {aft:Array Edge} {gd:Option (Nat × Bool)}
theorem aG0 {T o:Nat}{x:CV}{v:Value}(h:x.ok V v):(loose T o x).ok V v:=by
 unfold loose;split
 .
  split
  .
   rename_i hc;simp only[zC0,zE3]at hc;obtain⟨n,e,h1,h2⟩:=h;exact⟨n,e,by omega,by omega⟩
  .
   exact h
 .
  exact h
theorem oZ {T:Nat}:∀{o:Nat} {l:List CV} {vs:List Value},fQ V l vs->fQ V (uE T o l) vs
 | _,[],_,h=>h| o,x :: l,_,⟨v,us,e,h1,h2⟩=>⟨v,us,e,aG0 h1,oZ h2⟩
theorem aCx {T n:Nat}(h:cells T=some n)(w:World):(sizeOf T).run Tryz.prog w=.ok n w:=by
 by_cases hn:n=1
 .
  subst hn;obtain⟨_,i,_,_,_,hi,hs⟩:=aQ7 aNk (vB h);simp[sizeOf,typeInfo,hi,hs,go_sem]
 .
  obtain⟨z,ds,h1,h2⟩:=mY h hn;obtain⟨fs,b,cs,_,_,_,hi,_⟩:=aIw vP h1;rw[<-h2];exact kH hi w
theorem aOe (h:Kn C U A S B X τ V w)(hS:aIp V S){T:Nat}{x:Operand}(hx:Opd A S B X τ V a x){u:Out}(hu:bP G A ⟨d,.box T x,ty,pos,aft,gd⟩=some u)(Lb:¬B A.bk.length)(hn:∀q,q<u.ns.length->¬S (A.sy.length+q)):dA C U A ⟨d,.box T x,ty,pos,aft,gd⟩ u S B X τ V a w:=by
 simp only[bP]at hu;split at hu
 .
  rename_i n vs ns hT hc;split at hu
  .
   rename_i hh;simp only[zC0,beq_iff_eq,zE3]at hh;cases hu;obtain⟨Bp,e1,e2,e3,e4⟩:=qY h hS hx.1 hx.2.1 hc hh.2 hn;have Ja:=gY (V:=V) (S:=S) (c:=A.sy.length) (us:=Bp) (fun q hq=>hn q (by rw[<-e1];exact hq));have tr:∀{l:List CV} {us:List Value},fQ (V.add A.sy.length Bp) l us->(∀b ∈ l.flatMap CV.bs,b ≠ A.bk.length)->fQ { V.add A.sy.length Bp with β:=fun n=>if n=A.bk.length then w.heap.size else V.β n } l us:=fun h9 Lg=>fQ.on h9 (fun _ _=>rfl) (fun b hb=>if_neg (Lg b hb)) (fun _ _=>rfl);have Cy:∀b ∈ vs.flatMap CV.bs,b ≠ A.bk.length:=by
    intro b hb e9;subst e9;cases hav:A.ev x with
    | c y=>rw[hav]at hc;simp only[iR,zG2,Prod.mk.injEq]at hc;obtain⟨rfl,rfl⟩:=hc;exact Lb (hx.2.2.1 _ (by rw[hav];simpa [AV.bs] using hb))
    | agg l=>rw[hav]at hc;simp only[iR,zG2,Prod.mk.injEq]at hc;obtain⟨rfl,rfl⟩:=hc;exact Lb (hx.2.2.1 _ (by rw[hav];exact hb))
    | rc t=>
     rw[hav]at hc;simp only[iR]at hc;split at hc
     .
      simp only[zG2]at hc;have:∀(r:List Fd) (c:Nat),(aA8 c r).1.flatMap CV.bs=[]:=by
       intro r;induction r with
       | nil=>intro c;rfl| cons f r ih=>intro c;simp only[aA8,List.flatMap_cons,ih,List.append_nil];cases f <;> rfl
      have h9:=this (Dt t).2 A.sy.length;rw[hc]at h9;rw[h9]at hb;cases hb
     .
      cases hc
    | tup _ _=>rw[hav]at hc;cases hc
   refine dA.val (v:=.pointer (some ⟨w.heap.size,0,none⟩)) (w':=w.alloc (.cells (a.eval x).cells.toList.toArray T (0,0))) ?_ (vG (V':={ V.add A.sy.length Bp with β:=fun n=>if n=A.bk.length then w.heap.size else V.β n }) h Lb rfl rfl rfl rfl rfl rfl Ja (fun q f hq=>SF.on (e3 q f hq) (Sub.refl _) (fun _ _=>rfl)) (oZ (tr e2 Cy)));simp only[execOp,Instr.box,Sem.run_bind,newVar,newRow,newObj,Sem.run,Result.andThen_ok];rfl
  .
   cases hu
 .
  cases hu
def aA7:List Value->Nat->List Value->List Value
 | l,_,[]=>l| l,o,v :: r=>aA7 (l.set o v) (o+1) r
theorem aCy:∀{xs:List CV} {us:List Value},fQ V xs us->∀{l:List CV} {vs:List Value} (o:Nat),fQ V l vs->fQ V (aN2 l o xs) (aA7 vs o us)
 | [],_,h,l,vs,o,hl=>by rw[show _=[] from h];exact hl
 | x :: xs,_,⟨v,us,e,h1,h2⟩,l,vs,o,hl=>by
  subst e;show fQ V (aN2 (put l o x) (o+1) xs) (aA7 (vs.set o v) (o+1) us)
  rw[aC2];exact aCy h2 (o+1) (fQ.set hl o h1)
theorem oL:∀(us:List Value) (vs:List Value) (o:Nat),(aA7 vs o us).length=vs.length
 | [],_,_=>rfl| v :: us,vs,o=>by rw[aA7,oL,List.length_set]
theorem aAs {g T:Nat}:∀(us:List Value) (w:World) (vs:List Value) (o:Nat),Blk w g T vs->Blk (w.setCells g o us) g T (aA7 vs o us)
 | [],_,_,_,h=>h| v :: us,w,vs,o,h=>by
  rw[World.setCells,aA7];exact aAs us _ _ (o+1) (h.set (i:=o) v)
theorem aDi (h:Kn C U A S B X τ V w)(hS:aIp V S){T n b p:Nat}{x y:Operand}{T':Nat}{l vs:List CV}{ns:List SF}(hx:Opd A S B X τ V a x)(hy:Opd A S B X τ V a y)(hT:cells T=some n)(hv:A.ev x=.c (.ptr b p))(hb:at? A.bk b=some (.cells T' l))(hc:iR A.sy.length (A.ev y)=some (vs,ns))(hl:vs.length=n)(hp:p+n<=l.length)(ho:vs.all wQ=true)(hn:∀q,q<ns.length->¬S (A.sy.length+q)):
  dA C U A ⟨d,.store T x y,ty,pos,aft,gd⟩ { r:=.c .und,ns:=ns,up:=some (b,aN2 l p (uE T' p vs)) } S B X τ V a w:=by
 obtain⟨h1,_,h3,_⟩:=hx;rw[hv]at h1 h3;have hB:B b:=h3 b A50;obtain⟨⟨vb,Ck,Km⟩,hnone,Ad,hK⟩:=h.bk b _ hb hB;obtain⟨Bp,e1,e2,e3,e4⟩:=qY h hS hy.1 hy.2.1 hc ho hn;have Ja:=gY (V:=V) (S:=S) (c:=A.sy.length) (us:=Bp) (fun q hq=>hn q (by rw[<-e1];exact hq));have Ab:(a.eval y).cells.toList.length=n:=by rw[e2.length];exact hl
 have Qc:=Km.length;have hrun:(execOp a.eval ⟨d,.store T x y,ty,pos,aft,gd⟩).run Tryz.prog w=.ok .skip (w.setCells (V.β b) p (a.eval y).cells.toList):=by
  have hst:=run_storeCells_cells (P:=Tryz.prog) (V.β b) p (a.eval y).cells.toList 0 w (fun j hj=>by
   rw[zG1];rw[Ck.cell (i:=p+j) (zA0 A0)];rfl) (fun j hj=>Ck.free _) e4
  simp only[zG1]at hst;have Bg:(a.eval y).cells.size=n:=by simpa using Ab
  have e9:a.eval x=.pointer (some ⟨V.β b,p,none⟩):=h1;simp only[execOp,e9,Instr.storeAt,Instr.sureAddr,storeVar,Sem.run_bind,Sem.run_pure,Result.andThen_ok,aCx hT,Bg,ne_eq,not_true,if_false,hst]
 have Uc:=fun k (hk:k ≠ V.β b)=>heap_setCells_other (V.β b) (a.eval y).cells.toList p w k hk;have Aw:=setCells_same (V.β b) (a.eval y).cells.toList p w;have ht:∀q s,τ q=some s->q ≠ V.β b:=by rintro q s hq rfl;rw[hnone]at hq;cases hq
 have m:Mv C [V.β b] τ w τ (w.setCells (V.β b) p (a.eval y).cells.toList):=h.fr.step [V.β b] (h.fr.th.on fun q s hq=>Uc q (ht q s hq)) (Sub.refl _) Aw.1 Aw.2.1 Aw.2.2.1 A64 (fun _ _ h9=>h9) (fun q _ _ hq=>Uc q A51) (fun _ q _ hq=>⟨rfl,Uc q (by
   cases e9:τ q with
   | none=>exact absurd e9 hq| some s=>exact ht q s e9)⟩) (fun q hq Gg=>by
   rw[List.mem_singleton.1 hq]at Gg ⊢;rcases hK with hK|hK
   .
    exact hK
   .
    omega) (fun h9=>h9)
 refine dA.unit hrun ⟨m.fr,m.sub,m.size,m.non,fun _ q s hq _=>Uc q (ht q s hq),fun _=>m.tg,Ja,fun _ _=>rfl,fun _ _=>rfl,e3,rfl,fun k z hk hz Ae=>?_,fun k l' T2 z e he hk=>?_,fun z e=> A69,fun c hc=> A89⟩
 .
  have Fm:k ≠ b:=by rintro rfl;exact Ae _ rfl
  have hβ:=h.dj k b z _ hz hb hk hB Fm;refine h.blkOn Ja (fun _ _=>rfl) (fun _ _=>rfl) hk hz fun q hq=>?_;by_cases Ta:q=V.β b
  .
   subst Ta;cases z with
   | cells T3 l3=>exact .inr ⟨by simp,Ne.symm hβ⟩
   | cur=>
    exfalso;obtain⟨z1,z2⟩:=h.lo k hz hk;have:=(z2 (V.β b) A0).2;rcases hK with hK|hK
    .
     exact this hK
    .
     omega
  .
   exact .inl (Uc q Ta)
 .
  simp only[zG2,Prod.mk.injEq]at e;obtain⟨rfl,rfl⟩:=e;rw[hb]at he;cases he;obtain⟨c1,c2,c3⟩:=h.bc b _ hb hB;exact⟨_,aAs _ w vb p Ck,aCy (oZ e2) p (fQ.on Km (fun s hs=>Ja s (c1 s hs)) (fun _ _=>rfl) (fun _ _=>rfl))⟩
end
end Eg
end
section
theorem QA101{p:Prop}(h:p:=by
 exact⟨_,Res.typed h rfl rfl rfl rfl rfl rfl (by rw[Ff];simp) m.fr m.sub m.non (fun _=>m.tg)⟩):p:=h
namespace Eg
section
variable {C:Cx} {U:Value->Prop} {G:Cfg} {A:AS} {S B X:Nat->Prop} {τ τ':Sm} {V V':Vl} {a:Act} {w w':World} {d:Option Nat} {ty:TypeId} {pos:String} {aft:Array Edge} {gd:Option (Nat × Bool)}
theorem rG:∀(us vs:List Value) (o z:Nat),o+us.length<=vs.length->(aA7 vs o us)[z]?=if o<=z/\z<o+us.length then us[z-o]? else vs[z]?
 | [],vs,o,z,_=>by rw[if_neg A8];rfl
 | u :: us,vs,o,z,h=>by
  simp only[zB1]at h ⊢;rw[aA7,rG us (vs.set o u) (o+1) z (by rw[List.length_set];omega)];by_cases h1:o+1<=z/\z<o+1+us.length
  .
   rw[if_pos h1,if_pos A0,show z-o=(z-(o+1))+1 by omega,List.getElem?_cons_succ]
  .
   rw[if_neg h1];by_cases h2:z=o
   .
    subst h2;rw[if_pos A0,Nat.sub_self,List.getElem?_cons_zero,List.getElem?_set_self A0]
   .
    rw[if_neg A0,List.getElem?_set_ne A0]
theorem oJ (h:Kn C U A S B X τ V w){b j i p:Nat}{so:So}{cs vs:List Value}{q:Bool}(hb:τ b=some so)(Ir:so.k ≠ .bt)(hi:j+i<so.u)(Ak:EV τ so.q so.k vs)(As:∀z u,vs[z]?=some u->w.cell? ⟨b,(j+i)*so.k.k+z,none⟩=some u)(hp:p+cs.length<=so.k.k)(hq:so.q=true->q=true)(Iw:EV τ q so.k (aA7 vs p cs))(Aj:C.st=true->C.w0.heap.size<=b)(h1:∀u ∈ cs,u.oneCell'=true):
  Mv C [] τ w (upd τ b { so with q:=q }) (w.setCells b ((j+i)*so.k.k+p) cs)\/q=true/\so.q=false/\Fr C (upd τ b { so with q:=q }) (w.setCells b ((j+i)*so.k.k+p) cs)/\Sub τ (upd τ b { so with q:=q })/\(∀g,g<w.heap.size->τ g=none->upd τ b { so with q:=q } g=none):=by
 have hR:=h.fr.th b so hb;obtain⟨cb,fl,Ck,Hi,Bg⟩:=hR.blk;obtain rfl:=Hi Ir;have Qc:=Ak.length;have Ad:∀z,z<cs.length->(j+i)*so.k.k+p+z<cb.size:=fun z hz=>by
  rw[Bg];have h9:(j+i+1)*so.k.k<=so.c*so.k.k:=Nat.mul_le_mul_right _ (by have:=hR.u;omega);rw[Nat.add_mul]at h9;omega
 have Ha:=World.cell?_setCells_in b cs ((j+i)*so.k.k+p) w (fun z hz=>mZ Ck (Ad z hz));obtain⟨cb',Dy,hsz'⟩:=iN b so.k.ty cs ((j+i)*so.k.k+p) w cb Ck;have Aw:=setCells_same b cs ((j+i)*so.k.k+p) w;have Gd:Sub τ (upd τ b { so with q:=q }):=fun g s hg=>by
  by_cases e:g=b
  .
   subst e;rw[hb]at hg;cases hg;exact⟨_,lM _ _ _,rfl,rfl,zB0 _⟩
  .
   exact⟨s,(eF e).trans hg,rfl,rfl,zB0 _⟩
 have Ae:∀g,τ g=none->g ≠ b:=by rintro g hg rfl;rw[hb]at hg;cases hg
 have Au:aJy (upd τ b { so with q:=q }) (w.setCells b ((j+i)*so.k.k+p) cs) b { so with q:=q }:=by
  refine⟨⟨cb',(0,0),Dy,fun _=>rfl,hsz'.trans Bg⟩,hR.u,hR.c,fun e he=>?_⟩;change e<so.u at he;by_cases Oh:e=j+i
  .
   subst Oh;refine⟨aA7 vs p cs,(oL _ _ _).trans Qc,Iw.sub Gd,fun z u hu=>?_⟩;rw[rG cs vs p z A0]at hu;split at hu
   .
    rename_i hz;have h9:=Ha (z-p) A0;have e9:(j+i)*so.k.k+p+(z-p)=(j+i)*so.k.k+z:=A0;rw[e9]at h9;obtain⟨h10,h11⟩:=zC1.1 hu;rw[<-h11];exact h9
   .
    rename_i hz;have hzl:=(zC1.1 hu).1;show(w.setCells b _ cs).cell? ⟨b,(j+i)*so.k.k+z,none⟩=some u
    rw[World.cell?_setCells_out b _ _ w _ (fun _ _=>by
     show(j+i)*so.k.k+z<(j+i)*so.k.k+p\/(j+i)*so.k.k+p+cs.length<=(j+i)*so.k.k+z
     omega)]
    exact As z u hu
  .
   obtain⟨ws,w1,w2,w3⟩:=hR.el e he;have w2':EV τ q so.k ws:=by
    cases hsq:so.q with
    | false=>rw[hsq]at w2;exact w2.loose| true=>rw[hsq]at w2;rw[hq hsq];exact w2
   refine⟨ws,w1,w2'.sub Gd,fun z u hu=>?_⟩;have hzl:=(zC1.1 hu).1;show(w.setCells b _ cs).cell? ⟨b,e*so.k.k+z,none⟩=some u
   rw[World.cell?_setCells_out b _ _ w _ (fun _ _=>by
    show e*so.k.k+z<(j+i)*so.k.k+p\/(j+i)*so.k.k+p+cs.length<=e*so.k.k+z
    rcases zJ1 e (j+i) with h9|h9
    .
     left;have:(e+1)*so.k.k<=(j+i)*so.k.k:=Nat.mul_le_mul_right _ A0;rw[Nat.add_mul]at this;omega
    .
     right;have:(j+i+1)*so.k.k<=e*so.k.k:=Nat.mul_le_mul_right _ A0;rw[Nat.add_mul]at this;omega)]
   exact w3 z u hu
 have hth:=h.fr.th.upd Gd (fun g hg _=>heap_setCells_other b cs _ w g hg) Au;have hnon:∀g,g<w.heap.size->τ g=none->upd τ b { so with q:=q } g=none:=fun g _ hg=>(eF (Ae g hg)).trans hg;have step:(Tg τ->Tg (upd τ b { so with q:=q }))->Mv C [] τ w (upd τ b { so with q:=q }) (w.setCells b ((j+i)*so.k.k+p) cs):=fun Md=>
  h.fr.step [] hth Gd Aw.1 Aw.2.1 Aw.2.2.1 A64 hnon (fun g _ hg _=>heap_setCells_other b cs _ w g (Ae g hg)) (fun hst g Gg _=>by
   have Ew:g ≠ b:=by rintro rfl;have:=Aj hst;omega
   exact⟨eF Ew,heap_setCells_other b cs _ w g Ew⟩) (fun _ h9=>by cases h9) Md
 by_cases Ua:q=so.q
 .
  exact .inl (step fun ht=>ht.upd (by show q=false;rw[Ua];exact ht b so hb))
 .
  right;have hsq:so.q=false:=by cases e:so.q with|false=>rfl|true=>rw[hq e,e]at Ua;exact absurd rfl Ua
  have hqt:q=true:=by cases e:q with|true=>rfl|false=>rw[e,hsq]at Ua;exact absurd rfl Ua
  have st:C.st=true\/C.st=false:=by cases C.st <;> simp
  refine⟨hqt,hsq, ?_,Gd,hnon⟩;have hF:=h.fr;exact⟨hth,hF.sub.trans Gd,Aw.1.trans hF.os,Aw.2.1.trans hF.tape,Aw.2.2.1.trans hF.output,by rw[Aw.2.2.2];exact hF.size,fun g hg hn=>hnon g (Nat.lt_of_lt_of_le hg hF.size) (hF.non g hg hn),fun g hg hn hk=>(heap_setCells_other b cs _ w g (Ae g (hF.non g hg hn))).trans (hF.blk g hg hn hk),fun hst g hg hn=>by
   have Ew:g ≠ b:=by rintro rfl;have:=Aj hst;omega
   obtain⟨a1,a2⟩:=hF.str hst g hg hn;exact⟨(eF Ew).trans a1,(heap_setCells_other b cs _ w g Ew).trans a2⟩⟩
theorem Res.typed {u:Out}(h:Kn C U A S B X τ V w)(hr:u.r=.c .und)(Qi:u.ns=[])(Ba:u.nb=none)(hup:u.up=none)(Fu:u.nc=[])(Js:u.nq=true){b o:Nat}{cs:List Value}(Ir:τ b ≠ none)(fr:Fr C τ' (w.setCells b o cs))(sub:Sub τ τ')(non:∀g,g<w.heap.size->τ g=none->τ' g=none)(tg:u.br=false->Tg τ->Tg τ'):Res C U A u S B X τ V w undef τ' V (w.setCells b o cs):=by
 have Aw:=setCells_same b cs o w;refine⟨fr,sub,by rw[Aw.2.2.2];exact zB0 _,non,fun h9=>(by rw[Js]at h9;cases h9),tg,fun _ _=>rfl,fun _ _=>rfl,fun _ _=>rfl,fun q f hq=>(by rw[Qi]at hq;simp[at?]at hq),by rw[hr];rfl,fun n x hn hx _=>h.blkOn (fun _ _=>rfl) (fun _ _=>rfl) (fun _ _=>rfl) hn hx fun g hg=>?_,fun n l T x e=> A53,fun x e=> A63,fun c hc=> A77⟩;obtain⟨_,h1,h2,_⟩:=h.bk n x hx hn;by_cases e:g=b
 .
  subst e;cases x with
  | cells T l=>exact .inr ⟨by simp,by rintro rfl;exact Ir h1⟩
  | cur=>
   exfalso;rcases Nat.lt_or_eq_of_le hg with Ad|Ye
   .
    exact Ir ((h.lo n hx hn).2 g Ad).1
   .
    rw[Ye]at Ir;exact Ir h1
 .
  exact .inl (heap_setCells_other b cs o w g e)
theorem tJ {T n b p:Nat}{x y:Operand}(hT:cells T=some n)(hv:a.eval x=.pointer (some ⟨b,p,none⟩))(hl:(a.eval y).cells.toList.length=n)(hc:∀j,j<n->(w.cell? ⟨b,p+j,none⟩).isSome=true)(hf:∀j,j<n->w.frozen? ⟨b,p+j,none⟩=false)(h1:∀u ∈ (a.eval y).cells.toList,u.oneCell'=true):(execOp a.eval ⟨d,.store T x y,ty,pos,aft,gd⟩).run Tryz.prog w=.ok .skip (w.setCells b p (a.eval y).cells.toList):=by
 have hst:=run_storeCells_cells (P:=Tryz.prog) b p (a.eval y).cells.toList 0 w (fun j hj=>by rw[zG1];exact hc j A0) (fun j hj=>by rw[zG1];exact hf j A0) h1;simp only[zG1]at hst;have Bg:(a.eval y).cells.size=n:=by simpa using hl
 simp only[execOp,hv,Instr.storeAt,Instr.sureAddr,storeVar,Sem.run_bind,Sem.run_pure,Result.andThen_ok,aCx hT,Bg,ne_eq,not_true,if_false,hst]
theorem aGr (h:Kn C U A S B X τ V w)(hS:aIp V S)(Vg:C.st=G.st){T:Nat}{x y:Operand}(hx:Opd A S B X τ V a x)(hy:Opd A S B X τ V a y){u:Out}(hu:bP G A ⟨d,.store T x y,ty,pos,aft,gd⟩=some u)(hn:∀q,q<u.ns.length->¬S (A.sy.length+q)):dA C U A ⟨d,.store T x y,ty,pos,aft,gd⟩ u S B X τ V a w:=by
 simp only[bP]at hu;have own:∀(s:Nat) (g:SF) (b o n c:Nat),at? A.sy s=some g->S s->(g.own || !G.st)=true->V.ρ s=.slice (some ⟨b,o,none⟩) n c->C.st=true->C.w0.heap.size<=b:=by
  intro s g b o n c hg hs ho e hst;rw[Vg]at hst;rw[hst]at ho;have:=(h.sy s g hg hs).2.2.2.1 (by simpa using ho) (by rw[Vg];exact hst) b A76;exact this
 split at hu
 .
  rename_i n b p v hT e;split at hu
  .
   rename_i T' l vs ns hb hc;split at hu
   .
    rename_i hh;simp only[zC0,beq_iff_eq,zE3]at hh;cases hu;exact aDi h hS hx hy hT e hb hc hh.1.1 hh.1.2 hh.2 hn
   .
    cases hu
  .
   cases hu
 .
  rename_i s t ix p v hT e1 e2;split at hu
  .
   rename_i f g hf hg;split at hu
   .
    rename_i hh;simp only[zC0]at hh;obtain⟨⟨⟨Qp,ho⟩,htn⟩,hkd⟩:=hh;cases hu;obtain⟨h1,h2,_⟩:=hx;obtain⟨h3,h4,_⟩:=hy;rw[e1]at h1 h2;rw[e2]at h3 h4;have Jj:S s:=h2 s A16;obtain⟨g',hg',hgk⟩:=wM hkd;obtain⟨b,j,n,c,i,e3,e4,e5,_⟩:=id h1;obtain⟨so,vs,Ff,Hy,hui,Kj,As⟩:=pR h Jj hg' hgk e3 e4;have Un:=lW h h3 h4 Qp;have hvc:(a.eval y).cells.toList=[a.eval y]:=by
     have:=Un.one;have h9:(a.eval y).cells=#[a.eval y]:=by
      generalize a.eval y=vv at *;cases vv <;> first|rfl|(simp[Value.oneCell']at this)
     rw[h9]
    rw[dM]at hf;have Qh:p<(Lt t).length:=(zC1.1 hf).1;have Dp:so.k.k=(Lt t).length:=by rw[Hy];exact(vJ t).symm
    have Qc:=Kj.length;rw[<-Hy]at Kj As Qc e5;have hloose:RV τ (Lt t) vs:=by
     rw[Hy]at Kj;cases hq:so.q with
     | true=>rw[hq]at Kj;exact Kj| false=>rw[hq]at Kj;exact RV.loose Kj
    have hnewL:=RV.set hloose hf Un;have Ta:EV τ (so.q || turn t) so.k (aA7 vs p [a.eval y]):=by
     show EV τ (so.q || turn t) so.k (vs.set p (a.eval y))
     rw[Hy];cases hq:(so.q || turn t) with
     | true=>exact hnewL| false=>
      have ht:turn t=false:=by cases e:turn t with|false=>rfl|true=>rw[e]at hq;simp at hq
      have:=hnewL;rw[rP ht]at this;exact this
    have Ir:so.k ≠ .bt:=by rw[Hy];simp
    have hR:=h.fr.th b so Ff;obtain⟨cb,fl,Ck,Hi,Bg⟩:=hR.blk;obtain rfl:=Hi Ir;have hrun:=tJ (d:=d) (ty:=ty) (pos:=pos) (aft:=aft) (gd:=gd) (w:=w) (y:=y) hT e5 (by rw[hvc];rfl) (fun z hz=>by
     obtain rfl:z=0:=A0;obtain⟨u0,hu0⟩:∃u0,vs[p]?=some u0:=⟨_,zA0 A0⟩
     rw[zG1,As p u0 hu0];rfl) (fun z hz=>frozen_of_row w b _ _ _ Ck) (fun u hu=>by rw[hvc]at hu;rw[List.mem_singleton.1 hu];exact Un.one)
    rw[hvc]at hrun
    suffices Bz:∃τ',Res C U A { r:=.c .und,br:=turn t,nq:=true } S B X τ V w undef τ' V (w.setCells b ((j+i)*so.k.k+p) [a.eval y]) by
     obtain⟨τ',Bz⟩:=Bz;exact dA.unit hrun Bz
    rcases oJ (q:=so.q || turn t) (cs:=[a.eval y]) (p:=p) h Ff Ir hui Kj As (by simp only[List.length_singleton];omega) (fun e9=>by rw[e9];rfl) Ta (own s g b _ n c hg Jj ho e3) (fun u hu=>by rw[List.mem_singleton.1 hu];exact Un.one) with m|⟨hq,hq0,fr,sub,non⟩
    .
     exact QA101
    .
     refine⟨_,Res.typed h rfl rfl rfl rfl rfl rfl (by rw[Ff];simp) fr sub non (fun Cv=>?_)⟩;have hbr':turn t=false:=Cv;rw[hq0,hbr']at hq;cases hq
   .
    cases hu
  .
   cases hu
 .
  rename_i n s t ix hT e1 hne1;split at hu
  .
   rename_i g hg;split at hu
   .
    rename_i hh;simp only[zC0,beq_iff_eq,Bool.not_eq_true']at hh;obtain⟨⟨⟨⟨Kh,Qp⟩,ho⟩,htn⟩,hkd⟩:=hh;cases hu;obtain⟨h1,h2,_⟩:=hx;rw[e1]at h1 h2;have Jj:S s:=h2 s A16;obtain⟨g',hg',hgk⟩:=wM hkd;obtain⟨b,j,m,c,i,e3,e4,e5,_⟩:=id h1;obtain⟨so,vs,Ff,Hy,hui,Kj,As⟩:=pR h Jj hg' hgk e3 e4;have Iw:=aEq h hy.1 hy.2.1 Qp;have Ab:=Iw.length;have Qc:=Kj.length;rw[<-Hy]at Kj As Qc e5 Iw Ab;have hsl:aA7 vs 0 (a.eval y).cells.toList=(a.eval y).cells.toList:=by
     apply List.ext_getElem?;intro z;rw[rG _ _ _ _ A0];split
     .
      rfl
     .
      rw[List.getElem?_eq_none A0,List.getElem?_eq_none A0]
    have Ir:so.k ≠ .bt:=by rw[Hy];simp
    have hR:=h.fr.th b so Ff;obtain⟨cb,fl,Ck,Hi,Bg⟩:=hR.blk;obtain rfl:=Hi Ir;have Ca:so.k.k=n:=by rw[Hy,Kh];rfl
    have hrun:=tJ (d:=d) (ty:=ty) (pos:=pos) (aft:=aft) (gd:=gd) (w:=w) (y:=y) hT e5 A0 (fun z hz=>by
     obtain⟨u0,hu0⟩:∃u0,vs[z]?=some u0:=⟨_,zA0 A0⟩
     rw[zG1,As z u0 hu0];rfl) (fun z hz=>frozen_of_row w b _ _ _ Ck) Iw.one
    suffices Bz:∃τ',Res C U A { r:=.c .und,nq:=true } S B X τ V w undef τ' V (w.setCells b ((j+i)*so.k.k+0) (a.eval y).cells.toList) by
     obtain⟨τ',Bz⟩:=Bz;exact dA.unit hrun Bz
    rcases oJ (q:=so.q) (cs:=(a.eval y).cells.toList) (p:=0) h Ff Ir hui Kj As A0 (fun e9=>e9) (by rw[hsl];exact Iw.loose) (own s g b _ m c hg Jj ho e3) Iw.one with m|⟨hq,hq0,_⟩
    .
     exact QA101
    .
     rw[hq0]at hq;cases hq
   .
    cases hu
  .
   cases hu
 .
  cases hu
theorem aKj {k:Rs}(h:k.turn=false):k.same:=by
 cases k with
 | rc t=>exact rP h| _=>trivial
theorem aFd (h:Kn C U A S B X τ V w){c:Call}{x y:Operand}{T:Nat}{k:Rs}{n m:Nat}{v v2:Value}(hc:c.callee=.builtin .append)(e1:c.args.toList=[x,y])(e2:c.argTypes.toList=[T,T])(hT:aGa T k=true)(hv:a.eval x=v)(Tv:a.eval y=v2)(h1:SV τ k n v)(h2:SV τ k m v2)(hk:k ≠ .bt\/∀a n' c',v=.slice a n' c'->c'=0)(Aj:C.st=true->∀g,v.ownBlock=some g->C.w0.heap.size<=g)(Md:(A.tg || !k.turn)=true)(hl:n+m<=1000000):
  ∃r τ' w',(execOp a.eval ⟨d,.call c,ty,pos,aft,gd⟩).run Tryz.prog w=.ok (.value r) w'/\Mv C [] τ w τ' w'/\SV τ' k (n+m) r/\(∀g,r.ownBlock=some g->v.ownBlock=some g\/w.heap.size<=g)/\∀b,b<w.heap.size->some b ≠ v.ownBlock->w'.heap[b]?=w.heap[b]?:=by
 obtain⟨z,b,hi,hz,hb⟩:=aHc k;have hq:Tg τ\/k.same:=by
  cases ht:A.tg with
  | true=>exact .inl (h.tg ht)| false=>rw[ht]at Md;exact .inr (aKj (by simpa using Md))
 obtain⟨r,τ',w',hr,m1,m2,m3,m4⟩:=h.fr.app (ty:=ty) h1 h2 hq hk Aj hi (aNs hT) hz hb hl;refine⟨r,τ',w', ?_,m1,m2,m3,m4⟩;simp only[execOp,resolve,hc,aP8 e1,aNi e2,invoke,builtin,Sem.run_bind,Sem.run_pure,Result.andThen_ok,List.map_toArray,zH2,List.map_nil,hv,Tv,hr]
theorem aDl (h:Kn C U A S B X τ V w)(Vg:C.st=G.st){c:Call}(hc:c.callee=.builtin .append)(hx:∀x ∈ c.args.toList,Opd A S B X τ V a x){u:Out}(hu:bP G A ⟨d,.call c,ty,pos,aft,gd⟩=some u)(hn:∀q,q<u.ns.length->¬S (A.sy.length+q)):dA C U A ⟨d,.call c,ty,pos,aft,gd⟩ u S B X τ V a w:=by
 simp only[bP,hc]at hu;split at hu
 .
  rename_i x y T T' e1 e2;obtain⟨h1,h2,_⟩:=hx x (by rw[e1];simp);obtain⟨h3,h4,_⟩:=hx y (by rw[e1];simp);split at hu
  .
   rename_i hTT;simp only[beq_iff_eq]at hTT;subst hTT;have fin:∀(r:Value) (n:Nat) (k:Rs),SV τ k n r\/True->∀V:Vl,(∀q,q<1->¬S (A.sy.length+q))->(V.add A.sy.length [r]).ρ A.sy.length=r/\∀s',S s'->(V.add A.sy.length [r]).ρ s'=V.ρ s':=fun r n k _ V hn1=>⟨Vl.add_at (q:=0) rfl,gY (fun q hq=>hn1 q A51)⟩;split at hu
   .
    rename_i s e3 e4;rw[e3]at h1;rw[e4]at h3 h4;have Jj:S s:=h4 s A16;split at hu
    .
     rename_i g hg;split at hu
     .
      rename_i hh;simp only[zC0,zE3,Bool.not_eq_true']at hh;obtain⟨⟨⟨hT,hhi⟩,Ir⟩,Md⟩:=hh;cases hu;have Xs:=h.sy s g hg Jj;have Tv:a.eval y=V.ρ s:=h3;obtain⟨r,τ',w',hrun,m,Sy,It,hqt⟩:=aFd (d:=d) (ty:=ty) (pos:=pos) (aft:=aft) (gd:=gd) (a:=a) h hc e1 e2 hT h1 Tv (SV.nil (τ:=τ) g.k) Xs.1 (.inl (by intro e9;rw[e9]at Ir;simp[Rs.eq]at Ir)) (fun _ g' hg'=>by cases hg') Md (by have:=Xs.2.2.1;omega);obtain⟨hV,Ja⟩:=fin r 0 .bt (.inr trivial) V (fun q hq=>hn q hq);have Xz:ln r=ln (V.ρ s):=by
       rcases Sy with⟨e9,h9⟩|⟨b,j,c9,so,e9,_⟩
       .
        rw[e9,aJe];omega
       .
        rw[e9];show 0+ln (V.ρ s)=_;omega
      refine dA.val hrun (Res.mv (V':=V.add A.sy.length [r]) h m (fun _ b so hb _=>hqt b (h.fr.th.lt hb) (by simp[Value.ownBlock])) rfl rfl Ja (fun _ _=>rfl) (fun _ _=>rfl) (fun q f hq=>?_) hV.symm (fun c hc=>by cases hc));cases q with
      | succ q=>simp[at?]at hq| zero=>
       simp only[at?,zG2]at hq;subst hq;rw[zG1,hV];refine⟨?_, ?_, ?_, ?_,(fun h9=>by cases h9),(fun h9=>by cases h9),(fun s h9=>by cases h9)⟩
       .
        rw[Xz];rw[zJ0]at Sy;exact Sy
       .
        rw[Xz];exact Xs.2.1
       .
        rw[Xz];exact Xs.2.2.1
       .
        intro _ _ g' hg';rcases It g' hg' with h9|h9
        .
         cases h9
        .
         exact zF2 h.fr.size h9
     .
      cases hu
    .
     cases hu
   .
    rename_i q s e3 e4;rw[e3]at h1 h2;rw[e4]at h3 h4;have Jj:S s:=h4 s A16;have hSq:S q:=h2 q A16;split at hu
    .
     rename_i f g hf hg;split at hu
     .
      rename_i hh;simp only[zC0,zE3,Bool.or_eq_true,Bool.not_eq_true']at hh;obtain⟨⟨⟨⟨⟨hT,Cg⟩,hhi⟩,ho⟩,Ir⟩,Md⟩:=hh;cases hu;have Cg:=Rs.eq_eq Cg;have Fk:=h.sy q f hf hSq;have Xs:=h.sy s g hg Jj;have hv:a.eval x=V.ρ q:=h1;have Tv:a.eval y=V.ρ s:=h3;have hsf1:=Fk.1;rw[Cg]at hsf1;obtain⟨r,τ',w',hrun,m,Sy,It,hqt⟩:=aFd (d:=d) (ty:=ty) (pos:=pos) (aft:=aft) (gd:=gd) (a:=a) h hc e1 e2 hT hv Tv hsf1 Xs.1 (by
       rcases Ir with Ir|Ir
       .
        left;intro e9;rw[Cg,e9]at Ir;simp[Rs.eq]at Ir
       .
        right;exact Fk.2.2.2.2.2.1 Ir) (fun hst g' hg'=>by
       rcases ho with ho|ho
       .
        exact Fk.2.2.2.1 ho hst g' hg'
       .
        rw[Vg,ho]at hst;cases hst) (by
       rcases Md with Md|Md
       .
        rw[Md];rfl
       .
        rw[Md];simp) (by have:=Xs.2.2.1;have:=Fk.2.2.1;omega)
      obtain⟨hV,Ja⟩:=fin r 0 .bt (.inr trivial) V (fun q hq=>hn q hq);have Xz:ln r=ln (V.ρ q)+ln (V.ρ s):=by
       rcases Sy with⟨e9,h9⟩|⟨b,j,c9,so,e9,_⟩
       .
        rw[e9,aJe];omega
       .
        rw[e9];rfl
      refine dA.val hrun (Res.mv (V':=V.add A.sy.length [r]) h m (fun h9=>by cases h9) rfl rfl Ja (fun _ _=>rfl) (fun _ _=>rfl) (fun q' f' hq'=>?_) hV.symm (fun c hc=>by cases hc));cases q' with
      | succ q'=>simp[at?]at hq'| zero=>
       simp only[at?,zG2]at hq';subst hq';rw[zG1,hV];have a1:=Fk.2.1;have a2:=Fk.2.2.1;have a3:=Xs.2.1;have a4:=Xs.2.2.1;refine⟨?_, ?_, ?_, ?_,(fun h9=>by cases h9),(fun h9=>by cases h9),(fun s9 h9=>?_)⟩
       .
        rw[Xz,Cg];exact Sy
       .
        rw[Xz];show f.lo+g.lo<=_;omega
       .
        rw[Xz];show _<=f.hi+g.hi;omega
       .
        intro Hr hst g' hg';rcases It g' hg' with h9|h9
        .
         exact Fk.2.2.2.1 Hr hst g' h9
        .
         exact zF2 h.fr.size h9
       .
        simp only at h9;split at h9
        .
         rename_i h10;simp only[zE3]at h10;cases h9;rw[Ja _ hSq,Xz];omega
        .
         cases h9
     .
      cases hu
    .
     cases hu
   .
    cases hu
  .
   cases hu
 .
  cases hu
end
end Eg
end
end Go.Proofs.YtcbhdhmhidpdgaaGreatDoor

import Derived.Test.YtcbhdhmhidpdgaaGreatLkImpl
import Derived.Test.YtcbhdhmhidpdgaaGreatPackU
import Derived.Laws.BytesArg
import Derived.Test.YtcbhdhmhidpdgaaGreatPackM
namespace Go.Proofs.YtcbhdhmhidpdgaaGreat
open Go.RowKit
set_option linter.unusedVariables false
set_option linter.unusedSimpArgs false
set_option maxRecDepth 100000
section
variable{l:List Oj}{j:Nat}
theorem aD5 (l:List Oj):∀n j,j<n->(eD l n)[j]?=some ⟨((aM l j).length:Int),((aM l (j+1)).length:Int),((kT l j).im.length:Int),(kT l j).code⟩
 | 0,j,h=>by omega
 | n+1,j,h=>by
  rw[eD];by_cases hj:j<n
  .
   rw[List.getElem?_append_left (by rw[iL];exact hj)];exact aD5 l n j hj
  .
   have:j=n:=A0;subst this;rw[List.getElem?_append_right (by rw[iL];exact zB0 _),iL,Nat.sub_self];rfl
theorem tG (l:List Oj)(j:Nat):∀n,j<=n->∃us,aM l n=aM l j++us
 | 0,h=>⟨[],by rw[show j=0 by omega];simp⟩
 | n+1,h=>by
  by_cases hj:j=n+1
  .
   subst hj;exact⟨[],by simp⟩
  .
   obtain⟨us,e⟩:=tG l j n A0;exact⟨us++(dO l n++jV l n),by rw[aM,e,zD0]⟩
theorem aIq{f:Nat}{m:List Int}(h:aCl (l.take j) m=some f):f<j:=by
 obtain⟨x,hx,_⟩:=dW h;have:=(zC1.1 hx).1;rw[List.length_take]at this;omega
theorem aKi{n:Nat}(hg:fV l n)(hj:j<n){x:Wo}(hx:x ∈ dO l j):∃f i,f<j/\x=qK f i/\i<(kT l f).ex.length:=by
 unfold dO at hx;obtain⟨y,hy,rfl⟩:=zE1.1 hx;have h1:=hg j hj y hy;unfold aEo at h1 ⊢;cases hf:aCl (l.take j) y.mod with
 | none=>rw[hf]at h1;exact absurd rfl h1| some f=>
  rw[hf]at h1;simp only at h1 ⊢;have Ad:=aIq hf;obtain⟨z,hz,_⟩:=dW hf;have Db:l[f]?=some z:=by rw[List.getElem?_take,if_pos Ad]at hz;exact hz
  rw[hz]at h1 ⊢;simp only[zI0]at h1 ⊢;cases hi:iZ z y.name y.print with
  | none=>rw[hi]at h1;exact absurd rfl h1| some i=>
   refine⟨f,i,Ad,by simp, ?_⟩;obtain⟨q,hq,_⟩:=dW hi;rw[cH Db];exact(zC1.1 hq).1
theorem aKw{n k:Nat}(hg:fV l n)(hj:j<n)(h1:(aM l j).length<=k)(h2:k<(aM l (j+1)).length):∃x,(aM l n)[k]?=some x/\x.t=decide (k<(aM l j).length+(kT l j).im.length)/\(x.t=true->1<=x.s/\x.s<=j):=by
 obtain⟨us,e⟩:=tG l (j+1) n A0;have el:(dO l j).length=(kT l j).im.length:=by unfold dO;rw[zB2]
 have h3:(aM l n)[k]?=(dO l j++jV l j)[k-(aM l j).length]?:=by
  rw[e,List.getElem?_append_left h2,aM,List.getElem?_append_right h1]
 rw[aM,zA1]at h2;obtain⟨x,hx⟩:∃x,(dO l j++jV l j)[k-(aM l j).length]?=some x:=⟨_,zA0 A0⟩
 refine⟨x,h3.trans hx, ?_⟩;by_cases hk:k<(aM l j).length+(kT l j).im.length
 .
  rw[List.getElem?_append_left A0]at hx;obtain⟨f,i,hf,rfl,_⟩:=aKi hg hj (zA3 hx);refine⟨(zB3 hk).symm,fun _=>⟨?_, ?_⟩⟩
  .
   show(1:Int)<=(f:Int)+1;omega
  .
   show(f:Int)+1<=(j:Int);omega
 .
  rw[List.getElem?_append_right A0]at hx;have:=zA3 hx;unfold jV at this;rw[(List.mem_replicate.1 this).2];exact⟨(zC2 hk).symm,fun h=>by cases h⟩
theorem qO {l:List Oj}:∀n,fV l n->∀x ∈ aM l n,x=cQ\/∃f j i,f<j/\j<n/\x=qK f i/\i<(kT l f).ex.length
 | 0,_,x,hx=>.inl (List.mem_replicate.1 hx).2| n+1,hg,x,hx=>by
  rw[aM]at hx;rcases List.mem_append.1 hx with hx|hx
  .
   rcases qO n (fun j hj=>hg j A0) x hx with h|⟨f,j,i,h1,h2,h3⟩
   .
    exact .inl h
   .
    exact .inr ⟨f,j,i,h1,by omega,h3⟩
  .
   rcases List.mem_append.1 hx with hx|hx
   .
    obtain⟨f,i,h1,h2⟩:=aKi hg (Nat.lt_succ_self n) hx;exact .inr ⟨f,n,i,h1,Nat.lt_succ_self n,h2⟩
   .
    unfold jV at hx;exact .inl (List.mem_replicate.1 hx).2
def aCw (x:Wo):WdM:=⟨x.t,x.n,x.l,x.h,x.a,x.p,x.s⟩
theorem aEy:∀l:List Wo,vH (l.map aCw)=cL l
 | []=>rfl| x :: l=>by rw[zH2,vH,cL,aEy l];rfl
theorem aBw(hf:jF l)(hg:fV l l.length):aCy ((aM l l.length).map aCw)=true/\∀x ∈ (aM l l.length).map aCw,aF7 x.s:=by
 have hw:=jL l (fun o ho=>by have:=cP (hf.2 o ho);omega) l.length (zB0 _);have h8:=hf.1.2;have Cd:∀x ∈ aM l l.length,(x=cQ\/∃f i:Nat,f<=6/\i<=8/\x=qK f i):=fun x hx=>by
  rcases qO l.length hg x hx with h|⟨f,j,i,h1,h2,rfl,h3⟩
  .
   exact .inl h
  .
   refine .inr ⟨f,i,by omega, ?_,rfl⟩;have Ia:f<l.length:=A0;rw[cH (zA0 Ia)]at h3;have:=(cP (hf.2 _ (List.getElem_mem Ia))).1;omega
 refine⟨zQ (n:=(aM l l.length).length) (zB2 _) A0 fun j hj x hx=>?_,fun x hx=>?_⟩
 .
  rw[zA2]at hx;obtain⟨y,hy,rfl⟩:=zF0.1 hx;rcases Cd y (zA3 hy) with rfl|⟨f,i,hf6,hi,rfl⟩
  .
   have:aAl (aM l l.length).length (aCw cQ)=(okW (aCw cQ) && !(aFi (aCw cQ) && decide (((aM l l.length).length:Int)<0))):=rfl;rw[this];have e1:okW (aCw cQ)=true:=by kernel_rfl
   rw[e1];have e2:aFi (aCw cQ)=false:=by kernel_rfl
   rw[e2];rfl
  .
   have e2:aFi (aCw (qK f i))=false:=by
    have Ae:((f:Int)+1 == 0)=false:=by simp;omega
    show(true && ((f:Int)+1 == 0))=false
    rw[Ae];rfl
   have e1:okW (aCw (qK f i))=true:=by
    have h1:inR ((f:Int)+1) 1 8=true:=by simp[inR];omega
    have h2:inR (i:Int) 0 4000=true:=by simp[inR];omega
    show okB true 0 0 0 (i:Int) 16 ((f:Int)+1)=true
    simp[okB,lH,h1,h2]
   unfold aAl;rw[e1,e2];rfl
 .
  obtain⟨y,hy,rfl⟩:=zE1.1 hx;rcases Cd y hy with rfl|⟨f,i,hf6,hi,rfl⟩
  .
   show aF7 0;unfold aF7;omega
  .
   show aF7 ((f:Int)+1);unfold aF7;omega
structure aVk (l l':List Oj):Prop where
 len:l'.length=l.length
 at_:∀(j:Nat) (o o':Oj),l[j]?=some o->l'[j]?=some o'->o'.name=o.name/\o'.ex=o.ex/\o'.data=o.data/\o'.code=o.code/\o'.im.length=o.im.length/\∀(k:Nat) (x y:Ip),o.im[k]?=some x->o'.im[k]?=some y->y.mod=x.mod/\y.name=x.name/\(y.print=x.print\/(0<=y.print/\y.print<=2147483647))
theorem aVk.get{l':List Oj}(h:aVk l l'){j:Nat}{o:Oj}(ho:l[j]?=some o):∃o',l'[j]?=some o':=⟨_,zA0 (by rw[h.len];exact(zC1.1 ho).1)⟩
end
section
variable{fm:Int}{l:List Oj}{w:World}
theorem aS4{rs:List (Value × Rg)}{ws:List Wo}{s code:Int}(h:Lk fm l (uK rs ws s) code)(hc:code ≠ 0):rs=[]/\0<=code/\code<=4:=by
 generalize hg:uK rs ws s=ig at h;have Cd:ig=oP->rs=[]:=fun e=>by
  rw[e]at hg;have:(uK rs ws s).mods=[]:=by rw[hg];rfl
  exact List.map_eq_nil_iff.1 this
 cases h with
 | form _=>exact⟨Cd rfl,by omega,by omega⟩
 | name _ _=>exact⟨Cd rfl,by omega,by omega⟩
 | missing _ _ _=>exact⟨Cd rfl,by omega,by omega⟩
 | main _ _ _ _=>exact⟨Cd rfl,by omega,by omega⟩
 | well _ _ _ _ _=>exact absurd rfl hc
theorem aPd{rs:List (Value × Rg)}{ws:List Wo}{s:Int}(h:Lk fm l (uK rs ws s) 0):(rs.map fun x=>x.2)=eD l l.length/\ws=aM l l.length/\jF l/\fV l l.length:=by
 generalize hg:uK rs ws s=ig at h;cases h with
 | well x h1 h2 h3 h4=>
  have e1:(uK rs ws s).mods=eD l l.length:=by rw[hg]
  have e2:(uK rs ws s).words=aM l l.length:=by rw[hg]
  exact⟨e1,e2,h1,h3⟩
theorem aFm {w:World}:∀{l:List (Value × Rg)} {lo hi:Nat},Cds w lo hi l->∀x ∈ l,∃a b,Pc w 5 1 a b x.1 x.2.code.length (bVL x.2.code)/\aKd x.2.code
 | [],_,_,_,x,hx=>by cases hx
 | y :: l,lo,hi,⟨m,_,_,h1,h2,h3⟩,x,hx=>by
  rcases zG3.1 hx with rfl|hx
  .
   exact⟨_,_,h1,h2⟩
  .
   exact aFm h3 x hx
theorem aO3{a b:Nat}{v:Value}{l:List Int}(h:Pc w 5 1 a b v l.length (bVL l))(hb:aKd l):∃ad c,v=.slice ad l.length c/\aV w ad l.length l:=by
 obtain⟨ad,c,rfl,_,_,_,ha⟩:=aH h.own;refine⟨ad,c,rfl,rfl,hb,fun hn=>?_⟩;obtain⟨g,rfl⟩:=ha hn;refine⟨g,0,rfl,fun i hi=>?_⟩;rw[zJ1];refine cM h.own i _ ?_;show(l.map (Value.int .u8))[i]?=_
 rw[zA2,zA0 hi];simp
theorem aDg{os:List Oj}{ao am:Option Addr}{co cm lo hi h2 nr:Nat}{wv:Value}{rs:List (Value × Rg)}{ws:List Wo}(hL:aX w ao co 5 (os.map Oj.fl))(im:Im w lo hi h2 (.slice am nr cm) wv rs ws)(hnr:nr=rs.length)(hm:(rs.map fun x=>x.2)=eD os os.length)(hf:jF os){j:Nat}(hj:j<nr):
  ∃(bm bo oo:Nat) (ac:Option Addr) (lc cc:Nat) (ad:Option Addr) (cd:Nat) (ai:Option Addr) (ci L H k:Nat) (dt:Int) (code:List Int),am=some ⟨bm,0,none⟩/\ao=some ⟨bo,oo,none⟩/\L=(aM os j).length/\H=(aM os (j+1)).length/\(H:Int)=L+k+dt/\0<=dt/\dt<=200/\k<=8/\L<=3000/\k=(kT os j).im.length/\lc=code.length/\aV w ac lc code/\aV w ad lc code ∧
   w.cell? ⟨bm,j*4,none⟩=some (.int .i64 L)/\w.cell? ⟨bm,j*4+1,none⟩=some (.int .i64 H)/\w.cell? ⟨bm,j*4+2,none⟩=some (.int .i64 k)/\w.cell? ⟨bm,j*4+3,none⟩=some (.slice ac lc cc) ∧
   w.cell? ⟨bo,oo+j*5+2,none⟩=some (.slice ai k ci)/\w.cell? ⟨bo,oo+j*5+3,none⟩=some (.int .i64 dt)/\w.cell? ⟨bo,oo+j*5+4,none⟩=some (.slice ad lc cd):=by
 have Af:rs.length=os.length:=by
  have:=congrArg List.length hm;rw[zB2,iL]at this;exact this
 have hjo:j<os.length:=A0;obtain⟨o,ho⟩:∃o,os[j]?=some o:=⟨_,zA0 hjo⟩
 have eo:=cH ho;have Xk:=cP (hf.2 o (zA3 ho));obtain⟨x,hx⟩:∃x,rs[j]?=some x:=⟨_,zA0 A0⟩
 have Mm:x.2=⟨((aM os j).length:Int),((aM os (j+1)).length:Int),((kT os j).im.length:Int),(kT os j).code⟩:=by
  have h1:(rs.map fun x=>x.2)[j]?=some x.2:=by rw[zA2,hx];rfl
  rw[hm,aD5 os os.length j hjo]at h1;exact(Option.some.inj h1).symm
 obtain⟨a1,b1,Ko,hib⟩:=aFm im.codes x (zA3 hx);obtain⟨ac,cc,e1,Cg⟩:=aO3 Ko hib;have hcode:x.2.code=o.code:=by rw[Mm,eo]
 rw[hcode]at e1 Cg;have An:=im.mrow.own;obtain⟨am',cm',e2,_,_,_,ha⟩:=aH An;obtain⟨bm,rfl⟩:=ha A0;rw[e2]at An;cases e2;have Ai:∀i v,i<4->(x.2.vals x.1)[i]?=some v->w.cell? ⟨bm,j*4+i,none⟩=some v:=fun i v hi hv=>cM An _ _ (by rw[aIi hi hx];exact hv);obtain⟨bo,oo,vs,rfl,hr,hc⟩:=hL.cellsAt (show(os.map Oj.fl)[j]?=some o.fl by rw[zA2,ho];rfl);obtain⟨v0,_,rfl,_,v1,_,rfl,_,v2,_,rfl,Xw,v3,_,rfl,h3,v4,_,rfl,⟨ad,cd,rfl,Iw,_⟩,rfl⟩:=hr;obtain⟨ai,ci,rfl,hLi⟩:=Xw.list;have hH:(aM os (j+1)).length=(aM os j).length+o.im.length+o.data.toNat:=by
  rw[aM,zA1,zA1];unfold dO jV;rw[zB2,List.length_replicate,eo];omega
 have hW:=jL os (fun o ho=>by have:=cP (hf.2 o ho);omega) j A0;have h8:=hf.1.2;have h3:v3=.int .i64 o.data:=h3;subst h3;refine⟨bm,bo,oo,ac,o.code.length,cc,ad,cd,ai,ci,(aM os j).length,(aM os (j+1)).length,o.im.length,o.data,o.code,rfl,rfl,rfl,rfl,by have:=Xk.2.2.1;omega,Xk.2.2.1,Xk.2.2.2.1,Xk.2.1,by omega,by rw[eo],rfl,Cg,Iw, ?_, ?_, ?_, ?_, ?_,hc 3 _ rfl,hc 4 _ rfl⟩
 .
  have:=Ai 0 (.int .i64 ((aM os j).length:Int)) A0 (by rw[Mm];rfl);exact this
 .
  exact Ai 1 (.int .i64 ((aM os (j+1)).length:Int)) A0 (by rw[Mm];rfl)
 .
  exact Ai 2 (.int .i64 (o.im.length:Int)) A0 (by rw[Mm,eo];rfl)
 .
  exact Ai 3 (.slice ac o.code.length cc) A0 (by rw[<-e1];rfl)
 .
  have:=hc 2 _ rfl;rw[zB2]at this;exact this
end
theorem aQ2 (a:Option Addr)(n c:Nat)(l:List Int)(w:World)(h:aV w a n l):
  (convert 22 9 (.slice a n c)).run Tryz.prog w=.ok (.string (strOfNums l)) w:=by
 have he:Tryz.prog.underlying 5=some (.int .u8):=by kernel_rfl
 have hd:Tryz.prog.underlying 9=some .string:=by kernel_rfl
 rcases zG0 n with h0|hp
 .
  subst h0;obtain rfl:l=[]:=zE0 h.1;cases a with
  | none=>exact run_convert_bytes_nil w 22 5 Tryz.underlying22 he 0 c 9 hd| some ad=>
   rw[run_convert_bytes_string w 22 9 5 _ 0 c Tryz.underlying22 he hd,run_bytesToString w ad 0 c [] (by simp[loadCells,loadCellsFrom])];rfl
 .
  obtain⟨b,off,rfl,hc⟩:=h.2.2 hp;refine run_convert_bytes_arg w 22 5 Tryz.underlying22 he b off n c l h.1 ?_ 9 hd;intro i hi;rw[hc i hi];simp[List.getD]
theorem rO {l1 l2:List Int}(h1:∀x ∈ l1,0<=x/\x<=255)(h2:∀x ∈ l2,0<=x/\x<=255)(h:l1.map (fun n=>UInt8.ofNat n.toNat)=l2.map (fun n=>UInt8.ofNat n.toNat)):l1=l2:=by
 induction l1 generalizing l2 with
 | nil=>cases l2 with
  | nil=>rfl| cons y s=>simp at h
 | cons x r ih=>
  cases l2 with
  | nil=>simp at h| cons y s=>
   simp only[zH2,zJ3]at h;have hx:=h1 x A9;have hy:=h2 y A9;have e:=congrArg UInt8.toNat h.1;simp only[UInt8.toNat_ofNat']at e;have:x=y:=by omega
   subst this;rw[ih (fun z hz=>h1 z (by simp[hz])) (fun z hz=>h2 z (by simp[hz])) h.2]
set_option maxRecDepth 100000 in
set_option maxHeartbeats 1000000 in
theorem aSp (a1:Option Addr)(n1 c1:Nat)(l1:List Int)(a2:Option Addr)(n2 c2:Nat)(l2:List Int)(w:World)(h1:aV w a1 n1 l1)(h2:aV w a2 n2 l2):
  Calls Tryz.prog 6 #[.slice a1 n1 c1,.slice a2 n2 c2] w fun e w'=>e=.returned (.bool (decide (l1=l2)))/\w'=w:=by
 have k1:=aQ2 a1 n1 c1 l1 w h1;have k2:=aQ2 a2 n2 c2 l2 w h2;go_enter Tryz.func6,Tryz.ntmps6;go_wp2;go_ret;refine⟨aF ?_,rfl⟩;rw[Bool.eq_iff_iff,decide_eq_true_iff,beq_iff_eq];constructor
 .
  intro h;refine rO h1.2.1 h2.2.1 ?_;rw[<-strOfNums_data,<-strOfNums_data];rw[ByteArray.toList_eq,ByteArray.toList_eq]at h;exact h
 .
  intro h;rw[h]
theorem QA82{p:Prop}(h:p:=by
 go_wp2
 go_roundw
 case rel=>exact⟨z+1,by omega,by omega,by go_num,HZ6.out⟩
 case measure=>simp[intOf];omega):p:=h
structure eq3 (j L H k:Nat) (dt:Int) (os:List Oj):Prop where
 eL:L=(aM os j).length
 eH:H=(aM os (j+1)).length
 hH:(H:Int)=L+k+dt
 h0:0<=dt
 h1:dt<=200
 hk:k<=8
 hL:L<=3000
 hk2:k=(kT os j).im.length
set_option maxHeartbeats 40000000 in
theorem aPe (a:Option Addr)(n c:Nat)(w:World)(HD:Calls Tryz.prog 4 #[.slice a n c] w fun e w'=>∃u,e=.returned u/\(∃τ,Eg.TH τ w'/\(∀b,b<w.heap.size->τ b=none)/\Eg.SVb τ (.rc 20) 0 12 u)/\Below w.heap.size w w'):Calls Tryz.prog 3 #[.slice a n c] w fun e w'=>e=.returned (.bool true)/\Below w.heap.size w w':=by
 go_enter Tryz.func3,Tryz.ntmps3;go_wp2_with fail;refine HD.mono ?_;rintro e w1 ⟨u,rfl,⟨τ,hT,Lm,hS⟩,hB⟩;obtain⟨os,hl,hR,Bg⟩:=Eg.rdOjs hT hS.1;obtain⟨ao,co,rfl,hL⟩:=hR.list;rw[zB2];have HLK:=aH7 os ao co w1 hL (fun o ho=>zF2 (Bg o ho) A0);obtain⟨no,Aj⟩:=zx (os.length);have HNO:Hid (os.length=no):=Aj.symm;rw[<-Aj]at HLK ⊢;have Ya:Hid (aX w1 ao co 5 (os.map Oj.fl)):=hL;have HB:Hid (Below w.heap.size w w1):=hB;clear HD hT Lm hS hl hR Bg hL hB Aj;go_wp2_with fail;refine HLK.mono ?_;rintro e w2 ⟨mv,wv,rs,ws,s,code,rfl,hk,im,hb⟩;obtain⟨am,cm,rfl,_⟩:=aH im.mrow.own;obtain⟨aw,cw,rfl,_⟩:=aH im.wrow.own;obtain⟨nr,hnr⟩:=zx (rs.length);obtain⟨nw,Tl⟩:=zx (ws.length);rw[<-hnr,<-Tl]at im ⊢;have HK:Hid (Lk mG os (uK rs ws s) code/\nr=rs.length/\nw=ws.length):=⟨hk,hnr,Tl⟩
 have y3:Below w2.heap.size w2 (w2.alloc (.cells #[.slice am nr cm,.slice aw nw cw,.int .i64 s] 28 (0,0))):=(zD2 _ _).alloc (zB0 _) _;have x3:=Blk.new w2 28 [.slice am nr cm,.slice aw nw cw,.int .i64 s];have HIM:Hid (Im _ w1.heap.size w2.heap.size w2.heap.size (.slice am nr cm) (.slice aw nw cw) rs ws):=im.below y3;have HL3:Hid (aX _ ao co 5 (os.map Oj.fl)):=(Ya.out.below hb).below y3;have Bv:Hid (Below w.heap.size w _):=(HB.out.trans (hb.mono HB.out.size)).trans (y3.mono (zF2 HB.out.size hb.size));simp only[List.toArray]at x3;clear HLK hk im hb hnr Tl Ya HB y3;go_upto_region 3 with fail;generalize w2.alloc (.cells #[.slice am nr cm,.slice aw nw cw,.int .i64 s] 28 (0,0))=w3 at *;generalize w2.heap.size=gi at *;have HX:Hid (Blk w3 gi 28 [.slice am nr cm,.slice aw nw cw,.int .i64 s]):=x3;obtain⟨c0,c1⟩:=x3.c2;clear x3;by_cases hc:code=0
 .
  subst hc;obtain⟨hm,hw,hf,hg⟩:=aPd HK.out.1;have HF:Hid ((rs.map fun x=>x.2)=eD os os.length/\ws=aM os os.length/\jF os/\fV os os.length):=⟨hm,hw,hf,hg⟩
  have HNR:Hid (nr=no/\nr<=8):=by
   have h1:=congrArg List.length hm;rw[zB2,iL]at h1;have h2:=HK.out.2.1;have h3:=HNO.out;have h4:=hf.1.2;show _/\_
   omega
  clear hm hw hf hg c1;go_wp2_with fail;clear c0;go_loopw [6,7] (fun nx i wr=>∃j:Nat,j<=nr/\i=.int .i64 j/\nx=.int .i64 (((aM os j).length:Nat):Int)/\Hid (Below w3.heap.size w3 wr)) (fun _ i _=>nr-(intOf i).toNat)
  case atStart=>exact⟨0,zD1 _,rfl,by rw[aM,List.length_replicate];rfl,zD2 _ _⟩
  case round=>
   obtain⟨j,hj,rfl,rfl,Hb⟩:=hrel;have c0:=aB (HX.out.k 0) Hb.out;have hj9:(j:Int)<=8:=by have:=HNR.out.2;omega
   by_cases Ad:j<nr
   .
    obtain⟨bm,bo,oo,ac,lc,cc,ad,cd,ai,ci,L,H,k,dt,code,e1,e2,eL,eH,hH,h0,h200,hk8,Zf,hk,Tm,hb1,hb2,r0,r1,r2,r3,q2,q3,q4⟩:=aDg HL3.out HIM.out HK.out.2.1 HF.out.1 HF.out.2.2.1 Ad;subst e1 e2;rw[<-eL];have r0:=aB r0 Hb.out;have r1:=aB r1 Hb.out;have r2:=aB r2 Hb.out;have r3:=aB r3 Hb.out;have q2:=aB q2 Hb.out;have q3:=aB q3 Hb.out;have q4:=aB q4 Hb.out;have Gw:(j:Int)<(nr:Int):=A0;have hjo:(j:Int)<(no:Int):=by have:=HNR.out.1;omega
    have x4:Blk (wr.alloc (.cells #[.int .i64 (L:Int),.int .i64 (H:Int),.int .i64 (k:Int),.slice ac lc cc] 32 (0,0))) wr.heap.size 32 [.int .i64 (L:Int),.int .i64 (H:Int),.int .i64 (k:Int),.slice ac lc cc]:=Blk.new wr 32 [.int .i64 (L:Int),.int .i64 (H:Int),.int .i64 (k:Int),.slice ac lc cc];have y4:Below wr.heap.size wr (wr.alloc (.cells #[.int .i64 (L:Int),.int .i64 (H:Int),.int .i64 (k:Int),.slice ac lc cc] 32 (0,0))):=(zD2 _ _).alloc (zB0 _) _;have HQ:Hid (eq3 j L H k dt os):=⟨eL,eH,hH,h0,h200,hk8,Zf,hk⟩
    have HCD:Hid (aV w3 ac lc code/\aV w3 ad lc code):=⟨hb1,hb2⟩
    have Hh:Hid (Below w3.heap.size w3 (wr.alloc (.cells #[.int .i64 (L:Int),.int .i64 (H:Int),.int .i64 (k:Int),.slice ac lc cc] 32 (0,0)))):=Hb.out.trans (y4.mono Hb.out.size);have q2:=aB q2 y4;have q3:=aB q3 y4;have q4:=aB q4 y4;have hE:((H:Int) != IntKind.i64.wrap (IntKind.i64.wrap ((L:Int)+(k:Int))+dt))=false:=by
     have e1:IntKind.i64.wrap ((L:Int)+(k:Int))=L+k:=by rw[IntKind.wrap_i64];omega
     have e2:IntKind.i64.wrap ((L:Int)+(k:Int)+dt)=L+k+dt:=by rw[IntKind.wrap_i64];omega
     rw[e1,e2,hH];simp
    clear eL eH hH h0 h200 hk8 Zf hk Tm hb1 hb2 y4 Hb;go_upto_region 10 with fail;clear r0 r1 r2 r3 c0;generalize wr.alloc (.cells #[.int .i64 (L:Int),.int .i64 (H:Int),.int .i64 (k:Int),.slice ac lc cc] 32 (0,0))=w4 at *;generalize wr.heap.size=gx at *;have Xy:Hid (Blk w4 gx 32 [.int .i64 (L:Int),.int .i64 (H:Int),.int .i64 (k:Int),.slice ac lc cc]):=x4;have Bq:w4.drew.cell? ⟨gx,0,none⟩=some (.int .i64 (L:Int))/\w4.drew.cell? ⟨gx,1,none⟩=some (.int .i64 (H:Int))/\w4.drew.cell? ⟨gx,2,none⟩=some (.int .i64 (k:Int))/\w4.drew.cell? ⟨gx,3,none⟩=some (.slice ac lc cc)/\w4.drew.cell? ⟨bo,oo+j*5+2,none⟩=some (.slice ai k ci)/\w4.drew.cell? ⟨bo,oo+j*5+3,none⟩=some (.int .i64 dt)/\w4.drew.cell? ⟨bo,oo+j*5+4,none⟩=some (.slice ad lc cd):=⟨x4.k 0,x4.k 1,x4.k 2,x4.k 3,q2,q3,q4⟩
    have KS:=aSp ac lc cc code ad lc cd code w4.drew (HCD.out.1.below Hh.out.drew) (HCD.out.2.below Hh.out.drew);rw[zB3 rfl]at KS;clear x4 q2 q3 q4;refine zK0 (S:=fun wl=>wl.cell? ⟨gx,0,none⟩=some (.int .i64 (L:Int))/\wl.cell? ⟨gx,1,none⟩=some (.int .i64 (H:Int))/\wl.cell? ⟨gx,2,none⟩=some (.int .i64 (k:Int))/\wl.cell? ⟨gx,3,none⟩=some (.slice ac lc cc)/\wl.cell? ⟨bo,oo+j*5+2,none⟩=some (.slice ai k ci)/\wl.cell? ⟨bo,oo+j*5+3,none⟩=some (.int .i64 dt)/\wl.cell? ⟨bo,oo+j*5+4,none⟩=some (.slice ad lc cd)) A1 Bq (fun Aa=>?_);refine ta 0 ?_;refine ta 1 ?_;refine ta 2 ?_;try simp only[nrm]
    refine M943 ?_;refine ta 13 ?_;try simp only[nrm]
    refine ta 14 ?_;refine ta 15 ?_;refine ta 16 ?_;try simp only[nrm]
    refine ta 17 ?_;refine ta 18 ?_;refine ta 19 ?_;try simp only[nrm]
    refine ta 20 ?_;try simp only[nrm]
    refine ta 21 ?_;refine ta 22 ?_;refine ta 23 ?_;try simp only[nrm]
    refine ta 24 ?_;refine ta 25 ?_;refine ta 26 ?_;try simp only[nrm]
    refine ta 27 ?_;refine ta 28 ?_;refine ta 29 ?_;try simp only[nrm]
    refine ta 30 ?_;refine ta 31 ?_;try simp only[nrm]
    refine ta 32 ?_;refine ta 33 ?_;refine ta 34 ?_;try simp only[nrm]
    refine ta 35 ?_;refine ta 36 ?_;refine ta 37 ?_;try simp only[nrm]
    refine ta 38 ?_;try simp only[nrm]
    refine ra 39 fun K hK=>?_;go_simp
    (with_reducible refine KS.mono ?_)
    rintro e wy ⟨rfl,ey⟩;subst ey;go_wp2_with fail;refine hK.out _ _ (Bq) (fun Aa=>?_);clear hK K;try simp only[nrm]
    refine ta 40 ?_;refine ta 41 ?_;try simp only[nrm]
    refine zK1 A1 ?_ _;have Mw:Hid (Below w3.heap.size w3 w4.drew):=Hh.out.drew;have HX5:Hid (Blk w4.drew gx 32 [.int .i64 (L:Int),.int .i64 (H:Int),.int .i64 (k:Int),.slice ac lc cc]):=Xy.out;generalize w4.drew=w5 at *;obtain⟨b0,b1⟩:=HX5.out.c2;clear Aa Bq KS Hh Xy HCD hE;have hLH:(L:Int)<=(H:Int):=by have:=HQ.out.hH;have:=HQ.out.h0;omega
    have hH9:(H:Int)<=5000:=by have:=HQ.out.hH;have:=HQ.out.h1;have:=HQ.out.hk;have:=HQ.out.hL;omega
    go_wp2_with fail;clear b0 b1;go_loopw [9] (fun kk wr=>∃z:Nat,L<=z/\z<=H/\kk=.int .i64 z/\Hid (Below w5.heap.size w5 wr)) (fun kk _=>H-(intOf kk).toNat)
    case atStart=>exact⟨L,zB0 _,by omega,rfl,zD2 _ _⟩
    case round=>
     obtain⟨z,Dc,hz,rfl,Hz⟩:=hrel;have b1:=aB (HX5.out.k 1) Hz.out;by_cases Qy:z<H
     .
      obtain⟨x,hx,htag,hseal⟩:=aKw (l:=os) (n:=os.length) (j:=j) (k:=z) HF.out.2.2.2 (by have:=HNR.out.1;have:=HNO.out;omega) (by rw[<-HQ.out.eL];exact Dc) (by rw[<-HQ.out.eH];exact Qy);rw[<-HF.out.2.1]at hx;have hzw:z<ws.length:=(zC1.1 hx).1;have An:=HIM.out.wrow.own;rw[<-HK.out.2.2]at An;obtain⟨aw',cw',e2,_,_,_,ha⟩:=aH An;obtain⟨bw,rfl⟩:=ha (by have:=HK.out.2.2;omega);cases e2;have Ai:∀i v,i<7->x.vals[i]?=some v->wr.cell? ⟨bw,z*7+i,none⟩=some v:=fun i v hi hv=>aB (aB (cM An _ _ (by rw[sN hi hx];exact hv)) Mw.out) Hz.out;have t0:=Ai 0 (.bool x.t) A0 rfl;have t1:=Ai 1 (.int .i64 x.n) A0 rfl;have t2:=Ai 2 (.int .i64 x.l) A0 rfl;have t3:=Ai 3 (.int .i64 x.h) A0 rfl;have t4:=Ai 4 (.int .i64 x.a) A0 rfl;have t5:=Ai 5 (.int .i64 x.p) A0 rfl;have t6:=Ai 6 (.int .i64 x.s) A0 rfl;rw[zG1]at t0;have c1:=aB (aB (HX.out.cell (i:=1) (v:=.slice (some ⟨bw,0,none⟩) nw cw) rfl) Mw.out) Hz.out;have b0:=aB (HX5.out.k 0) Hz.out;have b2:=aB (HX5.out.k 2) Hz.out;have hz':(z:Int)<(nw:Int):=by have:=HK.out.2.2;omega
      have hzH:(z:Int)<(H:Int):=A0;have x6:Blk (wr.alloc (.cells #[.bool x.t,.int .i64 x.n,.int .i64 x.l,.int .i64 x.h,.int .i64 x.a,.int .i64 x.p,.int .i64 x.s] 39 (0,0))) wr.heap.size 39 [.bool x.t,.int .i64 x.n,.int .i64 x.l,.int .i64 x.h,.int .i64 x.a,.int .i64 x.p,.int .i64 x.s]:=Blk.new wr 39 [.bool x.t,.int .i64 x.n,.int .i64 x.l,.int .i64 x.h,.int .i64 x.a,.int .i64 x.p,.int .i64 x.s];have y6:Below wr.heap.size wr (wr.alloc (.cells #[.bool x.t,.int .i64 x.n,.int .i64 x.l,.int .i64 x.h,.int .i64 x.a,.int .i64 x.p,.int .i64 x.s] 39 (0,0))):=(zD2 _ _).alloc (zB0 _) _;have HZ6:Hid (Below w5.heap.size w5 (wr.alloc (.cells #[.bool x.t,.int .i64 x.n,.int .i64 x.l,.int .i64 x.h,.int .i64 x.a,.int .i64 x.p,.int .i64 x.s] 39 (0,0)))):=Hz.out.trans (y6.mono Hz.out.size);have HTG:Hid (x.t=decide (z<L+k)/\(x.t=true->1<=x.s/\x.s<=j)):=by
       refine⟨?_,hseal⟩;have Cj:k=(kT os j).im.length:=HQ.out.hk2;rw[htag,<-HQ.out.eL,<-Cj]
      have b0:=aB b0 y6;have b2:=aB b2 y6;clear hx htag hseal hzw An ha Ai y6 Hz;go_upto_region 17 with fail;clear t0 t1 t2 t3 t4 t5 t6 c1 b1;generalize wr.alloc (.cells #[.bool x.t,.int .i64 x.n,.int .i64 x.l,.int .i64 x.h,.int .i64 x.a,.int .i64 x.p,.int .i64 x.s] 39 (0,0))=w6 at *;generalize wr.heap.size=gy at *;have s0:=x6.cell (i:=0) (v:=.bool x.t) rfl;have s6:=x6.cell (i:=6) (v:=.int .i64 x.s) rfl;clear x6;have hw9:IntKind.i64.wrap ((L:Int)+(k:Int))=L+k:=by rw[IntKind.wrap_i64];have:=HQ.out.hk;have:=HQ.out.hL;omega
      by_cases Jv:z<L+k
      .
       have htt:x.t=true:=HTG.out.1.trans (zB3 Jv);obtain⟨Jw,Df⟩:=HTG.out.2 htt;rw[htt]at s0;have Fh:(z:Int)<(L:Int)+(k:Int):=A0;have Jk:¬x.s<1:=A0;have Dl:¬(j:Int)<x.s:=A0;exact QA82
      .
       have htt:x.t=false:=HTG.out.1.trans (zC2 Jv);rw[htt]at s0;have Fh:¬(z:Int)<(L:Int)+(k:Int):=A0;exact QA82
     .
      have:H=z:=A0;subst this;go_wp2;go_roundw
      case rel=>exact⟨j+1,by omega,by go_num,by rw[<-HQ.out.eH],Mw.out.trans (Hz.out.mono Mw.out.size)⟩
      case measure=>simp[intOf];omega
   .
    have:nr=j:=A0;subst this;have hjo:nr=os.length:=by have:=HNR.out.1;have:=HNO.out;omega
    have Tl:nw=(aM os nr).length:=by rw[HK.out.2.2,HF.out.2.1,<-hjo]
    rw[<-Tl];have c1:=aB (HX.out.cell (i:=1) (v:=.slice aw nw cw) rfl) Hb.out;obtain⟨m1,m2⟩:=aBw HF.out.2.2.1 HF.out.2.2.2;rw[<-HF.out.2.1]at m1 m2;have hWR:aC0 wr aw nw (ws.map aCw):=by
     refine⟨by rw[zB2];exact HK.out.2.2.symm,fun hp=>?_⟩;have An:=HIM.out.wrow.own;rw[<-HK.out.2.2]at An;obtain⟨aw',cw',e2,_,_,_,ha⟩:=aH An;obtain⟨bw,rfl⟩:=ha (by have:=HK.out.2.2;omega);cases e2;refine⟨bw,0,rfl,fun i v hv=>?_⟩;rw[aEy]at hv;rw[zJ1];exact aB (cM An _ _ hv) Hb.out
    have Af:nw<=1048576:=by
     have h9:=jL os (fun o ho=>by have:=cP (HF.out.2.2.1.2 o ho);omega) nr A0;have:=HNR.out.2;omega
    have KM:=aH6 aw nw cw (ws.map aCw) wr hWR m2 Af;rw[m1]at KM;have HBE:Hid (Below w.heap.size w wr):=Bv.out.trans (Hb.out.mono Bv.out.size);clear hWR m1 m2 Hb Af Tl hjo;go_wp2_with fail;refine KM.mono ?_;rintro e wz ⟨rfl,Eh⟩;clear KM c0 c1;go_wp2;go_ret;exact⟨rfl,HBE.out.trans (Eh.mono HBE.out.size)⟩
 .
  obtain⟨hr,h0,h4⟩:=aS4 HK.out.1 hc;have Gv:nr=0:=by have:=HK.out.2.1;rw[hr]at this;exact this
  subst Gv;have Dg:(code == 0)=false:=by simpa using hc
  clear hr HL3 HK c1 hc;go_wp2;go_ret;exact⟨rfl,Bv.out⟩
end Go.Proofs.YtcbhdhmhidpdgaaGreat

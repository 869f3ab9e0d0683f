import Derived.Test.YtffphdacgblaoaaGreatDoorPackAB
import Derived.Great.BuildSlice
namespace Go.Proofs.YtffphdacgblaoaaGreatDoor
open Go.RowKit
set_option linter.unusedVariables false
set_option linter.unusedSimpArgs false
set_option maxRecDepth 100000
theorem U30{p:Prop}(h:p:=by
 split at hz
 .
  rename_i hc
  simp only[zE3]at hc
  cases hz
  show Value.bool _=Value.bool true
  simp only[tG,Value.bool.injEq,zE3]
  omega
 .
  split at hz
  .
   rename_i hc
   simp only[zE3]at hc
   cases hz
   show Value.bool _=Value.bool false
   simp only[tG,Value.bool.injEq,zH0]
   omega
  .
   cases hz;exact iK V _):p:=h
theorem U38{p:Prop}(h:p:=by
 cases hz
 show Value.bool _=Value.bool false
 simp only[tG,Value.bool.injEq,zH0]
 omega):p:=h
theorem U39{p:Prop}(h:p:=by
 refine⟨_,rfl,fun hb c hc'=>?_,fun hb c hc'=>?_⟩
 .
  rw[List.mem_singleton.1 hc']
  simp only[tG,zE3]at hb
  simp only[Ct.ok,if_true]
  omega
 .
  rw[List.mem_singleton.1 hc']
  simp only[tG,zH0]at hb
  simp only[Ct.ok,Bool.false_eq_true,if_false]
  omega):p:=h
theorem U41{p:Prop}(h:p:=by
 cases hz
 show Value.bool _=Value.bool true
 simp only[tG,Value.bool.injEq,zE3]
 omega):p:=h
namespace Eg
section
variable {C:Cx} {U:Value->Prop} {G:Cfg} {A:AS} {S B X:Nat->Prop} {τ:Sm} {V:Vl} {a:Act} {w:World} {d:Option Nat} {ty:TypeId} {pos:String} {aft:Array Edge} {gd:Option (Nat × Bool)}
theorem aGb (h:Kn C U A S B X τ V w){y:CV}{v:Value}(hy:xN y=true)(hv:y.ok V v)(hs:∀s ∈ y.sy,S s)(hd:∀s,y=.sl s->∃a n c,V.ρ s=.slice a n c):v.cells=#[v]/\v.oneCell'=true:=by
 cases y with
 | top=>cases hy
 | und=>cases hy
 | int a b=>obtain⟨x,rfl,_⟩:=hv;exact⟨rfl,rfl⟩
 | len s k=>rw[show v=_ from hv];exact⟨rfl,rfl⟩
 | idx s k=>obtain⟨x,rfl,_⟩:=hv;exact⟨rfl,rfl⟩
 | byte=>obtain⟨x,rfl,_⟩:=hv;exact⟨rfl,rfl⟩
 | tv b=>rw[show v=_ from hv];exact⟨rfl,rfl⟩
 | bl t f=>obtain⟨x,rfl,_⟩:=hv;exact⟨rfl,rfl⟩
 | str=>obtain⟨x,rfl,_⟩:=hv;exact⟨rfl,rfl⟩
 | sl s=>
  obtain⟨b,n,c,e⟩:=hd s rfl
  rw[show v=_ from hv,e]
  exact⟨rfl,rfl⟩
 | nil=>rw[show v=_ from hv];exact⟨rfl,rfl⟩
 | ptr b o=>rw[show v=_ from hv];exact⟨rfl,rfl⟩
 | elp s k ix o=>obtain⟨b,j,n,c,i,_,_,rfl,_⟩:=hv;exact⟨rfl,rfl⟩
def aG4 (V:Vl)(S:Nat->Prop):Prop:=∀s,S s->∃b n c,V.ρ s=.slice b n c
theorem rY (h:Kn C U A S B X τ V w)(hS:aG4 V S){ps:List (Nat × Nat)}:∀{l:List (Nat × Operand)} {z r:List CV} {vs:List Value},iD V z vs->aAz A ps l z=some r->(∀p ∈ l,Opd A S B X τ V a p.2)->∃us:List Value,Instr.fill (ps.toArray[·]?) vs.toArray (l.map fun (i,x)=>(i,a.eval x))=some us.toArray/\iD V r us
 | [],z,r,vs,hz,hb,_=>by cases hb;exact⟨vs,rfl,hz⟩
 | (f,x) :: l,z,r,vs,hz,hb,ho=>by
  simp only[aAz]at hb
  split at hb
  .
   rename_i o n y hp he
   split at hb
   .
    rename_i hc
    simp only[zC0,beq_iff_eq,zE3]at hc;obtain⟨⟨rfl,h1⟩,h2⟩:=hc;obtain⟨q1,q2,q3,q4⟩:=ho (f,x) Q9;rw[he]at q1 q2 q3 q4
    have hone:=(aGb h h1 q1 q2 (fun s e=>hS s (q2 s (by simp[AV.sy,e,CV.sy])))).1
    rw[aEe]at hb;have hz2:=iD.set hz o q1
    obtain⟨us,e1,e2⟩:=rY h hS hz2 hb (fun p hp=>ho p (by simp[hp]))
    refine⟨us, ?_,e2⟩;rw[eK]at hp;have hl:=hz.length;simp only[zH2,Instr.fill]
    have hp2:(ps.toArray[f]?:Option (Nat × Nat))=some (o,1):=by simpa using hp
    rw[hp2];simp only[hone];rw[if_neg Q29];rw[<-e1]
    congr 1
    simp
   .
    cases hb
  .
   cases hb
theorem aH7 (h:Kn C U A S B X τ V w)(hS:aG4 V S){T:Nat}{ps:Array (Nat × Operand)}(hx:∀p ∈ ps.toList,Opd A S B X τ V a p.2){u:Out}(hu:cK G A ⟨d,.build T ps,ty,pos,aft,gd⟩=some u):dW C U A ⟨d,.build T ps,ty,pos,aft,gd⟩ u S B X τ V a w:=by
 simp only[cK]at hu
 split at hu
 .
  rename_i z ds hz
  simp only[zF0]at hu;obtain⟨l,hl,rfl⟩:=hu;obtain⟨fs,b,cs,hu1,_,_,hi,hcs,habs,_,hpl⟩:=aJu wM hz
  have hz0:iD V z cs.toList:=by rw[<-habs];exact tQ V _
  obtain⟨us,h1,h2⟩:=rY h hS hz0 hl hx;obtain⟨i0,e1,e2,e3,e4⟩:=info_parts hi
  have hb:Tryz.prog.built T (ps.map fun (i,x)=>(i,a.eval x)).toList=some us.toArray:=by
   unfold Program.built;rw[e1,hu1];simp only[e2,hpl];rw[<-h1]
   simp[Value.cells]
  exact dW.val (v:=.agg us.toArray) (by simp only[execOp,Sem.run_bind,run_build w T _ _ hb,Result.andThen_ok];rfl) (Res.pure h ⟨us,rfl,h2⟩)
 .
  cases hu
theorem pG {n:Int}(h:mn<=n)(h':n<=mx):IntKind.i64.wrap n=n:=by
 unfold mn mx at *;rw[IntKind.wrap_i64]
 omega
theorem aDo (n:Int):mn<=IntKind.i64.wrap n/\IntKind.i64.wrap n<=mx:=by
 unfold mn mx;rw[IntKind.wrap_i64]
 omega
def tG (op:BinOp)(m n:Int):Bool:=match op with
 | .eql=>m == n
 | .neq=>m != n
 | .lss=>decide (m<n)
 | .leq=>decide (m<=n)
 | .gtr=>decide (m > n)
 | .geq=>decide (m ≥ n)
 | _=>false
theorem iK (V:Vl)(b:Bool):(CV.bl [] []).ok V (.bool b):=⟨b,rfl,(fun _ c hc=>by cases hc),(fun _ c hc=>by cases hc)⟩
theorem aPg (h:Kn C U A S B X τ V w){op:BinOp}{x y z:CV}{p q:Value}(hx:x.ok V p)(hy:y.ok V q)(sx:∀s ∈ x.sy,S s)(sy:∀s ∈ y.sy,S s)(hz:aRu A op x y=some z):∃m n,p=.int .i64 m/\q=.int .i64 n/\z.ok V (.bool (tG op m n)):=by
 unfold aRu at hz
 split at hz
 .
  rename_i a b c d hr1 hr2
  obtain⟨m,rfl,h1,h2⟩:=kD h hx sx hr1;obtain⟨n,rfl,h3,h4⟩:=kD h hy sy hr2;refine⟨m,n,rfl,rfl, ?_⟩
  cases op <;> simp only[zG2]at hz <;> try(cases hz;done)
  .
   split at hz
   .
    rename_i hc
    simp only[zC0,zE3]at hc;cases hz
    show Value.bool _=Value.bool true
    simp only[tG,Value.bool.injEq,beq_iff_eq]
    omega
   .
    split at hz
    .
     rename_i hc
     simp only[Bool.or_eq_true,zE3]at hc;cases hz
     show Value.bool _=Value.bool false
     simp only[tG,Value.bool.injEq,beq_eq_false_iff_ne]
     omega
    .
     split at hz
     .
      rename_i s
      cases hz
      have e1:m=(ln (V.ρ s):Int):=by
       have:Value.int .i64 m=.int .i64 ((ln (V.ρ s):Int)-(0:Nat)):=hx
       simpa using this
      obtain⟨n',e2,h5,h6⟩:=hy;simp only[Value.int.injEq,true_and]at e2;subst e2
      refine⟨_,rfl,fun hb c hc=>?_,fun hb c hc=>?_⟩
      .
       rw[List.mem_singleton.1 hc];simp only[tG,beq_iff_eq]at hb;simp only[Ct.ok,Bool.false_eq_true,if_false]
       omega
      .
       rw[List.mem_singleton.1 hc];simp only[tG,beq_eq_false_iff_ne]at hb;simp only[Ct.ok,if_true]
       omega
     .
      cases hz;exact iK V _
  .
   cases hz;exact iK V _
  .
   split at hz
   .
    rename_i hc
    simp only[zE3]at hc;exact U41
   .
    split at hz
    .
     rename_i hc
     simp only[zE3]at hc;exact U38
    .
     split at hz
     .
      rename_i i j s k
      split at hz
      .
       rename_i hc
       simp only[zC0,zE3]at hc;cases hz;obtain⟨m',e1,h5,h6⟩:=hx;simp only[Value.int.injEq,true_and]at e1;subst e1
       have e2:n=(ln (V.ρ s):Int)-k:=by
        have:Value.int .i64 n=.int .i64 ((ln (V.ρ s):Int)-k):=hy
        simpa using this
       exact U39
      .
       cases hz;exact iK V _
     .
      rename_i i j s k
      split at hz
      .
       rename_i hc
       simp only[zC0,zE3]at hc;cases hz;obtain⟨m',e1,h5,h6⟩:=hx;simp only[Value.int.injEq,true_and]at e1;subst e1;obtain⟨n',e2,h7⟩:=hy;simp only[Value.int.injEq,true_and]at e2;subst e2
       refine⟨_,rfl,fun hb c hc'=>?_,fun hb c hc'=>by cases hc'⟩
       rw[List.mem_singleton.1 hc'];simp only[tG,zE3]at hb;simp only[Ct.ok,if_true]
       omega
      .
       cases hz;exact iK V _
     .
      cases hz;exact iK V _
  .
   exact U30
  .
   split at hz
   .
    rename_i hc
    simp only[zE3]at hc;exact U41
   .
    split at hz
    .
     rename_i hc
     simp only[zE3]at hc;exact U38
    .
     split at hz
     .
      rename_i s k i j
      split at hz
      .
       rename_i hc
       simp only[zC0,zE3]at hc;cases hz;obtain⟨n',e1,h5,h6⟩:=hy;simp only[Value.int.injEq,true_and]at e1;subst e1
       have e2:m=(ln (V.ρ s):Int)-k:=by
        have:Value.int .i64 m=.int .i64 ((ln (V.ρ s):Int)-k):=hx
        simpa using this
       exact U39
      .
       cases hz;exact iK V _
     .
      cases hz;exact iK V _
  .
   exact U30
 .
  cases hz
def arV (op:BinOp)(m n:Int):Int:=match op with
 | .add=>m+n
 | .sub=>m-n
 | _=>m*n
def aS2:BinOp->Bool
 | .add=>true
 | .sub=>true
 | .mul=>true
 | _=>false
theorem aJf (h:Kn C U A S B X τ V w){op:BinOp}{x y z:CV}{p q:Value}(hx:x.ok V p)(hy:y.ok V q)(sx:∀s ∈ x.sy,S s)(sy:∀s ∈ y.sy,S s)(hz:aMu A op x y=some z):∃m n,p=.int .i64 m/\q=.int .i64 n/\aS2 op=true/\z.ok V (.int .i64 (IntKind.i64.wrap (arV op m n))):=by
 unfold aMu at hz
 split at hz
 .
  rename_i s k i j
  cases hf:at? A.sy s with
  | none=>rw[hf]at hz;simp at hz
  | some f=>
   rw[hf]at hz
   dsimp only at hz
   split at hz
   .
    rename_i hc
    simp only[zC0,zE3]at hc;obtain⟨⟨⟨h1,h2⟩,h3⟩,h4,Be⟩:=hc;cases hz;obtain⟨_,a2,a3,_⟩:=h.sy s f hf (sx s Q50);obtain⟨n,rfl,h5,h6⟩:=hy;refine⟨_,n,hx,rfl,rfl, ?_⟩
    show Value.int .i64 _=.int .i64 _
    have hn:n=i:=Q0;subst hn
    rw[show arV .sub ((ln (V.ρ s):Int)-k) n=(ln (V.ρ s):Int)-k-n from rfl,pG (by unfold mn;omega) (by unfold mx;omega)]
    congr 1
    omega
   .
    cases hz
 .
  rename_i i j s k
  cases hf:at? A.sy s with
  | none=>rw[hf]at hz;simp at hz
  | some f=>
   rw[hf]at hz
   dsimp only at hz
   split at hz
   .
    rename_i hc
    simp only[zC0,zE3]at hc;obtain⟨⟨⟨h1,h2⟩,h3⟩,h4⟩:=hc;cases hz;obtain⟨_,a2,a3,_⟩:=h.sy s f hf (sy s Q50);obtain⟨m,rfl,h5,h6⟩:=hx;obtain⟨n,rfl,h7⟩:=hy;refine⟨m,n,rfl,rfl,rfl, ?_⟩;have hm:m=i:=Q0;subst hm
    rw[show arV .add m (n:Int)=m+n from rfl,pG (by unfold mn;omega) (by unfold mx;omega)]
    exact⟨m.toNat+n,by congr 1;omega,by omega⟩
   .
    cases hz
 .
  split at hz
  .
   rename_i a b c d hr1 hr2
   obtain⟨m,rfl,h1,h2⟩:=kD h hx sx hr1;obtain⟨n,rfl,h3,h4⟩:=kD h hy sy hr2
   have any:∀k:Int,(CV.int mn mx).ok V (.int .i64 (IntKind.i64.wrap k)):=fun k=>⟨_,rfl,(aDo k).1,(aDo k).2⟩
   refine⟨m,n,rfl,rfl, ?_⟩
   cases op <;> simp only[]at hz <;> try(cases hz;done)
   .
    refine⟨rfl, ?_⟩
    split at hz
    .
     rename_i hc
     simp only[zC0,zE3]at hc;cases hz
     rw[show arV .add m n=m+n from rfl,pG Q0 Q0]
     exact⟨_,rfl,by omega,by omega⟩
    .
     cases hz;exact any _
   .
    refine⟨rfl, ?_⟩
    split at hz
    .
     rename_i hc
     simp only[zC0,zE3]at hc;cases hz
     rw[show arV .sub m n=m-n from rfl,pG Q0 Q0]
     exact⟨_,rfl,by omega,by omega⟩
    .
     cases hz;exact any _
   .
    refine⟨rfl, ?_⟩
    split at hz
    .
     rename_i hc
     simp only[zC0,zE3]at hc;cases hz;have h5:0<=m*n:=Int.mul_nonneg Q0 Q0;have h6:m*n<=b*d:=Int.mul_le_mul h2 h4 Q0 Q0
     rw[show arV .mul m n=m*n from rfl,pG (by unfold mn;omega) Q0]
     exact⟨_,rfl,h5,h6⟩
    .
     cases hz;exact any _
  .
   cases hz
theorem aH8 (h:Kn C U A S B X τ V w){op:BinOp}{x y:Operand}{T T':Nat}(hx:Opd A S B X τ V a x)(hy:Opd A S B X τ V a y){u:Out}(hu:cK G A ⟨d,.binOp op T x y T',ty,pos,aft,gd⟩=some u):dW C U A ⟨d,.binOp op T x y T',ty,pos,aft,gd⟩ u S B X τ V a w:=by
 simp only[cK]at hu
 split at hu
 .
  split at hu
  .
   rename_i p q e1 e2
   obtain⟨h1,h2,_⟩:=hx;obtain⟨h3,h4,_⟩:=hy;rw[e1]at h1 h2;rw[e2]at h3 h4;simp only[zF0]at hu;obtain⟨z,hz,rfl⟩:=hu
   split at hz
   .
    rename_i hc
    obtain⟨m,n,e3,e4,hok⟩:=aPg h h1 h3 h2 h4 hz
    exact dW.val (v:=.bool (tG op m n)) (by simp only[execOp,e3,e4];cases op <;> first|rfl|(cases hc)) (Res.pure h hok)
   .
    obtain⟨m,n,e3,e4,har,hok⟩:=aJf h h1 h3 h2 h4 hz
    exact dW.val (v:=.int .i64 (IntKind.i64.wrap (arV op m n))) (by simp only[execOp,e3,e4];cases op <;> first|rfl|(cases har)) (Res.pure h hok)
  .
   cases hu
 .
  cases hu
end
end Eg
namespace Eg
section
variable {C:Cx} {U:Value->Prop} {G:Cfg} {A:AS} {S B X:Nat->Prop} {τ:Sm} {V:Vl} {a:Act} {w:World} {d:Option Nat} {ty:TypeId} {pos:String} {aft:Array Edge} {gd:Option (Nat × Bool)}
theorem aIj (k:Rs)(w:World):(sizeOf k.ty).run Tryz.prog w=.ok k.k w:=by
 obtain⟨z,b,h,_⟩:=aIk k;exact lC h w
theorem aD8 {T:Nat}{k:Rs}{b o n c:Nat}{i:Int}(hT:Tryz.prog.underlying T=some (.slice k.ty))(h0:0<=i)(h1:i<n)(w:World):(Instr.indexAt T (.slice (some ⟨b,o,none⟩) n c) (.int .i64 i)).run Tryz.prog w=.ok (.pointer (some ⟨b,o+i.toNat*k.k,none⟩)) w:=by
 simp only[Instr.indexAt,asIntOf,Sem.run_bind,Sem.run_pure,Result.andThen_ok,run_underlying hT,aIj,Addr.add_lit];rw[if_pos ⟨h0,h1⟩];simp only[Sem.run_bind,aIj,Result.andThen_ok,Sem.run_pure]
theorem aPw {T:Nat}{k:Rs}(h:aJy T k=true):Tryz.prog.underlying T=some (.slice k.ty):=by
 unfold aJy at h
 split at h
 .
  rename_i e he
  simp only[beq_iff_eq]at h;rw[<-h];exact oT he
 .
  cases h
theorem aQd (h:Kn C U A S B X τ V w){s:Nat}{f:SF}(hf:at? A.sy s=some f)(hs:S s)(hl:0<ln (V.ρ s)):∃b j c,V.ρ s=.slice (some ⟨b,j*f.k.k,none⟩) (ln (V.ρ s)) c:=by
 have h1:=(h.sy s f hf hs).1
 rcases h1 with⟨e,h0⟩|⟨b,j,c,so,e,_⟩
 .
  omega
 .
  exact⟨b,j,c,e⟩
theorem uX (h:Kn C U A S B X τ V w){x y:Operand}{T:Nat}(hx:Opd A S B X τ V a x)(hy:Opd A S B X τ V a y){u:Out}(hu:cK G A ⟨d,.indexAddr T x y,ty,pos,aft,gd⟩=some u)(hn:u.nx=true->¬X A.ni):dW C U A ⟨d,.indexAddr T x y,ty,pos,aft,gd⟩ u S B X τ V a w:=by
 simp only[cK]at hu
 split at hu
 .
  rename_i s j e1 e2
  obtain⟨h1,h2,_⟩:=hx;obtain⟨h3,h4,_⟩:=hy;rw[e1]at h1 h2;rw[e2]at h3 h4
  have hS:S s:=h2 s Q33
  split at hu
  .
   rename_i f hf
   have hsf:=h.sy s f hf hS
   split at hu
   .
    rename_i hc
    simp only[zC0]at hc;obtain⟨hc1,hc2⟩:=hc;have hT:=aPw hc1
    have hv:a.eval x=V.ρ s:=h1
    have hix:∃i:Nat,a.eval y=.int .i64 i/\i<ln (V.ρ s)/\∀lo hi,j=.int lo hi->lo=hi->i=lo.toNat:=by
     cases j with
     | int lo hi=>
      simp only[aM7,zC0,zE3]at hc2;obtain⟨n,e,h5,h6⟩:=h3
      obtain⟨i,rfl⟩:=Int.eq_ofNat_of_zero_le (show 0<=n by omega)
      exact⟨i,e,by have:=hsf.2.1;omega,fun lo' hi' e9 e10=>by cases e9;omega⟩
     | idx s' k=>
      simp only[aM7,beq_iff_eq]at hc2;subst hc2;obtain⟨i,e,h5⟩:=h3
      exact⟨i,e,by omega,fun lo' hi' e9=>by cases e9⟩
     | len s' k=>
      cases k with
      | succ k=>simp[aM7]at hc2
      | zero=>
       have ha:f.abv=some s':=by
        simp only[aM7]at hc2
        cases hab:f.abv with
        | none=>rw[hab]at hc2;simp[oEq]at hc2
        | some q=>rw[hab]at hc2;simp only[oEq,beq_iff_eq]at hc2;rw[hc2]
       have h9:=hsf.2.2.2.2.2.2 s' ha
       exact⟨ln (V.ρ s'),by rw[show a.eval y=_ from h3];simp,h9,fun lo' hi' e9=>by cases e9⟩
     | _=>simp[aM7]at hc2
    obtain⟨i,e3,hi,hco⟩:=hix;obtain⟨b,q,c,e4⟩:=aQd h hf hS Q0
    have hrun:(execOp a.eval ⟨d,.indexAddr T x y,ty,pos,aft,gd⟩).run Tryz.prog w=.ok (.value (.pointer (some ⟨b,(q+i)*f.k.k+0,none⟩))) w:=by
     have:=aD8 (k:=f.k) (b:=b) (o:=q*f.k.k) (n:=ln (V.ρ s)) (c:=c) (i:=(i:Int)) hT Q0 Q0 w
     simp only[execOp,hv,e3,Sem.run_bind];rw[e4];rw[this];simp only[Result.andThen_ok,Int.toNat_natCast,Nat.add_mul,zG1]
     rfl
    have fin:∀(ix:Ix) (V':Vl),(∀s',S s'->V'.ρ s'=V.ρ s')->ix.ok V' i->(CV.elp s f.k ix 0).ok V' (.pointer (some ⟨b,(q+i)*f.k.k+0,none⟩)):=fun ix V' hρ hi'=>⟨b,q,_,c,i,(hρ s hS).trans e4,hi,rfl,hi'⟩
    have new:dW C U A ⟨d,.indexAddr T x y,ty,pos,aft,gd⟩ { r:=.c (.elp s f.k (.v A.ni) 0),nx:=true } S B X τ V a w\/X A.ni:=by
     by_cases hXn:X A.ni
     .
      exact .inr hXn
     .
      left
      refine dW.val hrun (Res.same (V':={ V with ι:=fun c=>if c=A.ni then i else V.ι c }) h rfl rfl (fun _ _=>rfl) (fun _ _=>rfl) (fun c hc=>?_) (fun q f hq=> Q79) (fin _ _ (fun _ _=>rfl) ?_) (fun c hc=>by cases hc))
      .
       show(if c=A.ni then i else V.ι c)=V.ι c
       rw[if_neg (by rintro rfl;exact hXn hc)]
      .
       show i=if A.ni=A.ni then i else _
       rw[if_pos rfl]
    split at hu
    .
     rename_i lo hi
     split at hu
     .
      rename_i heq
      simp only[zE3]at heq;cases hu
      exact dW.val hrun (Res.pure h (fin _ V (fun _ _=>rfl) (hco lo hi rfl heq)))
     .
      cases hu;exact new.resolve_right (hn rfl)
    .
     cases hu;exact new.resolve_right (hn rfl)
   .
    cases hu
  .
   cases hu
 .
  cases hu
theorem aLn (h:Kn C U A S B X τ V w){c x y:Operand}(hc:Opd A S B X τ V a c)(hx:a.eval c=.bool true->Opd A S B X τ V a x)(hy:a.eval c=.bool false->Opd A S B X τ V a y){u:Out}(hu:cK G A ⟨d,.pick c x y,ty,pos,aft,gd⟩=some u):dW C U A ⟨d,.pick c x y,ty,pos,aft,gd⟩ u S B X τ V a w:=by
 simp only[cK]at hu
 split at hu
 .
  rename_i pc px py e1 e2 e3
  simp only[zF0]at hu;obtain⟨z,hz,rfl⟩:=hu;have h1:=hc.1;rw[e1]at h1
  have run:∀b:Bool,a.eval c=.bool b->(execOp a.eval ⟨d,.pick c x y,ty,pos,aft,gd⟩).run Tryz.prog w=.ok (.value (if b then a.eval x else a.eval y)) w:=fun b e=>by
   simp only[execOp,e]
   cases b <;> rfl
  unfold aOe at hz
  split at hz
  .
   cases hz
   have h2:a.eval c=.bool true:=h1
   have h3:=(hx h2).1;rw[e2]at h3;exact dW.val (run true h2) (Res.pure h h3)
  .
   cases hz
   have h2:a.eval c=.bool false:=h1
   have h3:=(hy h2).1;rw[e3]at h3;exact dW.val (run false h2) (Res.pure h h3)
  .
   rename_i t f
   obtain⟨b,h2,ht,hf⟩:=h1
   split at hz
   .
    rename_i hb
    simp only[zC0]at hb
    have hval:∃v:Bool,(if b then a.eval x else a.eval y)=.bool v/\(b=true->px.ok V (.bool v))/\(b=false->py.ok V (.bool v)):=by
     have isb:∀(q:CV) (v:Value),isB q=true->q.ok V v->∃r,v=.bool r:=by
      intro q v hq hv
      cases q <;> simp[isB]at hq
      .
       exact⟨_,hv⟩
      .
       obtain⟨r,e,_⟩:=hv;exact⟨r,e⟩
     cases b with
     | true=>
      have h3:=(hx h2).1;rw[e2]at h3;obtain⟨r,e⟩:=isb px _ hb.1 h3
      exact⟨r,e,(fun _=>by rw[<-e];exact h3),(fun h9=>by cases h9)⟩
     | false=>
      have h3:=(hy h2).1;rw[e3]at h3;obtain⟨r,e⟩:=isb py _ hb.2 h3
      exact⟨r,e,(fun h9=>by cases h9),(fun _=>by rw[<-e];exact h3)⟩
    obtain⟨v,ev,hv1,hv2⟩:=hval;have hrun:=run b h2;rw[ev]at hrun
    have wtOk:∀(q:CV),q.ok V (.bool v)->v=true->∀c ∈ wt q,c.ok V:=by
     intro q hq hvt c hc
     cases q <;> simp only[wt,List.not_mem_nil]at hc
     obtain⟨r,e,h5,h6⟩:=hq;cases e;exact h5 hvt c hc
    have wfOk:∀(q:CV),q.ok V (.bool v)->v=false->∀c ∈ wf q,c.ok V:=by
     intro q hq hvt c hc
     cases q <;> simp only[wf,List.not_mem_nil]at hc
     obtain⟨r,e,h5,h6⟩:=hq;cases e;exact h6 hvt c hc
    split at hz
    .
     cases hz
     refine dW.val hrun (Res.pure h ⟨v,rfl,(fun _ c hc=>by cases hc),fun hvf c hc=>?_⟩)
     cases b with
     | true=>have:=hv1 rfl;rw[hvf]at this;cases this
     | false=>
      rcases List.mem_append.1 hc with hc|hc
      .
       exact hf rfl c hc
      .
       exact wfOk py (hv2 rfl) hvf c hc
    .
     cases hz
     refine dW.val hrun (Res.pure h ⟨v,rfl,fun hvt c hc=>?_,(fun _ c hc=>by cases hc)⟩)
     cases b with
     | false=>have:=hv2 rfl;rw[hvt]at this;cases this
     | true=>
      rcases List.mem_append.1 hc with hc|hc
      .
       exact ht rfl c hc
      .
       exact wtOk px (hv1 rfl) hvt c hc
    .
     cases hz;exact dW.val hrun (Res.pure h (iK V v))
   .
    cases hz
  .
   cases hz
 .
  cases hu
theorem aRy {l:Array Operand}{x:Operand}(h:l.toList=[x]):l=#[x]:=by
 apply Array.toList_inj.1
 rw[h]
theorem aPm {l:Array Operand}{x y:Operand}(h:l.toList=[x,y]):l=#[x,y]:=by
 apply Array.toList_inj.1
 rw[h]
theorem aNj {l:Array TypeId}{x:TypeId}(h:l.toList=[x]):l=#[x]:=by
 apply Array.toList_inj.1
 rw[h]
theorem aNi {l:Array TypeId}{x y:TypeId}(h:l.toList=[x,y]):l=#[x,y]:=by
 apply Array.toList_inj.1
 rw[h]
theorem aLb {T e:Nat}(hT:Tryz.prog.underlying T=some (.slice e))(b:Option Addr)(n c:Nat)(w:World):(Builtin.len_ #[T] ty #[.slice b n c]).run Tryz.prog w=.ok (.int .i64 n) w:=by
 simp only[Builtin.len_]
 simp[run_underlying hT,goInt]
theorem aOk (h:Kn C U A S B X τ V w)(hS:aG4 V S){c:Call}(hc:c.callee=.builtin .len)(hx:∀x ∈ c.args.toList,Opd A S B X τ V a x){u:Out}(hu:cK G A ⟨d,.call c,ty,pos,aft,gd⟩=some u):dW C U A ⟨d,.call c,ty,pos,aft,gd⟩ u S B X τ V a w:=by
 simp only[cK,hc]at hu
 split at hu
 .
  rename_i x T e1 e2
  obtain⟨h1,h2,_⟩:=hx x (by rw[e1];simp)
  split at hu
  .
   rename_i hT
   obtain⟨e,hTe⟩:=Option.isSome_iff_exists.1 hT;have hTu:=oT hTe
   have run:∀(b:Option Addr) (n q:Nat),a.eval x=.slice b n q->(execOp a.eval ⟨d,.call c,ty,pos,aft,gd⟩).run Tryz.prog w=.ok (.value (.int .i64 n)) w:=fun b n q e9=>by
    simp only[execOp,resolve,hc,aRy e1,aNj e2,invoke,builtin,Sem.run_bind,Sem.run_pure,Result.andThen_ok,List.map_toArray,zH2,List.map_nil,e9,aLb hTu]
   split at hu
   .
    rename_i s e3
    rw[e3]at h1 h2
    have hSs:S s:=h2 s Q33
    split at hu
    .
     rename_i hsy
     obtain⟨f,hf⟩:=Option.isSome_iff_exists.1 hsy;cases hu;have hsf:=(h.sy s f hf hSs).1
     have hv:a.eval x=V.ρ s:=h1
     obtain⟨b,q,e4,_⟩:=hsf.sh h.fr.th
     exact dW.val (run b _ q (hv.trans e4)) (Res.pure h (by show Value.int _ _=Value.int _ _;simp))
    .
     cases hu
   .
    rename_i e3
    rw[e3]at h1;cases hu;exact dW.val (run none 0 0 h1) (Res.pure h ⟨0,rfl,Int.le_refl _,Int.le_refl _⟩)
   .
    cases hu
  .
   cases hu
 .
  cases hu
end
end Eg
end Go.Proofs.YtffphdacgblaoaaGreatDoor

import Derived.Test.YtcbhdhmhidpdgaaGreatPackJ
import Derived.Orders
namespace Go.Proofs.YtcbhdhmhidpdgaaGreat
open Go.RowKit
set_option linter.unusedVariables false
set_option linter.unusedSimpArgs false
set_option maxRecDepth 100000
section
theorem QA91{p:Prop}(h:p:=by
 simp only[Lib.bytesWorld,World.freeze];split <;> rfl):p:=h
theorem QA123{p:Prop}(h:p:=by
 simp only[World.freeze];split <;> rfl):p:=h
namespace Eg
theorem M962{p q:Prop}(k:q)(h:Kx q->p:=by
 intro kQ
 simp only[Instr.sliceAt,Sem.run_bind,run_underlying hT,Result.andThen_ok,Instr.slice,Instr.sliceBounds,Instr.sliceBound,asIntOf,Sem.run_pure]
 rw[if_pos h9]
 exact kQ.o):p:=h ⟨k⟩
section
variable {C:Cx} {U:Value->Prop} {G:Cfg} {A:AS} {S B X:Nat->Prop} {τ τ':Sm} {V V':Vl} {a:Act} {w w':World} {d:Option Nat} {ty:TypeId} {pos:String} {aft:Array Edge} {gd:Option (Nat × Bool)}
theorem aGz {T:Nat}{k:Rs}{b o n c:Nat}(hT:Tryz.prog.underlying T=some (.slice k.ty))(hn:1<=n):(Instr.sliceAt T (.slice (some ⟨b,o,none⟩) n c) (some (.int .i64 1)) none none).run Tryz.prog w=.ok (.slice (some (if c=1 then ⟨b,o,none⟩ else ⟨b,o+1*k.k,none⟩)) (n-1) (c-1)) w:=by
 have Bg:=aEg k;have h9:(0:Int)<=1/\(1:Int)<=(n:Int):=A0;refine M962 ?_;simp only[Sem.run_pure,Result.andThen_ok,Sem.run_bind,Option.map_some,Bg,Addr.add_lit,Int.toNat_one];split <;> rfl
theorem aHc (h:Kn C U A S B X τ V w){x lo:Operand}{T:Nat}(hx:Opd A S B X τ V a x)(hl:Opd A S B X τ V a lo){u:Out}(hu:bR G A ⟨d,.slice T x (some lo) none none,ty,pos,aft,gd⟩=some u)(hn:∀q,q<u.ns.length->¬S (A.sy.length+q)):dD C U A ⟨d,.slice T x (some lo) none none,ty,pos,aft,gd⟩ u S B X τ V a w:=by
 simp only[bR]at hu;split at hu
 .
  rename_i s e1 e2;obtain⟨h1,h2,_⟩:=hx;rw[e1]at h1 h2;have h3:=hl.1;rw[e2]at h3;have Jm:S s:=h2 s A18;split at hu
  .
   rename_i f hf;split at hu
   .
    rename_i hh;simp only[zC0,zE3]at hh;cases hu;have Fj:=h.sy s f hf Jm;obtain⟨i,e3,h4,h5⟩:=h3;obtain rfl:i=1:=A0;have hv:a.eval x=V.ρ s:=h1;have Af:=Fj.2.1;rcases Fj.1 with⟨e,h0⟩|⟨b,j,c,so,e,Fe,hk,Ui,hc,Gn⟩
    .
     omega
    .
     have hT:=aOn hh.1;have Bg:=aEg f.k;have hrun:(execOp a.eval ⟨d,.slice T x (some lo) none none,ty,pos,aft,gd⟩).run Tryz.prog w=.ok (.value (.slice (some (if c=1 then ⟨b,j*f.k.k,none⟩ else ⟨b,j*f.k.k+1*f.k.k,none⟩)) (ln (V.ρ s)-1) (c-1))) w:=by
      have hvx:=hv.trans e;simp only[execOp,Option.map_some,Option.map_none,e3,Sem.run_bind];rw[hvx,aGz hT A0];rfl
     have Tj:SV τ f.k (ln (V.ρ s)-1) (.slice (some (if c=1 then ⟨b,j*f.k.k,none⟩ else ⟨b,j*f.k.k+1*f.k.k,none⟩)) (ln (V.ρ s)-1) (c-1)):=by
      right;by_cases Hr:c=1
      .
       rw[if_pos Hr];exact⟨b,j,c-1,so,rfl,Fe,hk,by omega,by omega,by omega⟩
      .
       rw[if_neg Hr];exact⟨b,j+1,c-1,so,by rw[Nat.add_mul],Fe,hk,by omega,by omega,by omega⟩
     have hV:(V.add A.sy.length [.slice (some (if c=1 then ⟨b,j*f.k.k,none⟩ else ⟨b,j*f.k.k+1*f.k.k,none⟩)) (ln (V.ρ s)-1) (c-1)]).ρ A.sy.length=.slice (some (if c=1 then ⟨b,j*f.k.k,none⟩ else ⟨b,j*f.k.k+1*f.k.k,none⟩)) (ln (V.ρ s)-1) (c-1):=Vl.add_at (q:=0) rfl;have Jf:=iD (V:=V) (S:=S) (c:=A.sy.length) (us:=[.slice (some (if c=1 then ⟨b,j*f.k.k,none⟩ else ⟨b,j*f.k.k+1*f.k.k,none⟩)) (ln (V.ρ s)-1) (c-1)]) (fun q hq=>hn q A56);refine dD.val hrun (Res.same (V':=V.add A.sy.length [_]) h rfl rfl Jf (fun _ _=>rfl) (fun _ _=>rfl) (fun q g hq=>?_) hV.symm (fun c hc=>by cases hc));cases q with
     | succ q=>simp[at?]at hq| zero=>
      simp only[at?,zG2]at hq;subst hq;rw[zG1,hV];have a2:=Fj.2.2.1;refine⟨Tj, ?_, ?_, ?_,(fun h9=>by cases h9),(fun h9=>by cases h9),(fun s9 h9=>by cases h9)⟩
      .
       show f.lo-1<=ln (V.ρ s)-1;omega
      .
       show ln (V.ρ s)-1<=f.hi-1;omega
      .
       intro ho hst g hg;have Et:g=b:=by
        simp only[Value.ownBlock]at hg;split at hg <;> simpa using hg.symm
       subst Et;exact Fj.2.2.2.1 ho hst g A80
   .
    cases hu
  .
   cases hu
 .
  cases hu
theorem aG1 {T:Nat}{k:Rs}{p:Option Addr}{n c h:Nat}(hT:Tryz.prog.underlying T=some (.slice k.ty))(hn:h<=n)(hc:n<=c)(hp:p=none->c=0):(Instr.sliceAt T (.slice p n c) none (some (.int .i64 h)) none).run Tryz.prog w=.ok (.slice p h c) w:=by
 have Bg:=aEg k;have h9:(0:Int)<=(h:Int)/\(h:Int)<=(c:Int):=A0;refine M962 ?_;cases p with
 | none=>
  have:=hp rfl;subst this;have:h=0:=A0;subst this;simp[Sem.run_pure,Result.andThen_ok,Sem.run_bind,Bg]
 | some ad=>
  simp[Sem.run_pure,Result.andThen_ok,Sem.run_bind,Bg];intro _;obtain⟨b,o,q⟩:=ad;cases q <;> simp[Addr.add]
theorem aDy (h:Kn C U A S B X τ V w){x hi:Operand}{T:Nat}(hx:Opd A S B X τ V a x)(hl:Opd A S B X τ V a hi){u:Out}(hu:bR G A ⟨d,.slice T x none (some hi) none,ty,pos,aft,gd⟩=some u)(hn:∀q,q<u.ns.length->¬S (A.sy.length+q)):dD C U A ⟨d,.slice T x none (some hi) none,ty,pos,aft,gd⟩ u S B X τ V a w:=by
 simp only[bR]at hu;split at hu
 .
  rename_i s n m e1 e2;obtain⟨h1,h2,_⟩:=hx;rw[e1]at h1 h2;have h3:=hl.1;rw[e2]at h3;have Jm:S s:=h2 s A18;split at hu
  .
   rename_i f hf;split at hu
   .
    rename_i hh;simp only[zC0,zE3]at hh;obtain⟨⟨⟨hT,rfl⟩,h0⟩,Lm⟩:=hh;cases hu;have Fj:=h.sy s f hf Jm;obtain⟨i,e3,h4,h5⟩:=h3;obtain rfl:i=n:=A0;obtain⟨k,rfl⟩:∃k:Nat,i=k:=⟨i.toNat,by omega⟩
    have hv:a.eval x=V.ρ s:=h1;have Af:=Fj.2.1;obtain⟨p,c,e,Fu,_,Ko⟩:=Fj.1.sh h.fr.th;have Ci:k<=ln (V.ρ s):=A0;have hrun:(execOp a.eval ⟨d,.slice T x none (some hi) none,ty,pos,aft,gd⟩).run Tryz.prog w=.ok (.value (.slice p k c)) w:=by
     have hvx:=hv.trans e;simp only[execOp,Option.map_some,Option.map_none,e3,Sem.run_bind];rw[hvx,aG1 (aOn hT) Ci Fu Ko];rfl
    have Tj:SV τ f.k k (.slice p k c):=by
     rcases Fj.1 with⟨e9,h9⟩|⟨b,j,c',so,e9,Fe,hk,Ui,hc,Gn⟩
     .
      rw[e]at e9;simp only[Value.slice.injEq]at e9;obtain⟨rfl,h8,rfl⟩:=e9;obtain rfl:k=0:=A0;exact SV.nil _
     .
      rw[e]at e9;simp only[Value.slice.injEq]at e9;obtain⟨rfl,_,rfl⟩:=e9;exact .inr ⟨b,j,c,so,rfl,Fe,hk,by omega,by omega,Gn⟩
    have hV:(V.add A.sy.length [.slice p k c]).ρ A.sy.length=.slice p k c:=Vl.add_at (q:=0) rfl;have Jf:=iD (V:=V) (S:=S) (c:=A.sy.length) (us:=[.slice p k c]) (fun q hq=>hn q A56);refine dD.val hrun (Res.same (V':=V.add A.sy.length [_]) h rfl rfl Jf (fun _ _=>rfl) (fun _ _=>rfl) (fun q g hq=>?_) hV.symm (fun c hc=>by cases hc));cases q with
    | succ q=>simp[at?]at hq| zero=>
     simp only[at?,zG2]at hq;subst hq;rw[zG1,hV];refine⟨Tj,by show(k:Int).toNat<=k;omega,by show k<=(k:Int).toNat;omega, ?_,(fun h9=>by cases h9),(fun h9=>by cases h9),(fun s9 h9=>by cases h9)⟩;intro ho hst g hg;exact Fj.2.2.2.1 ho hst g (by rw[e];cases p <;> exact hg)
   .
    cases hu
  .
   cases hu
 .
  cases hu
theorem aK2:Tryz.prog.underlying 5=some (.int .u8):=Tryz.underlying5
theorem aQg:Tryz.prog.underlying 3=some (.int .i64):=Tryz.underlying3
theorem aOg:Tryz.prog.underlying 9=some .string:=Tryz.underlying9
theorem aA1:Tryz.prog.underlying 22=some (.slice 5):=Tryz.underlying22
theorem wrap_u8 (n:Int):0<=IntKind.u8.wrap n/\IntKind.u8.wrap n<=255:=by
 have:IntKind.u8.wrap n=n % 256:=by simp[IntKind.wrap,IntKind.signed,IntKind.bits]
 omega
theorem aG0 {b o n c:Nat}{cs:Array Value}{fl:Nat × Nat}(hb:w.heap[b]?=some (.cells cs 5 fl)):(convert 22 22 (.slice (some ⟨b,o,none⟩) n c)).run Tryz.prog w=.ok (.slice (some ⟨b,o,none⟩) n c) (w.freeze ⟨b,cs.size,none⟩ 1):=by
 have hsh:w.shape? b=some (5,cs.size):=by unfold World.shape?;rw[hb]
 simp[convert,run_underlying aA1,run_underlying aK2,markStringish,hsh]
theorem vB {b n:Nat}{cs:Array Value}{T:TypeId}{fl:Nat × Nat}(hb:w.heap[b]?=some (.cells cs T fl)):∃fl',(w.freeze ⟨b,n,none⟩ 1).heap[b]?=some (.cells cs T fl'):=by
 unfold World.freeze;rw[if_neg A6];simp only[Array.getElem?_modify,if_true,hb,Option.map_some];exact⟨_,rfl⟩
theorem iP {b n g:Nat}(hg:g ≠ b):(w.freeze ⟨b,n,none⟩ 1).heap[g]?=w.heap[g]?:=by
 unfold World.freeze;rw[if_neg A6];simp only[Array.getElem?_modify];rw[if_neg (Ne.symm hg)]
theorem xP {b n:Nat}:(w.freeze ⟨b,n,none⟩ 1).heap.size=w.heap.size:=by
 unfold World.freeze;rw[if_neg A6];simp
theorem aBq (h:Kn C U A S B X τ V w)(Vq:C.st=G.st){x:Operand}{T D:Nat}(hx:Opd A S B X τ V a x){u:Out}(hu:bR G A ⟨d,.convert T D x,ty,pos,aft,gd⟩=some u)(hn:∀q,q<u.ns.length->¬S (A.sy.length+q)):dD C U A ⟨d,.convert T D x,ty,pos,aft,gd⟩ u S B X τ V a w:=by
 obtain⟨h1,h2,_⟩:=hx;simp only[bR]at hu;split at hu
 .
  rename_i hT;simp only[zC0,beq_iff_eq]at hT;obtain⟨rfl,rfl⟩:=hT;split at hu
  .
   rename_i e;rw[e]at h1;obtain⟨s,e1,hs⟩:=h1;cases hu;have hrun:=Lib.run_convert_string_bytes (P:=Tryz.prog) w 9 22 5 s aOg aA1 aK2;have Yy:=grownCap_ge w s.size 0 5;have Ci:=grownCap_le_maxLen w s.size 0 5 A13;have Gv:τ w.heap.size=none:=h.fr.th.fresh (zB0 _);have Gi:=rN (s:=⟨.bt,false,s.size,grownCap w s.size 0 5⟩) Gv;have Kv:(Lib.bytesCells w 5 s).size=grownCap w s.size 0 5:=by
    simp only[Lib.bytesCells,Array.size_append,Array.size_map,Array.size_replicate];show s.size+_=_
    omega
   have An:aKq (upd τ w.heap.size ⟨.bt,false,s.size,grownCap w s.size 0 5⟩) (Lib.bytesWorld w 5 s) w.heap.size ⟨.bt,false,s.size,grownCap w s.size 0 5⟩:=
    ⟨⟨_,_,Lib.bytesWorld_at_new w _ s,fun h9=>absurd rfl h9,by rw[Kv];exact(Nat.mul_one _).symm⟩,Yy,Ci,fun i hi=>⟨[.int .u8 (s.data.toList.getD i 0).toNat],rfl,⟨_,rfl,by omega,by have:=(s.data.toList.getD i 0).toNat_lt;omega⟩,fun z v hz=>by
     cases z with
     | succ z=>simp at hz| zero=>
      simp only[List.getElem?_cons_zero,zG2]at hz;subst hz;have:=Lib.bytesWorld_cell w 5 s i hi;show(Lib.bytesWorld w 5 s).cell? ⟨w.heap.size,i*1+0,none⟩=_
      rw[Nat.mul_one,zG1];exact this⟩⟩
   have m:Mv C [] τ w (upd τ w.heap.size ⟨.bt,false,s.size,grownCap w s.size 0 5⟩) (Lib.bytesWorld w 5 s):=by
    refine h.fr.step [] (h.fr.th.upd Gi (fun b Ae Ad=>Lib.bytesWorld_at_old w _ s b Ad) An) Gi ?_ ?_ ?_ (by rw[Lib.bytesWorld_size];omega) (fun b Ad hb=>(eJ A0).trans hb) (fun b Ad _ _=>Lib.bytesWorld_at_old w _ s b Ad) (fun _ b Ad _=>?_) (fun _ h9=>by cases h9) (fun ht=>ht.upd rfl)
    .
     exact QA91
    .
     exact QA91
    .
     exact QA91
    .
     have:=h.fr.size;exact⟨eJ A0,Lib.bytesWorld_at_old w _ s b A0⟩
   have hV:(V.add A.sy.length [.slice (some ⟨w.heap.size,0,none⟩) s.size (grownCap w s.size 0 5)]).ρ A.sy.length=.slice (some ⟨w.heap.size,0,none⟩) s.size (grownCap w s.size 0 5):=Vl.add_at (q:=0) rfl;have Jf:=iD (V:=V) (S:=S) (c:=A.sy.length) (us:=[.slice (some ⟨w.heap.size,0,none⟩) s.size (grownCap w s.size 0 5)]) (fun q hq=>hn q A56);refine dD.val (by simp only[execOp,e1,Sem.run_bind,hrun,Result.andThen_ok];rfl) (Res.mv (V':=V.add A.sy.length [_]) h m (fun _ b so hb _=>Lib.bytesWorld_at_old w _ s b (h.fr.th.lt hb)) rfl rfl Jf (fun _ _=>rfl) (fun _ _=>rfl) (fun q g hq=>?_) hV.symm (fun c hc=>by cases hc));cases q with
   | succ q=>simp[at?]at hq| zero=>
    simp only[at?,zG2]at hq;subst hq;rw[zG1,hV];refine⟨.inr ⟨w.heap.size,0,_,_,rfl,lU _ _ _,rfl,by show 0+s.size<=s.size;omega,Yy,by rw[zJ1];exact zB0 _⟩,zD1 _,hs,(fun _ _ g hg=>by cases hg;exact h.fr.size),(fun h9=>by cases h9),(fun h9=>by cases h9),(fun s9 h9=>by cases h9)⟩
  .
   cases hu
 split at hu
 .
  rename_i hT;simp only[zC0,beq_iff_eq]at hT;obtain⟨rfl,rfl⟩:=hT;split at hu
  .
   rename_i s e;rw[e]at h1 h2;split at hu
   .
    rename_i f hf;split at hu
    .
     rename_i hh;simp only[zC0,zE3]at hh;cases hu;have Fj:=h.sy s f hf (h2 s A18);have hv:a.eval x=V.ρ s:=h1;obtain⟨l,⟨a9,c9,e9,Cg,_⟩,_⟩:=rd_b (m:=f.hi) (v:=V.ρ s) h.fr.th ⟨_,Fj.2.2.1,by have:=Fj.1;rwa [Rs.eq_eq hh.1]at this⟩;have hl:l.length<=4:=by
      have:=Fj.2.2.1;rw[e9]at this;have:l.length<=f.hi:=this;omega
     refine dD.val (v:=.string (strOfNums l)) (by simp only[execOp,hv,Sem.run_bind];rw[e9,aT c9 Cg];rfl) (Res.pure h ⟨_,rfl, ?_⟩);have e8:(strOfNums l).size=l.length:=by
      have:=congrArg List.length (strOfNums_data l);simpa using this
     omega
    .
     cases hu
   .
    cases hu
  .
   cases hu
 .
  split at hu
  .
   rename_i hT;simp only[zC0,beq_iff_eq]at hT;obtain⟨rfl,rfl⟩:=hT;split at hu
   .
    rename_i s e;rw[e]at h1 h2;have Jm:S s:=h2 s A18;split at hu
    .
     rename_i f hf;split at hu
     .
      rename_i hh;simp only[zC0,zE3,Bool.or_eq_true,Bool.not_eq_true']at hh;obtain⟨⟨hk,Lm⟩,ho⟩:=hh;have hk:=Rs.eq_eq hk;cases hu;have Fj:=h.sy s f hf Jm;have hl:=Fj.2.1;have hv:a.eval x=V.ρ s:=h1;rcases Fj.1 with⟨e9,h0⟩|⟨b,j,c,so,e9,Fe,Iz,_⟩
      .
       omega
      .
       have hR:=h.fr.th b so Fe;obtain⟨cs,fl,Ck,_,Bg⟩:=hR.blk;rw[Iz,hk]at Ck;have hrun:=aG0 (o:=j*f.k.k) (n:=ln (V.ρ s)) (c:=c) Ck;obtain⟨fl',hfb⟩:=vB (n:=cs.size) Ck;have hth:TH τ (w.freeze ⟨b,cs.size,none⟩ 1):=by
        intro g sg hg;by_cases Et:g=b
        .
         subst Et;rw[Fe]at hg;cases hg;refine⟨⟨cs,fl',by rw[Iz,hk];exact hfb,fun h9=>by rw[Iz,hk]at h9;exact absurd rfl h9,Bg⟩,hR.u,hR.c,fun i hi=>?_⟩;obtain⟨vs,v1,v2,v3⟩:=hR.el i hi;refine⟨vs,v1,v2,fun z u hu=>?_⟩;have:=v3 z u hu;rw[cell_of_row w g _ _ _ fl Ck]at this;rw[cell_of_row _ g _ _ _ fl' hfb];exact this
        .
         exact(h.fr.th g sg hg).on (Sub.refl _) (iP Et)
       have Ae:∀g,τ g=none->g ≠ b:=by rintro g hg rfl;rw[Fe]at hg;cases hg
       have m:Mv C [] τ w τ (w.freeze ⟨b,cs.size,none⟩ 1):=by
        refine h.fr.step [] hth (Sub.refl _) ?_ ?_ ?_ (by rw[xP];exact zB0 _) (fun _ _ h9=>h9) (fun g _ hg _=>iP (Ae g hg)) (fun hst g Fh _=>⟨rfl,iP ?_⟩) (fun _ h9=>by cases h9) (fun h9=>h9)
        .
         exact QA123
        .
         exact QA123
        .
         exact QA123
        .
         rintro rfl;rcases ho with ho|ho
         .
          have:=Fj.2.2.2.1 ho hst g (by rw[e9];rfl);omega
         .
          rw[Vq,ho]at hst;cases hst
       refine dD.val (v:=V.ρ s) (by simp only[execOp,hv,Sem.run_bind];rw[e9,hrun];rfl) (Res.mv (V':=V) h m (fun _ g sg hg hgk=>iP (by rintro rfl;rw[Fe]at hg;cases hg;exact hgk (Iz.trans hk))) rfl rfl (fun _ _=>rfl) (fun _ _=>rfl) (fun _ _=>rfl) (fun q g hq=>by simp[at?]at hq) rfl (fun c hc=>by cases hc))
     .
      cases hu
    .
     cases hu
   .
    cases hu
  .
   split at hu
   .
    rename_i hT;simp only[zC0,beq_iff_eq]at hT;obtain⟨rfl,rfl⟩:=hT;split at hu
    .
     rename_i y e;split at hu
     .
      rename_i hr;obtain⟨⟨lo,hi⟩,hr⟩:=Option.isSome_iff_exists.1 hr;cases hu;rw[e]at h1 h2;obtain⟨n,e1,_,_⟩:=iJ h h1 h2 hr;exact dD.val (v:=.int .u8 (IntKind.u8.wrap n)) (by simp only[execOp,e1,convert,Sem.run_bind,run_underlying aQg,run_underlying aK2,Result.andThen_ok];rfl) (Res.pure h ⟨_,rfl,wrap_u8 n⟩)
     .
      cases hu
    .
     cases hu
   .
    cases hu
end
end Eg
end
section
namespace Eg
structure Inp where
 cb:Nat
 gb:Nat
 fa:Value
 us:Value
 nv:Value
 vv:Value
 pv:Value
 iv:Value
 av:Value
 calm:Bool
def Inp.vals (I:Inp)(left:Int):List Value:=[.pointer (some ⟨I.cb,0,none⟩),I.fa,I.nv,I.us,I.vv,I.pv,I.iv,I.av,.int .i64 1,.int .i64 left,.bool I.calm]
def SVb (τ:Sm)(k:Rs)(lo hi:Nat)(v:Value):Prop:=SV τ k (ln v) v/\lo<=ln v/\ln v<=hi
def Us (fa:Value)(w:World)(v:Value):Prop:=∃b o n c j,fa=.slice (some ⟨b,o,none⟩) n c/\j<n/\w.cell? ⟨b,o+2*j,none⟩=some v
structure aN1 (τ:Sm) (w:World) (cb:Nat):Prop where
 cur:Cur w cb
 nc:τ cb=none
 lo:∀b,b<cb->τ b=none
structure Gen (τ:Sm) (w:World) (I:Inp):Prop where
 cur:aN1 τ w I.cb
 ng:τ I.gb=none
 lt:I.cb<I.gb
 blk:∃left,I64 left/\Blk w I.gb 141 (I.vals left)
 nv:SVb τ .bt 0 4 I.nv
 vv:SVb τ (.rc 1) 0 3 I.vv
 pv:SVb τ (.rc 12) 0 3 I.pv
 iv:SVb τ (.rc 0) 2 20 I.iv
 av:SVb τ (.rc 0) 0 20 I.av
 fa:SVb τ (.rc 4) 0 2 I.fa
 us:SVb τ (.rc 0) 0 2 I.us
 use:∀b o n c i v,I.us=.slice (some ⟨b,o,none⟩) n c->i<n->w.cell? ⟨b,o+i,none⟩=some v->Us I.fa w v
def CP.ok (τ:Sm)(w:World)(I:Inp):CP->Value->Prop
 | .cur,v=>v=.pointer (some ⟨I.cb,0,none⟩)| .gen,v=>v=.pointer (some ⟨I.gb,0,none⟩)| .int lo hi,v=>∃x,v=.int .i64 x/\lo<=x/\x<=hi| .bool,v=>∃b,v=.bool b| .str,v=>∃s,v=.string s/\s.size<=4| .sl k lo hi,v=>SVb τ k lo hi v| .rc t,v=>∃vs,v=.agg vs.toArray/\RV τ (Dt t).2 vs| .un,v=>SV τ .bt (ln v) v/\Us I.fa w v| .fa,v=>v=I.fa/\SVb τ (.rc 4) 0 2 v
def aCu (τ:Sm)(w:World)(I:Inp):List CP->List Value->Prop
 | [],vs=>vs=[]| p :: l,vs=>∃v us,vs=v :: us/\p.ok τ w I v/\aCu τ w I l us
def RP.ok (st:Bool)(τ:Sm)(n:Nat)(I:Inp):RP->Value->Prop
 | .int lo hi,v=>∃x,v=.int .i64 x/\lo<=x/\x<=hi| .bool,v=>∃b,v=.bool b| .sl k lo hi,v=>SVb τ k lo hi v/\(st=true->∀g,v.ownBlock=some g->n<=g)| .rc t,v=>∃vs,v=.agg vs.toArray/\RV τ (Dt t).2 vs| .tb t,v=>∃vs b,v=.tuple #[.agg vs.toArray,.bool b]/\RV τ (Dt t).2 vs| .ts t k lo hi,v=>∃vs u,v=.tuple #[.agg vs.toArray,u]/\RV τ (Dt t).2 vs/\SVb τ k lo hi u/\(st=true->∀g,u.ownBlock=some g->n<=g)| .ixf,v=>∃x:Nat,v=.int .i64 x/\x<ln I.fa| .num,v=>∃x y,v=.agg #[.int .i64 x,.int .i64 y,.slice none 0 0,.slice none 0 0,.slice none 0 0]/\I64 x/\I64 y| .vr,v=>∃x y u,v=.agg #[.int .i64 x,.int .i64 y,.slice none 0 0,u,.slice none 0 0]/\I64 x/\I64 y/\SVb τ .bt 0 4 u| .ti t,v=>∃vs x,v=.tuple #[.agg vs.toArray,.int .i64 x]/\RV τ (Dt t).2 vs/\I64 x| .t3 k lo hi,v=>∃u p a0 n0 c0 a1 n1 c1 a2 n2 c2,v=.tuple #[u,p,.agg #[.slice a0 n0 c0,.slice a1 n1 c1,.slice a2 n2 c2]]/\SVb τ k lo hi u/\(st=true->∀g,u.ownBlock=some g->n<=g)
def Con.K (c:Con)(I:Inp):List Nat:=if bH c.args then [I.cb,I.gb] else if eO c.args then [I.cb] else []
structure Con.Env (c:Con) (τ:Sm) (w:World) (I:Inp):Prop where
 gen:bH c.args=true->Gen τ w I
 cur:eO c.args=true->aN1 τ w I.cb
structure Con.After (c:Con) (w':World) (I:Inp):Prop where
 gen:bH c.args=true->Cur w' I.cb/\∃left cm,I64 left/\Blk w' I.gb 141 ({ I with calm:=cm }.vals left)
 cur:eO c.args=true->Cur w' I.cb
def ConOk (c:Con):Prop:=∀(τ:Sm) (w:World) (I:Inp) (vs:List Value),TH τ w->(c.tg=true->Tg τ)->c.Env τ w I->aCu τ w I c.args vs →
 Calls Tryz.prog c.f vs.toArray w fun e w'=>∃v τ',e=.returned v/\Fr ⟨c.st,c.K I,τ,w⟩ τ' w'/\(c.st=true->Tg τ->Tg τ')/\c.After w' I/\c.res.ok c.st τ' w.heap.size I v
structure Us0 (G:Cfg) (C:Cx) (A:AS) (S:Nat->Prop) (V:Vl) (w:World):Prop where
 st:C.st=true
 s0:S 0
 s1:S 1
 fa:SVb C.τ0 (.rc 4) 0 2 (V.ρ 0)
 us:SVb C.τ0 (.rc 0) 0 2 (V.ρ 1)
 use:∀b o n c i v,V.ρ 1=.slice (some ⟨b,o,none⟩) n c->i<n->C.w0.cell? ⟨b,o+i,none⟩=some v->Us (V.ρ 0) C.w0 v
section
variable {C:Cx} {U:Value->Prop} {G:Cfg} {A:AS} {S B X:Nat->Prop} {τ τ':Sm} {V V':Vl} {a:Act} {w w':World} {d:Option Nat} {ty:TypeId} {pos:String} {aft:Array Edge} {gd:Option (Nat × Bool)}
theorem rW (hF:Fr C τ w)(hst:C.st=true)(Jl:TH C.τ0 C.w0){k:Rs}{n b o c:Nat}{l:Nat}(h:SV C.τ0 k l (.slice (some ⟨b,o,none⟩) n c))(p:Nat):w.cell? ⟨b,p,none⟩=C.w0.cell? ⟨b,p,none⟩:=by
 rcases h with⟨e,_⟩|⟨b',j,c',s,e,hb,_⟩
 .
  cases e
 .
  simp only[Value.slice.injEq,zG2,Addr.mk.injEq,and_true]at e;obtain⟨⟨rfl,_⟩,_⟩:=e;exact World.cell?_of_block (hF.str hst b (Jl.lt hb) (by rw[hb];simp)).2
theorem Us0.on (h:Us0 G C A S V w)(hF:Fr C τ w)(Jl:TH C.τ0 C.w0){v:Value}:Us (V.ρ 0) C.w0 v ↔ Us (V.ρ 0) w v:=by
 constructor
 .
  rintro⟨b,o,n,c,j,e,hj,hc⟩;have h1:=h.fa.1;rw[e]at h1;exact⟨b,o,n,c,j,e,hj,(rW hF h.st Jl h1 _).trans hc⟩
 .
  rintro⟨b,o,n,c,j,e,hj,hc⟩;have h1:=h.fa.1;rw[e]at h1;exact⟨b,o,n,c,j,e,hj,(rW hF h.st Jl h1 _).symm.trans hc⟩
theorem Us0.useW (h:Us0 G C A S V w)(hF:Fr C τ w)(Jl:TH C.τ0 C.w0):∀b o n c i v,V.ρ 1=.slice (some ⟨b,o,none⟩) n c->i<n->w.cell? ⟨b,o+i,none⟩=some v->Us (V.ρ 0) C.w0 v:=by
 intro b o n c i v e hi hc;have h1:=h.us.1;rw[e]at h1;exact h.use b o n c i v e hi ((rW hF h.st Jl h1 _).symm.trans hc)
theorem SVb.sub {k:Rs}{lo hi:Nat}{v:Value}(h:SVb τ k lo hi v)(hs:Sub τ τ'):SVb τ' k lo hi v:=⟨h.1.sub hs,h.2⟩
theorem lW (h:Kn C U A S B X τ V w){k:Rs}{lo hi:Nat}{x:CV}{v:Value}(hx:x.ok V v)(hs:∀s ∈ x.sy,S s)(hk:A.sOk k lo hi x=true):SVb τ k lo hi v:=by
 cases x <;> simp only[AS.sOk,Bool.false_eq_true]at hk
 .
  rename_i s;split at hk
  .
   rename_i f hf;simp only[zC0,zE3]at hk;obtain⟨⟨h1,h2⟩,h3⟩:=hk;have:=Rs.eq_eq h1;subst this;obtain⟨a1,a2,a3,_⟩:=h.sy s f hf (hs s A42);rw[show v=_ from hx];exact⟨a1,by omega,by omega⟩
  .
   cases hk
 .
  simp only[beq_iff_eq]at hk;subst hk;rw[show v=_ from hx];exact⟨SV.nil k,zB0 _,zD1 _⟩
theorem aQo (h:Kn C (Us (V.ρ 0) C.w0) A S B X τ V w)(h0:Us0 G C A S V w)(Jl:TH C.τ0 C.w0){b:Nat}(hB:B b)(hg:A.gen b=true)(Ad:∀c,at? A.bk c=some .cur->B c->V.β c<V.β b):∃(I:Inp) (c:Nat),I.gb=V.β b/\I.cb=V.β c/\at? A.bk c=some .cur/\B c/\I.fa=V.ρ 0/\Gen τ w I/\∃nv vv pv iv av,at? A.bk b=some (.cells 141 [.ptr c 0,.sl 0,nv,.sl 1,vv,pv,iv,av,.int 1 1,.int mn mx,.bl [] []])/\(nv.ok V I.nv/\vv.ok V I.vv/\pv.ok V I.pv/\iv.ok V I.iv/\av.ok V I.av)/\I.us=V.ρ 1:=by
 unfold AS.gen at hg;split at hg
 .
  rename_i T c nv vv pv iv av lo hi hb;simp only[zC0,beq_iff_eq,zE3]at hg;obtain⟨⟨⟨⟨⟨⟨⟨⟨rfl,hc⟩,g1⟩,g2⟩,g3⟩,g4⟩,g5⟩,rfl⟩,rfl⟩:=hg;obtain⟨⟨vs,Ck,Kw⟩,hn,hlt1,_⟩:=h.bk b _ hb hB;obtain⟨b1,b2,b3⟩:=h.bc b _ hb hB;obtain⟨v0,_,rfl,q0,v1,_,rfl,q1,v2,_,rfl,q2,v3,_,rfl,q3,v4,_,rfl,q4,v5,_,rfl,q5,v6,_,rfl,q6,v7,_,rfl,q7,v8,_,rfl,q8,v9,_,rfl,q9,v10,_,rfl,q10,rfl⟩:=Kw;have sb:∀(y:CV),y ∈ [CV.ptr c 0,.sl 0,nv,.sl 1,vv,pv,iv,av,.int 1 1,.int mn mx,.bl [] []]->∀s ∈ y.sy,S s:=fun y hy s hs=>b1 s (List.mem_flatMap.2 ⟨y,hy,hs⟩);have hBc:B c:=b2 c (by simp[Bk.bs,CV.bs]);have Gn:at? A.bk c=some .cur:=by
   split at hc
   .
    rename_i e;exact e
   .
    cases hc
  obtain⟨hcu,Rb,_,_⟩:=h.bk c _ Gn hBc;have Ab:=(h.lo c Gn hBc).2;obtain⟨x8,e8,y8,z8⟩:=q8;obtain⟨x9,e9,y9,z9⟩:=q9;obtain⟨bb,rfl,_⟩:=q10;obtain rfl:x8=1:=by omega
  subst e8 e9;refine⟨⟨V.β c,V.β b,V.ρ 0,V.ρ 1,v2,v4,v5,v6,v7,bb⟩,c,rfl,rfl,Gn,hBc,rfl,⟨⟨hcu,Rb,fun q hq=>(Ab q hq).1⟩,hn,Ad c Gn hBc,⟨x9,⟨y9,z9⟩, ?_⟩,lW h q2 (sb nv A9) g1,lW h q4 (sb vv A9) g2,lW h q5 (sb pv A9) g3,lW h q6 (sb iv A9) g4,lW h q7 (sb av A9) g5,h0.fa.sub h.fr.sub,h0.us.sub h.fr.sub, ?_⟩,nv,vv,pv,iv,av,hb,⟨q2,q4,q5,q6,q7⟩,rfl⟩
  .
   have e0:v0=.pointer (some ⟨V.β c,0,none⟩):=q0;have e1:v1=V.ρ 0:=q1;have e3:v3=V.ρ 1:=q3;rw[e0,e1,e3]at Ck;exact Ck
  .
   intro b9 o n c9 i v e hi Ai;exact(h0.on h.fr Jl).1 (h0.useW h.fr Jl b9 o n c9 i v e hi Ai)
 .
  cases hg
end
end Eg
end
section
namespace Eg
def aAu (P:Program):List Nat->Bool
 | []=>true| f :: l => (match P.funcs[f]? with | some fn => !(fn.name == "runtime.NumGoroutine") && fn.body.isSome | none => false) && aAu P l
theorem aQw:aAu Tryz.prog FS=true:=by kernel_rfl
theorem aQx:∀{l:List Nat},aAu Tryz.prog l=true->∀{f:Nat},has f l=true->∀args w,Sem.run Tryz.prog (callFunc f args) w=.ok (.enter f args) w
 | [],_,_,h=>by cases h
 | g :: l,hc,f,h=>by
  simp only[aAu,zC0]at hc;simp only[has,Bool.or_eq_true,beq_iff_eq]at h;rcases h with rfl|h
  .
   have h1:=hc.1;split at h1
   .
    rename_i fn hf;simp only[zC0,Bool.not_eq_true']at h1;intro args w;obtain⟨b,hb⟩:=Option.isSome_iff_exists.1 h1.2;have h9 : ¬ fn.name = "runtime.NumGoroutine" := by simpa using h1.1
    simp[callFunc,hf,h9,hb,go_sem]
   .
    cases h1
  .
   exact aQx hc.2 h
section
variable {C:Cx} {U:Value->Prop} {G:Cfg} {A:AS} {S B X:Nat->Prop} {τ τ':Sm} {V V':Vl} {a:Act} {w w':World} {d:Option Nat} {ty:TypeId} {pos:String} {aft:Array Edge} {gd:Option (Nat × Bool)}
theorem dD.call {c:Call}{f:Nat}{u:Out}(hc:c.callee=.value (.func f))(hf:has f FS=true)(h:Calls Tryz.prog f (c.args.map a.eval) w fun e w'=>∃v τ' V',e=.returned v/\Res C U A u S B X τ V w v τ' V' w'):dD C U A ⟨d,.call c,ty,pos,aft,gd⟩ u S B X τ V a w:=by
 intro Q;unfold Oper.wp;have hrun:(execOp a.eval ⟨d,.call c,ty,pos,aft,gd⟩).run Tryz.prog w=.ok (.enter f (c.args.map a.eval)) w:=by
  have he:a.eval (.func f)=.func (.func f) #[] #[]:=rfl;simp only[execOp,resolve,hc,he,Deferred.ofValue,Sem.run_bind,Sem.run_pure,Result.andThen_ok,invoke,aQx aQw hf];simp
 rw[hrun,Oper.upon_enter];refine h.mono ?_;rintro e w' ⟨v,τ',V',rfl,hr⟩;exact⟨v,τ',V',rfl,hr⟩
theorem Res.call {u:Out}{v:Value}{st:Bool}{K:List Nat}(h:Kn C U A S B X τ V w)(Vq:C.st=true->st=true)(fr:Fr ⟨st,K,τ,w⟩ τ' w')(hK:∀g ∈ K,g<C.w0.heap.size->g ∈ C.K)(Jz:u.nq=false->st=true)(Jv:u.br=false->Tg τ->Tg τ')(hup:u.up=none)(Ba:u.nb=none)(Fu:u.nc=[])(hρ:∀s,S s->V'.ρ s=V.ρ s)(hβ:V'.β=V.β)(hι:∀c,X c->V'.ι c=V.ι c)
  (Qv:∀q f,at? u.ns q=some f->f.ok C U τ' V' (V'.ρ (A.sy.length+q))) (hr:u.r.ok τ' V' v) (Nd:∀n x,B n->at? A.bk n=some x->x.ok V w' (V.β n)):Res C U A u S B X τ V w v τ' V' w':=by
 have hF:=h.fr;refine⟨⟨fr.th,hF.sub.trans fr.sub,fr.os.trans hF.os,fr.tape.trans hF.tape,fr.output.trans hF.output,zF2 hF.size fr.size,fun b hb hn=>fr.non b (Nat.lt_of_lt_of_le hb hF.size) (hF.non b hb hn),fun b hb hn hk=>(fr.blk b (Nat.lt_of_lt_of_le hb hF.size) (hF.non b hb hn) (fun hm=>hk (hK b hm hb))).trans (hF.blk b hb hn hk),fun hst b hb hn=>?_⟩,fr.sub,fr.size,fr.non,fun hq b s hb _=>?_,Jv,hρ,fun n _=>by rw[hβ],hι,Qv,hr,fun n x hn hx _=>?_,fun n l T x e=> A58,fun x e=> A69,fun c hc=> A81⟩
 .
  obtain⟨a1,a2⟩:=hF.str hst b hb hn;obtain⟨a3,a4⟩:=fr.str (Vq hst) b (Nat.lt_of_lt_of_le hb hF.size) (by show τ b ≠ none;rw[a1];exact hn);exact⟨a3.trans a1,a4.trans a2⟩
 .
  exact(fr.str (Jz hq) b (hF.th.lt hb) (by show τ b ≠ none;rw[hb];simp)).2
 .
  rw[hβ];obtain⟨c1,c2,c3⟩:=h.bc n x hx hn;exact Bk.on (Nd n x hn hx) (fun s hs=>hρ s (c1 s hs)) (fun b _=>by rw[hβ]) (fun c hc=>hι c (c3 c hc))
theorem oO {st:Bool}{K:List Nat}(h:Kn C U A S B X τ V w)(fr:Fr ⟨st,K,τ,w⟩ τ' w'){n:Nat}{T:TypeId}{l:List CV}(hn:B n)(hx:at? A.bk n=some (.cells T l))(hk:V.β n ∉ K):(Bk.cells T l).ok V w' (V.β n):=by
 obtain⟨⟨vs,hb,Kw⟩,h1,h2,_⟩:=h.bk n _ hx hn;exact⟨vs,(fr.blk _ h2 h1 hk).trans hb,Kw⟩
theorem rY (h:Kn C U A S B X τ V w){b:Nat}{n:Int}(hB:B b)(hb:at? A.bk b=some .cur){c:Call}{u:Out}{x0 x1:Operand}(hc:c.callee=.value (.func 26))(ea:c.args.toList=[x0,x1])(e0:a.eval x0=.pointer (some ⟨V.β b,0,none⟩))(e1:a.eval x1=.int .i64 n)(hn:n<=1000000)(hu:u.ns=[]/\u.nb=none/\u.up=none/\u.nc=[]/\u.nq=false)(hr:∀x:Int,0<=x->(0<n->x<n)->(n<=0->x=0)->∃ι',(∀c,X c->ι' c=V.ι c)/\∀τ,u.r.ok τ ⟨V.ρ,V.β,ι'⟩ (.int .i64 x)):dD C U A ⟨d,.call c,ty,pos,aft,gd⟩ u S B X τ V a w:=by
 obtain⟨hcu,Rb,Ad,hK⟩:=h.bk b _ hb hB;have Lm:=h.lo b hb hB;refine dD.call hc A6 ?_;rw[aQ7 ea];simp only[List.map_toArray,zH2,List.map_nil,e0,e1];refine(aA8 (V.β b) n w hcu A0).mono ?_;rintro e w' ⟨x,rfl,h1,h2,h3,hdr⟩;have Ae:∀g s,τ g=some s->some g ≠ some (V.β b):=by rintro g s hg e9;cases e9;rw[Rb]at hg;cases hg
 have fr:Fr ⟨true,[V.β b],τ,w⟩ τ w':=⟨h.fr.th.on fun g s hg=>hdr.2.block g (h.fr.th.lt hg) (Ae g s hg),Sub.refl _,hdr.2.os,hdr.2.tape,hdr.2.output,hdr.2.size,fun _ _ h9=>h9,fun g hg _ hk=>hdr.2.block g hg (by intro e9;cases e9;simp at hk),fun _ g hg Dh=>⟨rfl,hdr.2.block g hg (by
  cases e9:τ g with
  | none=>exact absurd e9 Dh| some s=>exact Ae g s e9)⟩⟩
 obtain⟨ι',q1,q2⟩:=hr x h1 h2 h3;refine⟨.int .i64 x,τ,⟨V.ρ,V.β,ι'⟩,rfl,Res.call h (fun _=>rfl) fr (fun g hg Fh=>?_) (fun _=>rfl) (fun _ h9=>h9) hu.2.2.1 hu.2.1 hu.2.2.2.1 (fun _ _=>rfl) rfl q1 (fun q f hq=>by rw[hu.1]at hq;simp[at?]at hq) (q2 τ) (fun m y hm hy=>?_)⟩
 .
  rw[List.mem_singleton.1 hg]at Fh ⊢;rcases hK with hK|hK
  .
   exact hK
  .
   omega
 .
  cases y with
  | cur=>
   have e1:=h.cu m hy;have e2:=h.cu b hb;subst e1 e2;exact hdr.1
  | cells T l=>exact oO h fr hm hy (by
    simp only[List.mem_singleton];exact h.dj m b _ _ hy hb hm hB (by rintro rfl;rw[hb]at hy;cases hy))
theorem aPb (h:Kn C U A S B X τ V w)(Jl:TH C.τ0 C.w0){I:Inp}(hI:I.fa=V.ρ 0){p:CP}(hp:mX p=true)(h0:qP p=true->Us0 G C A S V w/\U=Us (V.ρ 0) C.w0){x:AV}{v:Value}(hx:x.ok τ V v)(hs:∀s ∈ x.sy,S s)(hm:A.mat p x=true):p.ok τ w I v:=by
 cases p with
 | cur=>cases hp| gen=>cases hp| int lo hi=>
  cases x <;> simp only[AS.mat,Bool.false_eq_true]at hm
  split at hm
  .
   rename_i l r hr;simp only[zC0,zE3]at hm;obtain⟨n,rfl,h1,h2⟩:=iJ h hx hs hr;exact⟨n,rfl,by omega,by omega⟩
  .
   cases hm
 | bool=>
  cases x <;> simp only[AS.mat,Bool.false_eq_true]at hm
  rename_i y;cases y <;> simp at hm
  .
   exact⟨_,hx⟩
  .
   obtain⟨b,e,_⟩:=hx;exact⟨b,e⟩
 | str=>
  cases x <;> simp only[AS.mat,Bool.false_eq_true]at hm
  rename_i y;cases y <;> simp at hm
  exact hx
 | sl k lo hi=>
  cases x <;> simp only[AS.mat,Bool.false_eq_true]at hm
  exact lW h hx hs hm
 | rc t=>
  cases x <;> simp only[AS.mat,Bool.false_eq_true]at hm
  .
   simp only[beq_iff_eq]at hm;subst hm;exact hx
  .
   obtain⟨vs,e,h1⟩:=hx;exact⟨vs,e,sO h h1 hs hm⟩
 | un=>
  obtain⟨h1,h2⟩:=h0 rfl;cases x with
  | c y=>
   cases y with
   | sl s=>
    simp only[AS.mat]at hm;split at hm
    .
     rename_i f hf;simp only[zC0]at hm;obtain⟨a1,_,_,_,a5,_⟩:=h.sy s f hf (hs s A18);rw[Rs.eq_eq hm.1]at a1;have hv:v=V.ρ s:=hx;rw[hv];refine⟨a1, ?_⟩;have:=a5 hm.2;rw[h2]at this;rw[hI];exact(h1.on h.fr Jl).1 this
    .
     cases hm
   | _=>simp[AS.mat]at hm
  | _=>simp[AS.mat]at hm
 | fa=>
  obtain⟨h1,h2⟩:=h0 rfl;cases x with
  | c y=>
   cases y with
   | sl s=>
    cases s with
    | succ s=>simp[AS.mat]at hm| zero=>
     have hv:v=V.ρ 0:=hx;rw[hv];exact⟨hI.symm,h1.fa.sub h.fr.sub⟩
   | _=>simp[AS.mat]at hm
  | _=>simp[AS.mat]at hm
theorem sA (h:Kn C U A S B X τ V w)(Jl:TH C.τ0 C.w0){I:Inp}(hI:I.fa=V.ρ 0):∀{ps:List CP} {xs:List Operand},ps.all mX=true->(∀p ∈ ps,qP p=true->Us0 G C A S V w/\U=Us (V.ρ 0) C.w0)->(∀x ∈ xs,Opd A S B X τ V a x)->A.mats ps (evs A xs)=true->aCu τ w I ps (xs.map a.eval)
 | [],[],_,_,_,_=>rfl| [],_ :: _,_,_,_,h9=>by cases h9
 | _ :: _,[],_,_,_,h9=>by cases h9
 | p :: ps,x :: xs,hp,h0,ho,hm=>by
  simp only[List.all_cons,zC0]at hp;simp only[evs,AS.mats,zC0]at hm;obtain⟨q1,q2,_⟩:=ho x A9;exact⟨a.eval x,xs.map a.eval,rfl,aPb h Jl hI hp.1 (h0 p A9) q1 q2 hm.1,sA h Jl hI hp.2 (fun p hp=>h0 p (by simp[hp])) (fun y hy=>ho y (by simp[hy])) hm.2⟩
theorem aO4 (h:Kn C U A S B X τ V w){I:Inp}(hI:I.fa=V.ρ 0){r:RP}(hix:aM0 r=true->S 0){v:Value}{st:Bool}(hst:C.st=true->st=true)(hr:r.ok st τ' w.heap.size I v)(hn:∀q,q<(r.out A.sy.length).ns.length->¬S (A.sy.length+q)):
  ∃V':Vl,(∀s,S s->V'.ρ s=V.ρ s)/\V'.β=V.β/\V'.ι=V.ι/\(∀q f,at? (r.out A.sy.length).ns q=some f->f.ok C U τ' V' (V'.ρ (A.sy.length+q)))/\(r.out A.sy.length).r.ok τ' V' v:=by
 have slf:∀(k:Rs) (lo hi:Nat) (own:Bool) (u:Value) (V':Vl),SVb τ' k lo hi u->(own=true->st=true->∀g,u.ownBlock=some g->w.heap.size<=g)->(sf k lo hi own).ok C U τ' V' u:=fun k lo hi own u V' h1 h2=>⟨h1.1,h1.2.1,h1.2.2,(fun ho hC g hg=>zF2 h.fr.size (h2 ho (hst hC) g hg)),(fun h9=>by cases h9),(fun h9=>by cases h9),(fun s h9=>by cases h9)⟩;have one:∀(k:Rs) (lo hi:Nat) (own:Bool) (u:Value),SVb τ' k lo hi u->(own=true->st=true->∀g,u.ownBlock=some g->w.heap.size<=g)->(∀q,q<1->¬S (A.sy.length+q))->(∀s,S s->(V.add A.sy.length [u]).ρ s=V.ρ s)/\(V.add A.sy.length [u]).ρ A.sy.length=u/\∀q f,at? [sf k lo hi own] q=some f->f.ok C U τ' (V.add A.sy.length [u]) ((V.add A.sy.length [u]).ρ (A.sy.length+q)):=by
  intro k lo hi own u h1 h2 Jk;have hV:(V.add A.sy.length [u]).ρ A.sy.length=u:=Vl.add_at (q:=0) rfl;refine⟨iD (fun q hq=>Jk q A56),hV,fun q f hq=>?_⟩;cases q with
  | succ q=>simp[at?]at hq| zero=>
   simp only[at?,zG2]at hq;subst hq;rw[zG1,hV];exact slf k lo hi own u _ h1 h2
 have none:∀q f,at? ([]:List SF) q=some f->f.ok C U τ' V (V.ρ (A.sy.length+q)):=fun q f hq=>by simp[at?]at hq
 cases r with
 | int lo hi=>exact⟨V,fun _ _=>rfl,rfl,rfl,none,hr⟩
 | bool=>obtain⟨b,rfl⟩:=hr;exact⟨V,fun _ _=>rfl,rfl,rfl,none,eR V b⟩
 | sl k lo hi=>
  obtain⟨h1,h2,h3⟩:=one k lo hi true v hr.1 (fun _=>hr.2) hn;exact⟨_,h1,rfl,rfl,h3,h2.symm⟩
 | rc t=>exact⟨V,fun _ _=>rfl,rfl,rfl,none,hr⟩
 | tb t=>obtain⟨vs,b,rfl,h1⟩:=hr;exact⟨V,fun _ _=>rfl,rfl,rfl,none,vs,_,rfl,h1,eR V b⟩
 | ts t k lo hi=>
  obtain⟨vs,u,rfl,h1,h2,h3⟩:=hr;obtain⟨a1,a2,a3⟩:=one k lo hi true u h2 (fun _=>h3) hn;exact⟨_,a1,rfl,rfl,a3,vs,u,rfl,h1,a2.symm⟩
 | ixf=>
  obtain⟨x,rfl,h1⟩:=hr;rw[hI]at h1;exact⟨V,fun _ _=>rfl,rfl,rfl,none,x,rfl,by omega⟩
 | num=>
  obtain⟨x,y,rfl,h1,h2⟩:=hr;exact⟨V,fun _ _=>rfl,rfl,rfl,none,_,rfl,_,_,rfl,⟨x,rfl,h1.1,h1.2⟩,_,_,rfl,⟨y,rfl,h2.1,h2.2⟩,_,_,rfl,rfl,_,_,rfl,rfl,_,_,rfl,rfl,rfl⟩
 | vr=>
  obtain⟨x,y,u,rfl,h1,h2,h3⟩:=hr;obtain⟨a1,a2,a3⟩:=one .bt 0 4 false u h3 (fun h9=>by cases h9) hn;exact⟨_,a1,rfl,rfl,a3,_,rfl,_,_,rfl,⟨x,rfl,h1.1,h1.2⟩,_,_,rfl,⟨y,rfl,h2.1,h2.2⟩,_,_,rfl,rfl,_,_,rfl,a2.symm,_,_,rfl,rfl,rfl⟩
 | ti t=>obtain⟨vs,x,rfl,h1,h2⟩:=hr;exact⟨V,fun _ _=>rfl,rfl,rfl,none,vs,_,rfl,h1,x,rfl,h2.1,h2.2⟩
 | t3 k lo hi=>exact⟨V,fun _ _=>rfl,rfl,rfl,none,trivial⟩
theorem aJ2 (h:Kn C U A S B X τ V w)(Vq:C.st=G.st)(Jl:TH C.τ0 C.w0)(hG:∀k ∈ G.cons,ConOk k)(h0:G.us=true->Us0 G C A S V w/\U=Us (V.ρ 0) C.w0)(Ad:∀b c,A.gen b=true->B b->at? A.bk c=some .cur->B c->V.β c<V.β b){c:Call}{f:Nat}{u:Out}(hc:c.callee=.value (.func f))(hf:has f FS=true)(hx:∀x ∈ c.args.toList,Opd A S B X τ V a x):∀(cs:List Con),(∀k ∈ cs,ConOk k)->nI A G.st G.us f (evs A c.args.toList) cs=some u->(∀q,q<u.ns.length->¬S (A.sy.length+q))->dD C U A ⟨d,.call c,ty,pos,aft,gd⟩ u S B X τ V a w
 | [],_,hu,_=>by cases hu
 | k :: cs,hk,hu,hn=>by
  simp only[nI]at hu;split at hu
  .
   rename_i hh;simp only[zC0,beq_iff_eq,Bool.or_eq_true,Bool.not_eq_true']at hh;obtain⟨⟨⟨⟨⟨rfl,hst⟩,Jv⟩,hhead⟩,Uh⟩,hm⟩:=hh;cases hu;have hko:=hk k A9;have Dp:k.tg=true->Tg τ:=fun h9=>h.tg (by rcases Jv with h8|h8;exact h8;rw[h9]at h8;cases h8);have hCst:C.st=true->k.st=true:=fun e=>by
    rcases hst with h9|h9
    .
     exact h9
    .
     rw[Vq,h9]at e;cases e
   have hus0:∀p ∈ k.args,qP p=true->Us0 G C A S V w/\U=Us (V.ρ 0) C.w0:=fun p hp hpu=>by
    rcases Uh with h9|h9
    .
     exact h0 h9
    .
     exfalso;have:k.args.any qP=true:=List.any_eq_true.2 ⟨p,hp,hpu⟩;rw[this]at h9;simp at h9
   have hix:aM0 k.res=true->S 0:=fun hi=>by
    rcases Uh with h9|h9
    .
     exact(h0 h9).1.s0
    .
     rw[hi]at h9;simp at h9
   have hnU:(k.res.out A.sy.length).up=none/\(k.res.out A.sy.length).nb=none/\(k.res.out A.sy.length).nc=[]:=by cases k.res <;> exact⟨rfl,rfl,rfl⟩
   have fin:∀(I:Inp),I.fa=V.ρ 0->k.Env τ w I->aCu τ w I k.args (c.args.toList.map a.eval)->(∀g ∈ k.K I,g<C.w0.heap.size->g ∈ C.K)->(∀τ' w',Fr ⟨k.st,k.K I,τ,w⟩ τ' w'->k.After w' I->∀n x,B n->at? A.bk n=some x->x.ok V w' (V.β n))->dD C U A ⟨d,.call c,ty,pos,aft,gd⟩ { k.res.out A.sy.length with br:=!k.st,nq:=!k.st,nt:=true,nm:=bH k.args } S B X τ V a w:=by
    intro I hI hE hA hK Nd;refine dD.call hc hf ?_;have e9:c.args.map a.eval=(c.args.toList.map a.eval).toArray:=by
     apply Array.toList_inj.1;simp
    rw[e9];refine(hko τ w I _ h.fr.th Dp hE hA).mono ?_;rintro e w' ⟨v,τ',rfl,fr,Yp,Vm,Cb⟩;obtain⟨V',p1,p2,p3,p4,p5⟩:=aO4 (C:=C) (U:=U) h hI hix hCst Cb hn;exact⟨v,τ',V',rfl,Res.call h hCst fr hK (fun h9=>by simpa using h9) (fun h9 h10=>Yp (by simpa using h9) h10) hnU.1 hnU.2.1 hnU.2.2 p1 p2 (fun c _=>by rw[p3]) p4 p5 (Nd τ' w' fr Vm)⟩
   have curOn:∀(K:List Nat) (τ':Sm) (w':World),Fr ⟨k.st,K,τ,w⟩ τ' w'->∀n,B n->at? A.bk n=some .cur->(∀q,q<=V.β n->q ∉ K)->Cur w' (V.β n):=fun K τ' w' fr n Ib Iq hnk=>by
    obtain⟨b1,b2,b3,_⟩:=h.bk n _ Iq Ib;refine Cur.on b1 fun q hq=>?_;rcases Nat.lt_or_eq_of_le hq with h9|h9
    .
     exact fr.blk q (by show q<w.heap.size;omega) ((h.lo n Iq Ib).2 q h9).1 (hnk q hq)
    .
     subst h9;exact fr.blk _ b3 b2 (hnk _ hq)
   have plain:(bH k.args=false/\eO k.args=false)->(∀I:Inp,I.fa=V.ρ 0->aCu τ w I k.args (c.args.toList.map a.eval))->dD C U A ⟨d,.call c,ty,pos,aft,gd⟩ { k.res.out A.sy.length with br:=!k.st,nq:=!k.st,nt:=true,nm:=bH k.args } S B X τ V a w:=by
    rintro⟨hg1,hg2⟩ hA;have hKe:k.K ⟨0,0,V.ρ 0,.bool true,.bool true,.bool true,.bool true,.bool true,.bool true,true⟩=[]:=by unfold Con.K;rw[hg1,hg2];rfl
    refine fin ⟨0,0,V.ρ 0,.bool true,.bool true,.bool true,.bool true,.bool true,.bool true,true⟩ rfl ⟨(fun h9=>by rw[hg1]at h9;cases h9),(fun h9=>by rw[hg2]at h9;cases h9)⟩ (hA _ rfl) (by rw[hKe];intro g hg;cases hg) (fun τ' w' fr _ n x Ib Iq=>?_);rw[hKe]at fr;cases x with
    | cur=>exact curOn [] τ' w' fr n Ib Iq (fun q _=>by simp)
    | cells T l=>exact oO h fr Ib Iq A9
   have inK:∀n x,at? A.bk n=some x->B n->V.β n<C.w0.heap.size->V.β n ∈ C.K:=fun n x Gh Yw hlt'=>by
    obtain⟨_,_,_,h9⟩:=h.bk n x Gh Yw;rcases h9 with h9|h9
    .
     exact h9
    .
     omega
   obtain⟨ka,Ka⟩:∃l,k.args=l:=⟨_,rfl⟩
   cases ka with
   | nil=>
    rw[Ka]at hm;exact plain ⟨by rw[Ka];rfl,by rw[Ka];rfl⟩ (fun I hI=>by rw[Ka];exact sA (G:=G) h Jl hI rfl (fun p hp=>by cases hp) hx hm)
   | cons p ps=>
    rw[Ka]at hm hhead;obtain⟨ca,hca⟩:∃l,c.args.toList=l:=⟨_,rfl⟩
    rw[hca]at hm hx;cases ca with
    | nil=>cases hm| cons x0 xs=>
     have hps:ps.all mX=true:=hhead;have hus':∀q ∈ ps,qP q=true->Us0 G C A S V w/\U=Us (V.ρ 0) C.w0:=fun q hq=>hus0 q (by rw[Ka];simp[hq]);by_cases Yt:mX p=true
     .
      refine plain ⟨by rw[Ka];cases p <;> first|rfl|(cases Yt),by rw[Ka];cases p <;> first|rfl|(cases Yt)⟩ (fun I hI=>?_);rw[Ka,hca];exact sA h Jl hI (by simp[Yt,hps]) (fun q hq=>hus0 q (by rw[Ka];exact hq)) hx hm
     .
      simp only[evs,AS.mats,zC0]at hm;obtain⟨q1,q2,q3,_⟩:=hx x0 A9;have Fs:∀I:Inp,I.fa=V.ρ 0->aCu τ w I ps (xs.map a.eval):=fun I hI=>sA h Jl hI hps hus' (fun y hy=>hx y (by simp[hy])) hm.2;cases p with
      | cur=>
       have Ew:=hm.1;cases hav:A.ev x0 with
       | c y=>
        rw[hav]at Ew q1 q3;cases y with
        | ptr b o=>
         cases o with
         | succ o=>simp[AS.mat]at Ew| zero=>
          have Ec:at? A.bk b=some .cur:=by
           simp only[AS.mat]at Ew;split at Ew
           .
            rename_i e;exact e
           .
            cases Ew
          have Zi:B b:=q3 b A55;obtain⟨b1,b2,b3,_⟩:=h.bk b _ Ec Zi;have hKe:k.K ⟨V.β b,0,V.ρ 0,.bool true,.bool true,.bool true,.bool true,.bool true,.bool true,true⟩=[V.β b]:=by unfold Con.K;rw[Ka];rfl
          refine fin ⟨V.β b,0,V.ρ 0,.bool true,.bool true,.bool true,.bool true,.bool true,.bool true,true⟩ rfl ⟨(fun h9=>by rw[Ka]at h9;cases h9),fun _=>⟨b1,b2,fun g hg=>((h.lo b Ec Zi).2 g hg).1⟩⟩ (by rw[Ka,hca];exact⟨_,_,rfl,q1,Fs _ rfl⟩) (by rw[hKe];intro g hg Fh;rw[List.mem_singleton.1 hg]at Fh ⊢;exact inK b _ Ec Zi Fh) (fun τ' w' fr Vm n x Ib Iq=>?_);rw[hKe]at fr;cases x with
          | cur=>
           have e1:=h.cu n Iq;have e2:=h.cu b Ec;subst e1 e2;exact Vm.cur (by rw[Ka];rfl)
          | cells T l=>exact oO h fr Ib Iq (by
            simp only[List.mem_singleton];exact h.dj n b _ _ Iq Ec Ib Zi (by rintro rfl;rw[Ec]at Iq;cases Iq))
        | _=>simp[AS.mat]at Ew
       | _=>rw[hav]at Ew;simp[AS.mat]at Ew
      | gen=>
       have Ew:=hm.1;obtain⟨hu0,hU⟩:=hus0 .gen (by rw[Ka];simp) rfl;cases hav:A.ev x0 with
       | c y=>
        rw[hav]at Ew q1 q3;cases y with
        | ptr b o=>
         cases o with
         | succ o=>simp[AS.mat]at Ew| zero=>
          have hgen:A.gen b=true:=Ew;have Zi:B b:=q3 b A55;subst hU;obtain⟨I,c',i1,i2,Gn,hBc,i3,hGen,nv,vv,pv,iv,av,Jd,⟨g1,g2,g3,g4,g5⟩,i4⟩:=aQo h hu0 Jl Zi hgen (fun c9 h9 h10=>Ad b c9 hgen Zi h9 h10);have hKe:k.K I=[I.cb,I.gb]:=by unfold Con.K;rw[Ka];rfl
          refine fin I i3 ⟨fun _=>hGen,(fun h9=>by rw[Ka]at h9;cases h9)⟩ (by
           rw[Ka,hca];refine⟨_,_,rfl, ?_,Fs _ i3⟩;show a.eval x0=_
           rw[i1];exact q1) (by
           rw[hKe];intro g hg Fh;rcases zG3.1 hg with rfl|hg
           .
            rw[i2]at Fh ⊢;exact inK c' _ Gn hBc Fh
           .
            rw[List.mem_singleton.1 hg,i1]at Fh ⊢;exact inK b _ Jd Zi Fh) (fun τ' w' fr Vm n x Ib Iq=>?_)
          rw[hKe]at fr;obtain⟨a1,left,cm,a2,a3⟩:=Vm.gen (by rw[Ka];rfl);cases x with
          | cur=>
           have e1:=h.cu n Iq;have e2:=h.cu c' Gn;subst e1 e2;rw[<-i2];exact a1
          | cells T l=>
           by_cases Ba:n=b
           .
            subst Ba;rw[Jd]at Iq;simp only[zG2,Bk.cells.injEq]at Iq;obtain⟨rfl,rfl⟩:=Iq;rw[<-i1];refine⟨_,a3, ?_⟩;exact⟨_,_,rfl,by show Value.pointer _=Value.pointer _;rw[i2],_,_,rfl,i3,_,_,rfl,g1,_,_,rfl,i4,_,_,rfl,g2,_,_,rfl,g3,_,_,rfl,g4,_,_,rfl,g5,_,_,rfl,⟨1,rfl,Int.le_refl _,Int.le_refl _⟩,_,_,rfl,⟨left,rfl,a2.1,a2.2⟩,_,_,rfl,eR V cm,rfl⟩
           .
            refine oO h fr Ib Iq ?_;simp only[zG3,List.not_mem_nil,or_false,not_or];refine⟨?_, ?_⟩
            .
             rw[i2];exact h.dj n c' _ _ Iq Gn Ib hBc (by rintro rfl;rw[Gn]at Iq;cases Iq)
            .
             rw[i1];exact h.dj n b _ _ Iq Jd Ib Zi Ba
        | _=>simp[AS.mat]at Ew
       | _=>rw[hav]at Ew;simp[AS.mat]at Ew
      | _=>exact absurd rfl Yt
  .
   exact aJ2 h Vq Jl hG h0 Ad hc hf hx cs (fun k Ur=>hk k (by simp[Ur])) hu hn
end
end Eg
end
section
theorem A15{p:Prop}(h:p:=by simp[Op.operands]):p:=h
theorem A59{p:Prop}(h:p:=by simp only[Op.operands,zE1];exact⟨p,hp',rfl⟩):p:=h
namespace Eg
section
variable {C:Cx} {U:Value->Prop} {G:Cfg} {A:AS} {S B X:Nat->Prop} {τ τ':Sm} {V V':Vl} {a:Act} {w w':World} {d:Option Nat} {ty:TypeId} {pos:String} {aft:Array Edge} {gd:Option (Nat × Bool)}
structure Ctx (C:Cx) (U:Value->Prop) (G:Cfg) (A:AS) (S B:Nat->Prop) (V:Vl) (w:World):Prop where
 st:C.st=G.st
 th:TH C.τ0 C.w0
 con:∀k ∈ G.cons,ConOk k
 us:G.us=true->Us0 G C A S V w/\U=Us (V.ρ 0) C.w0
 lt:∀b c,A.gen b=true->B b->at? A.bk c=some .cur->B c->V.β c<V.β b
theorem Ctx.usOk (h:Kn C U A S B X τ V w)(hC:Ctx C U G A S B V w):aVj G U V w:=fun hg b j n c i v e hi hc=>by
 obtain⟨h1,h2⟩:=hC.us hg;rw[h2];exact h1.useW h.fr hC.th b j n c i v e hi hc
theorem aNe {l:List Operand}{p q:AV}(h:evs A l=[p,q]):∃x0 x1,l=[x0,x1]/\A.ev x0=p/\A.ev x1=q:=by
 match l,h with
 | [x0,x1],h=>simp only[evs,zJ3,and_true]at h;exact⟨x0,x1,rfl,h.1,h.2⟩
theorem aL0 {p:AV}(h:A.mat .cur p=true):∃b,p=.c (.ptr b 0)/\at? A.bk b=some .cur:=by
 cases p with
 | c x=>
  cases x with
  | ptr b o=>
   cases o with
   | zero=>
    refine⟨b,rfl, ?_⟩;simp only[AS.mat]at h;split at h
    .
     assumption
    .
     cases h
   | succ o=>simp[AS.mat]at h
  | _=>simp[AS.mat]at h
 | _=>simp[AS.mat]at h
theorem aHd (h:Kn C U A S B X τ V w)(hC:Ctx C U G A S B V w){c:Call}{f:Nat}{u:Out}(hc:c.callee=.value (.func f))(hx:∀x ∈ c.args.toList,Opd A S B X τ V a x)(hu:aFo G A f (evs A c.args.toList)=some u)(hn:∀q,q<u.ns.length->¬S (A.sy.length+q))(hnX:u.nx=true->¬X A.ni):dD C U A ⟨d,.call c,ty,pos,aft,gd⟩ u S B X τ V a w:=by
 unfold aFo at hu;split at hu
 .
  cases hu
 .
  rename_i hf;have hf':has f FS=true:=by simpa using hf
  split at hu
  .
   rename_i hb;have Em:f=26:=by simpa using hb
   subst Em;split at hu
   .
    rename_i p x exs;obtain⟨x0,x1,el,e0,e1⟩:=aNe exs;have Gg:=hx x0 (by rw[el];simp);have Gd:=hx x1 (by rw[el];simp);split at hu
    .
     rename_i hm;obtain⟨b,rfl,Ec⟩:=aL0 hm;have v0:=Gg.1;have b0:=Gg.2.2.1;rw[e0]at v0 b0;have hB:B b:=b0 b A55;have v1:=Gd.1;have s1:=Gd.2.1;rw[e1]at v1 s1;have v1c:CV.ok V x (a.eval x1):=v1;split at hu
     .
      rename_i s k lo hi hr;split at hu
      .
       rename_i hh;simp only[zC0,zE3]at hh;obtain⟨n,en,h1,h2⟩:=iJ h v1c s1 hr;have Xc:a.eval x1=.int .i64 ((ln (V.ρ s):Int)-k):=v1;simp only[zG2]at hu;split at hu
       .
        subst hu;refine rY h hB Ec hc el v0 Xc (by rw[en]at Xc;cases Xc;omega) ⟨rfl,rfl,rfl,rfl,rfl⟩ (fun x Gg Gd _=>⟨V.ι,fun _ _=>rfl,fun τ=>?_⟩);rw[en]at Xc;cases Xc;have:=Gd A0;exact⟨x.toNat,by rw[Int.toNat_of_nonneg Gg],by show _<ln (V.ρ s);omega⟩
       .
        subst hu;have hX:=hnX rfl;refine rY h hB Ec hc el v0 Xc (by rw[en]at Xc;cases Xc;omega) ⟨rfl,rfl,rfl,rfl,rfl⟩ (fun x Gg Gd _=>⟨fun c=>if c=A.ni then x.toNat else V.ι c,fun c hc=>if_neg (by rintro rfl;exact hX hc),fun τ=>?_⟩);rw[en]at Xc;cases Xc;have:=Gd A0;refine⟨?_, ?_⟩
        .
         show Value.int .i64 x=.int .i64 ((if A.ni=A.ni then x.toNat else V.ι A.ni:Nat):Int)
         rw[if_pos rfl,Int.toNat_of_nonneg Gg]
        .
         show(if A.ni=A.ni then x.toNat else V.ι A.ni)+k<ln (V.ρ s)
         rw[if_pos rfl];omega
      .
       cases hu
     .
      rename_i lo hi _ hr;split at hu
      .
       rename_i hh;simp only[zE3]at hh;cases hu;obtain⟨n,en,h1,h2⟩:=iJ h v1c s1 hr;refine rY h hB Ec hc el v0 en A0 ⟨rfl,rfl,rfl,rfl,rfl⟩ (fun x Gg Gd Mm=>⟨V.ι,fun _ _=>rfl,fun τ=>⟨x,rfl,Gg, ?_⟩⟩);split
       .
        rename_i h9;simp only[zE3]at h9;rcases Int.lt_or_le 0 n with h8|h8
        .
         have:=Gd h8;omega
        .
         have:=Mm h8;omega
       .
        rename_i h9;simp only[zE3]at h9;have:=Mm A0;omega
      .
       cases hu
     .
      cases hu
    .
     cases hu
   .
    cases hu
  .
   exact aJ2 h hC.st hC.th hC.con hC.us hC.lt hc hf' hx G.cons hC.con hu hn
theorem aSz (h:Kn C U A S B X τ V w)(hS:aI9 V S)(hC:Ctx C U G A S B V w){o:Oper}{u:Out}(hu:bR G A o=some u)(hp:∀x y z,o.op ≠ .pick x y z)(hx:∀x ∈ o.op.operands.toList,Opd A S B X τ V a x)(hcf:u.cu=true->∀c ∈ A.cf,c.ok V w)(hn:∀q,q<u.ns.length->¬S (A.sy.length+q))(hnX:u.nx=true->¬X A.ni)(Ll:¬B A.bk.length):dD C U A o u S B X τ V a w:=by
 obtain⟨d,op,ty,pos,aft,gd⟩:=o;cases op with
 | move x=>cases hu;exact aLq h (hx x A15)| assign x=>cases hu;exact aDz h (hx x A15)| nilCheck x=>exact wW h (hx x A15) hu| fieldAddr T x f=>exact uH h (hx x A15) hu| load T x=>exact aLr h (Ctx.usOk h hC) (hx x A15) hu hcf hn| store T x y=>exact aHb h hS hC.st (hx x A15) (hx y A15) hu hn| build T ps=>exact aHe h hS (fun p hp'=>hx p.2 A59) hu
 | buildSlice T n ps=>exact rX h (fun p hp'=>hx p.2 A59) hu hn
 | alloc T=>exact zL h hu Ll| box T x=>exact aO9 h hS (hx x A15) hu Ll hn| binOp op T x y T'=>exact aHf h (hx x A15) (hx y A15) hu| unOp op T x=>exact aLo h (hx x A15) hu| pick x y z=>exact absurd rfl (hp x y z)| convert T D x=>exact aBq h hC.st (hx x A15) hu hn| extract x i=>exact aBp h (hx x A15) hu| indexAddr T x i=>exact uG h (hx x A15) (hx i A15) hu hnX| slice T x lo hi m=>
  cases lo with
  | none=>
   cases hi with
   | none=>cases hu| some hi=>
    cases m with
    | some _=>cases hu| none=>exact aDy h (hx x A15) (hx hi A15) hu hn
  | some lo=>
   cases hi with
   | some _=>cases hu| none=>
    cases m with
    | some _=>cases hu| none=>exact aHc h (hx x A15) (hx lo A15) hu hn
 | call c=>
  have Gh:∀x ∈ c.args.toList,Opd A S B X τ V a x:=fun x hx9=>hx x (by simp only[Op.operands,Call.operands,Array.toList_append,List.mem_append];exact .inr hx9);obtain⟨cal,Nm⟩:∃y,c.callee=y:=⟨_,rfl⟩
  cases cal with
  | value g=>
   cases g with
   | func f=>
    simp only[bR,Nm]at hu;exact aHd h hC Nm Gh hu hn hnX
   | _=>simp[bR,Nm]at hu
  | builtin b=>
   cases b with
   | len=>exact aO8 h hS Nm Gh hu| append=>exact aD0 h hC.st Nm Gh hu hn| _=>simp[bR,Nm]at hu
  | _=>simp[bR,Nm]at hu
 | _=>cases hu
end
end Eg
end
section
namespace Eg
structure vU (G:Cfg) (ops:List Oper) (ms:List Nat) (B:AS) (is:List Ri) (i:Nat) (o:Oper) (A:AS) (u:Out) (st:Option Bool) (A':AS) (ri:Ri):Prop where
 edge:lR i o.after.toList=true
 gbit:oM ms i o.guard=true
 look:zW ops ms is i o=true
 gst:xM ops A is o=some st
 lay:A'=A.lay o.dst u
 no:st=some false->u={ r:=.c .und }/\ri=Ri.of true false u
 yes:st ≠ some false->∃u0,aGq G ops B A i o=some u0/\(st=none->aRm u0=true)/\u=noNc (xH st) (trim A B.sy.length o u0)/\ri=Ri.of (aRo A o) (xH st) u0
theorem cO {α:Type}{l r:List α}{n:Nat}:at? (l++r) n=if n<l.length then at? l n else at? r (n-l.length):=by
 rw[dP,dP,dP];exact List.getElem?_append
theorem tY {G:Cfg}{ops:List Oper}{ms:List Nat}{B F:AS}{I:List Ri}:∀(r:List Oper) (i:Nat) (A:AS) (is:List Ri),is.length=i->tZ G ops ms B i r A is=some (F,I) →
  ∃(f:Nat->AS) (g:Nat->Out) (st:Nat->Option Bool),f i=A/\f (i+r.length)=F/\I.take i=is/\I.length=i+r.length/\∀k o,r[k]?=some o->∃ri,I[i+k]?=some ri/\vU G ops ms B (I.take (i+k)) (i+k) o (f (i+k)) (g (i+k)) (st (i+k)) (f (i+k+1)) ri
 | [],i,A,is,hl,h=>by
  simp only[tZ,zG2,Prod.mk.injEq]at h;obtain⟨rfl,rfl⟩:=h;exact⟨fun _=>A,fun _=>{ r:=.c .und },fun _=>none,rfl,rfl,by rw[<-hl];exact List.take_length,by simp[hl],fun k o hk=>by simp at hk⟩
 | o :: r,i,A,is,hl,h=>by
  have go:∀(u:Out) (st0:Option Bool) (ri0:Ri),tZ G ops ms B (i+1) r (A.lay o.dst u) (is++[ri0])=some (F,I)->vU G ops ms B is i o A u st0 (A.lay o.dst u) ri0->∃(f:Nat->AS) (g:Nat->Out) (st:Nat->Option Bool),f i=A/\f (i+(o :: r).length)=F/\I.take i=is/\I.length=i+(o :: r).length/\∀k o',(o :: r)[k]?=some o'->∃ri,I[i+k]?=some ri/\vU G ops ms B (I.take (i+k)) (i+k) o' (f (i+k)) (g (i+k)) (st (i+k)) (f (i+k+1)) ri:=by
   intro u st0 ri0 hr hs;obtain⟨f,g,st,h1,h2,h3,h4,h5⟩:=tY r (i+1) _ _ (by simp[hl]) hr;have h3':I.take i=is:=by
    have:=congrArg (List.take i) h3;rw[List.take_take,Nat.min_eq_left A0,<-hl,List.take_left']at this
    .
     rw[hl]at this;exact this
    .
     rfl
   refine⟨fun k=>if k=i then A else f k,fun k=>if k=i then u else g k,fun k=>if k=i then st0 else st k,by simp, ?_,h3',by rw[h4,zB1];omega,fun k o' hk=>?_⟩
   .
    show(if i+(r.length+1)=i then A else f (i+(r.length+1)))=F
    rw[if_neg A0,show i+(r.length+1)=i+1+r.length by omega];exact h2
   .
    cases k with
    | zero=>
     simp only[List.getElem?_cons_zero,zG2]at hk;subst hk;refine⟨ri0, ?_, ?_⟩
     .
      have h9:(I.take (i+1))[i]?=some ri0:=by rw[h3,List.getElem?_append_right A0,hl];simp
      rw[List.getElem?_take]at h9;simpa using h9
     .
      simp only[zG1,h3',if_true,if_neg (show ¬i+1=i by omega),h1];exact hs
    | succ k=>
     rw[List.getElem?_cons_succ]at hk;obtain⟨ri,q1,q2⟩:=h5 k o' hk;rw[show i+1+k=i+(k+1) by omega]at q1 q2;refine⟨ri,q1, ?_⟩;simp only[if_neg (show ¬i+(k+1)=i by omega),if_neg (show ¬i+(k+1)+1=i by omega)];exact q2
  simp only[tZ]at h;split at h
  .
   rename_i hc;simp only[zC0]at hc;split at h
   .
    rename_i hg;exact go _ (some false) _ h ⟨hc.1.1,hc.1.2,hc.2,hg,rfl,fun _=>⟨rfl,rfl⟩,fun h9=>absurd rfl h9⟩
   .
    rename_i st0 Ae hg;simp only[Option.bind_eq_some_iff]at h;obtain⟨u0,hu,h⟩:=h;split at h
    .
     rename_i hs;simp only[Bool.or_eq_true,Bool.not_eq_true']at hs;refine go _ st0 _ h ⟨hc.1.1,hc.1.2,hc.2,hg,rfl,fun h9=>?_,fun _=>⟨u0,hu,fun h9=>?_,rfl,rfl⟩⟩
     .
      subst h9;exact absurd rfl Ae
     .
      subst h9;exact hs.resolve_left (by simp[xH])
    .
     cases h
   .
    cases h
  .
   cases h
section
variable {C:Cx} {U:Value->Prop} {G:Cfg} {A:AS} {S B X:Nat->Prop} {τ τ':Sm} {V V':Vl} {a:Act} {w w':World} {v:Value}
theorem lK (n:Nat)(o:Oper)(u:Out)(b:Bool):(noNc b (trim A n o u)).ns=u.ns/\(noNc b (trim A n o u)).nb=u.nb/\(noNc b (trim A n o u)).up=u.up/\(noNc b (trim A n o u)).nx=u.nx/\(noNc b (trim A n o u)).nq=u.nq/\(noNc b (trim A n o u)).br=u.br:=by
 unfold noNc trim;split <;> split <;> exact⟨rfl,rfl,rfl,rfl,rfl,rfl⟩
theorem aOc {n:Nat}{o:Oper}{u:Out}(h:u.r.ok τ V v)(b:Bool):(noNc b (trim A n o u)).r.ok τ V v:=by
 have h1:(trim A n o u).r.ok τ V v:=by
  unfold trim;split
  .
   rename_i c x y z e1 e2;rw[e2]at h;show(aGk A n c z).ok V v
   unfold aGk;split
   .
    obtain⟨t,e,q1,q2⟩:=h;exact⟨t,e,fun ht c hc=>q1 ht c (List.mem_filter.1 hc).1,fun ht c hc=>q2 ht c (List.mem_filter.1 hc).1⟩
   .
    exact h
  .
   exact h
 unfold noNc;split
 .
  exact h1
 .
  exact h1
theorem aK4 {n:Nat}{o:Oper}{u:Out}{b:Bool}{c:Cf}(h:c ∈ (noNc b (trim A n o u)).nc):c ∈ u.nc:=by
 unfold noNc at h;split at h
 .
  cases h
 .
  unfold trim at h;split at h
  .
   exact h
  .
   exact h
theorem Res.trim {n:Nat}{o:Oper}{u:Out}(h:Res C U A u S B X τ V w v τ' V' w')(b:Bool):Res C U A (noNc b (trim A n o u)) S B X τ V w v τ' V' w':=by
 obtain⟨e1,e2,e3,e4,e5,e6⟩:=lK (A:=A) n o u b;exact⟨h.fr,h.sub,h.size,h.non,by rw[e5];exact h.qt,by rw[e6];exact h.tg,h.ρ,h.β,h.ι,by rw[e1];exact h.ns,aOc h.r b,by rw[e3];exact h.old,by rw[e3];exact h.up,by rw[e2];exact h.nb,fun c hc=>h.nc c (aK4 hc)⟩
end
end Eg
end
section
namespace Eg
theorem zA {a:Act}{t:Nat}(v:Value)(h:t<a.tmps.size):(a.put (some t) v).eval (.tmp t)=v:=by
 simp[Act.put,Act.eval,h]
theorem rR (a:Act)(d:Option Nat)(v:Value):(a.put d v).tmps.size=a.tmps.size:=by
 cases d <;> simp[Act.put]
theorem kF {a:Act}{d:Option Nat}{v:Value}{t:Nat}(h:d ≠ some t):(a.put d v).eval (.tmp t)=a.eval (.tmp t):=
 Act.eval_put fun q hq e=>h (by cases e;exact hq)
def yH (ops:Array Oper)(a:Act)(o:Oper):Prop:=∀g b,o.guard=some (g,b)->∃og t,ops[g]?=some og/\og.dst=some t/\a.eval (.tmp t)=.bool b
theorem yL {ops:Array Oper}{a:Act}{o:Oper}:Region.wanted o (yielded ops a.tmps)=true ↔ yH ops a o:=by
 unfold Region.wanted yH;cases hg:o.guard with
 | none=>simp| some p=>
  obtain⟨g,b⟩:=p;simp only[beq_iff_eq,zG2,Prod.mk.injEq,and_imp];constructor
  .
   rintro h _ _ rfl rfl;unfold yielded at h;cases ho:ops[g]? with
   | none=>rw[ho]at h;simp at h| some og=>
    cases hd:og.dst with
    | none=>rw[ho]at h;simp[hd]at h| some t=>
     refine⟨og,t,rfl,hd, ?_⟩;rw[ho]at h;simp only[Option.bind_some,hd]at h;cases ht:a.tmps[t]? with
     | none=>rw[ht]at h;simp at h| some v=>
      rw[ht]at h;simp only[Act.eval,Array.getD_eq_getD_getElem?,ht,zI0];cases v <;> simp_all
  .
   intro h;obtain⟨og,t,h1,h2,h3⟩:=h g b rfl rfl;unfold yielded;simp only[h1,Option.bind_some,h2];simp only[Act.eval,Array.getD_eq_getD_getElem?]at h3;cases ht:a.tmps[t]? with
   | none=>rw[ht]at h3;simp[undef]at h3| some v=>rw[ht]at h3;simp only[zI0]at h3;rw[h3]
theorem uL:∀(l:List Oper) (ms:List Nat),(lE ms l).length=ms.length+l.length
 | [],ms=>by simp[lE]
 | o :: l,ms=>by simp only[lE];rw[uL l];simp;omega
theorem pG:∀(l:List Oper) (ms:List Nat) (k:Nat),k<ms.length->at? (lE ms l) k=at? ms k
 | [],ms,k,_=>rfl| o :: l,ms,k,h=>by
  simp only[lE];rw[pG l _ k A12,cO,if_pos h]
theorem zU:∀(l:List Oper) (ms:List Nat) (q:Nat) (o:Oper),l[q]?=some o->∃ms',(∀k,k<ms.length+q->at? ms' k=at? (lE ms l) k)/\ms'.length=ms.length+q/\at? (lE ms l) (ms.length+q)=some (uN ms' o.after.toList)
 | [],_,_,_,h=>by simp at h
 | o :: l,ms,0,o',h=>by
  simp only[List.getElem?_cons_zero,zG2]at h;subst h;refine⟨ms,fun k hk=>?_,rfl, ?_⟩
  .
   simp only[lE];rw[pG l _ k A12,cO,if_pos A0]
  .
   simp only[lE];rw[pG l _ _ A9,cO,if_neg A0];simp[at?]
 | o :: l,ms,q+1,o',h=>by
  rw[List.getElem?_cons_succ]at h;obtain⟨ms',h1,h2,h3⟩:=zU l (ms++[uN ms o.after.toList]) q o' h;rw[zA1,List.length_singleton,show ms.length+1+q=ms.length+(q+1) by omega]at h1 h2 h3;exact⟨ms',h1,h2,h3⟩
theorem pH {ms:List Nat}{j:Nat}:∀{es:List Edge},(uN ms es).testBit j=true->∃e ∈ es,Region.binds .any e=true/\(e.on=j\/((at? ms e.on).getD 0).testBit j=true)
 | [],h=>by simp[uN]at h
 | e :: l,h=>by
  simp only[uN]at h;split at h
  .
   rename_i hb;rw[Nat.testBit_or,Nat.testBit_or,Bool.or_eq_true,Bool.or_eq_true,Nat.one_shiftLeft,Nat.testBit_two_pow]at h;rcases h with h|h|h
   .
    obtain⟨e',h1,h2⟩:=pH h;exact⟨e',by simp[h1],h2⟩
   .
    exact⟨e,by simp,hb,.inl A62⟩
   .
    exact⟨e,by simp,hb,.inr h⟩
  .
   obtain⟨e',h1,h2⟩:=pH h;exact⟨e',by simp[h1],h2⟩
theorem nF {i:Nat}:∀{es:List Edge},lR i es=true->∀e ∈ es,Region.binds .any e=true->e.on<i
 | [],_,e,h,_=>by cases h
 | e :: l,h,e',h',hb=>by
  simp only[lR,zC0,Bool.or_eq_true,Bool.not_eq_true',zE3]at h;rcases zG3.1 h' with rfl|h'
  .
   rcases h.1 with h9|h9
   .
    rw[hb]at h9;cases h9
   .
    exact h9
  .
   exact nF h.2 e' h' hb
theorem uM {l:List Oper}{i j:Nat}{o:Oper}(ho:l[i]?=some o)(he:lR i o.after.toList=true)(h:bit (lE [] l) i j=true):∃e ∈ o.after.toList,Region.binds .any e=true/\e.on<i/\(e.on=j\/bit (lE [] l) e.on j=true):=by
 obtain⟨ms',h1,h2,h3⟩:=zU l [] i o ho;simp only[zC3,zJ1]at h1 h2 h3;unfold bit at h;rw[h3]at h;obtain⟨e,q1,q2,q3⟩:=pH h;have q4:=nF he e q1 q2;refine⟨e,q1,q2,q4,q3.imp id fun h9=>?_⟩;unfold bit;rw[<-h1 e.on q4];exact h9
theorem aAj:∀(l:List Oper) (i k:Nat),k<l.length->at? (xO i l) k=some ((1 <<< (i+k))-1)
 | [],_,_,h=>by simp at h
 | _ :: l,i,0,_=>rfl| _ :: l,i,k+1,h=>by
  simp only[xO,at?];rw[aAj l (i+1) k A62,show i+1+k=i+(k+1) by omega]
theorem vA {l:List Oper}{i j:Nat}(h:bit (xO 0 l) i j=true):j<i:=by
 unfold bit at h;rcases zJ2 i l.length with hi|hi
 .
  rw[aAj l 0 i hi,zI0,zJ1,Nat.one_shiftLeft,Nat.testBit_two_pow_sub_one]at h;simpa using h
 .
  have h9:∀(l:List Oper) (q i:Nat),l.length<=i->at? (xO q l) i=none:=fun l=>by
   induction l with
   | nil=>intro q i _;cases i <;> rfl| cons o l ih=>intro q i h9;cases i with
    | zero=>simp at h9| succ i=>exact ih (q+1) i (by simpa using h9)
  rw[h9 l 0 i hi]at h;simp at h
section
variable {G:Cfg} {A:AS} {K:List Bk} {b:Bool}
theorem aOr (x:CV):AS.rng { A with bk:=K,tg:=b } x=A.rng x:=by cases x <;> rfl
theorem aE3 (f:Fd)(x:CV):AS.fit { A with bk:=K,tg:=b } f x=A.fit f x:=by
 cases f <;> cases x <;> rfl
theorem aE2:∀(l:List Fd) (r:List CV),AS.fits { A with bk:=K,tg:=b } l r=A.fits l r
 | [],[]=>rfl| [],_ :: _=>rfl| _ :: _,[]=>rfl| f :: l,x :: r=>by simp only[AS.fits];rw[aE3,aE2 l r]
theorem aM8 (k:Rs)(x:AV):AS.fitE { A with bk:=K,tg:=b } k x=A.fitE k x:=by
 cases k <;> cases x <;> first|rfl|(simp only[AS.fitE,aE2,aE3,aOr])
theorem aIt (x:Operand):AS.ev { A with bk:=K,tg:=b } x=A.ev x:=by cases x <;> rfl
theorem aDw {o:Oper}(h:aRo A o=true):bR G { A with bk:=K,tg:=b } o=bR G A o:=by
 obtain⟨d,op,ty,pos,aft,gd⟩:=o;cases op <;> simp only[aRo,Bool.false_eq_true]at h
 case store T x y=>
  have e1:AS.ev { A with bk:=K,tg:=b } x=A.ev x:=aIt x;have e2:AS.ev { A with bk:=K,tg:=b } y=A.ev y:=aIt y;have e3:∀f v,AS.fit { A with bk:=K,tg:=b } f v=A.fit f v:=aE3;have e4:∀k v,AS.fitE { A with bk:=K,tg:=b } k v=A.fitE k v:=aM8;simp only[bR,e1,e2,e3,e4];cases hx:A.ev x with
  | c z=>
   rw[hx]at h;cases z <;> simp[aM1]at h
   rename_i s k ix p;generalize cells T=n;generalize A.ev y=v;rcases n with _|n
   .
    rfl
   .
    rcases n with _|n
    .
     cases k <;> cases p <;> rfl
    .
     rcases n with _|n
     .
      cases k <;> cases p <;> cases v <;> rfl
     .
      cases k <;> cases p <;> rfl
  | _=>rw[hx]at h;simp[aM1]at h
 case move x=>cases x <;> rfl
 case assign x=>cases x <;> rfl
 case extract x i=>cases x <;> rfl
 case nilCheck x=>cases x <;> rfl
 case fieldAddr T x f=>cases x <;> rfl
 case indexAddr T x i=>cases x <;> cases i <;> rfl
end
end Eg
end
section
theorem QA134{p:Prop}(h:p:=by
 exact⟨q1,fun b hb=>⟨hr.non b A0 (q2 b hb).1,(q2 b hb).2⟩⟩):p:=h
namespace Eg
theorem dE {α:Type}{l:List α}{n:Nat}{x:α}(h:at? l n=some x):n<l.length:=by
 rw[dP]at h;exact(zC1.1 h).1
theorem sX {α:Type}:∀{l:List α} {n m:Nat} {x y:α},at? (put l n y) m=some x->(m=n/\x=y/\n<l.length)\/(m ≠ n/\at? l m=some x)
 | [],_,_,_,_,h=>by simp[put,at?]at h
 | _ :: l,0,0,x,y,h=>by simp only[put,at?,zG2]at h;exact .inl ⟨rfl,h.symm,by simp⟩
 | _ :: l,0,m+1,x,y,h=>.inr ⟨by omega,h⟩
 | z :: l,n+1,0,x,y,h=>.inr ⟨by omega,h⟩
 | z :: l,n+1,m+1,x,y,h=>by
  simp only[put,at?]at h;rcases sX h with⟨h1,h2,h3⟩|⟨h1,h2⟩
  .
   exact .inl ⟨by omega,h2,by simpa using h3⟩
  .
   exact .inr ⟨by omega,h2⟩
theorem mW {α:Type}:∀(l:List α) (n:Nat) (y:α),(put l n y).length=l.length
 | [],_,_=>rfl| _ :: _,0,_=>rfl| _ :: l,n+1,y=>by simp only[put,zB1,mW l n y]
def aRw (A:AS)(u:Out):Prop:=∀b l,u.up=some (b,l)->∃T x,at? A.bk b=some (.cells T x)
theorem zZ {A:AS}{d:Option Nat}{u:Out}(hu:aRw A u){n:Nat}{x:Bk}(h:at? (A.lay d u).bk n=some x):
  (n<A.bk.length/\((∃l T x0,u.up=some (n,l)/\at? A.bk n=some (.cells T x0)/\x=.cells T l)\/((∀l,u.up ≠ some (n,l))/\at? A.bk n=some x)))\/(n=A.bk.length/\u.nb=some x):=by
 have Fs:∀(K:List Bk),K.length=A.bk.length->at? (K++u.nb.toList) n=some x->at? K n=some x\/(n=A.bk.length/\u.nb=some x):=by
  intro K hK h;rw[cO]at h;split at h
  .
   exact .inl h
  .
   rename_i hn;cases hb:u.nb with
   | none=>rw[hb]at h;simp[at?]at h| some y=>
    rw[hb]at h;simp only[Option.toList]at h;have:=dE h;simp only[List.length_singleton]at this;rw[show n-K.length=0 by omega]at h;simp only[at?,zG2]at h;exact .inr ⟨by omega,by rw[h]⟩
 cases hup:u.up with
 | none=>
  simp only[AS.lay,hup]at h;rcases Fs _ rfl h with h9|h9
  .
   exact .inl ⟨dE h9,.inr ⟨by simp,h9⟩⟩
  .
   exact .inr h9
 | some p=>
  obtain⟨b,l⟩:=p;obtain⟨T,x0,hb⟩:=hu b l hup;simp only[AS.lay,hup,hb]at h;rcases Fs _ (mW _ _ _) h with h9|h9
  .
   rcases sX h9 with⟨rfl,rfl,h3⟩|⟨h1,h2⟩
   .
    exact .inl ⟨h3,.inl ⟨l,T,x0,rfl,hb,rfl⟩⟩
   .
    exact .inl ⟨dE h2,.inr ⟨fun l' e=>h1 (by cases e;rfl),h2⟩⟩
  .
   exact .inr h9
section
variable {C:Cx} {U:Value->Prop} {G:Cfg} {A E:AS} {S B X S' B' X':Nat->Prop} {τ τ':Sm} {V V':Vl} {a:Act} {w w':World} {v:Value} {u:Out} {d:Option Nat} {Y:List SF}
theorem Kn.pre (h:Kn C U { A with sy:=Y } S B X τ V w)(hs:∀s f,at? A.sy s=some f->at? Y s=some f):Kn C U A S B X τ V w:=
 ⟨h.fr,fun s f hf=>h.sy s f (hs s f hf),fun s f hf=>h.sc s f (hs s f hf),h.bk,h.bc,h.dj,h.lo,h.tg,h.cu⟩
def Spo (S B X:Nat->Prop)(x:CV):Prop:=(∀s ∈ x.sy,S s)/\(∀n ∈ x.bs,B n)/\(∀c ∈ x.is,X c)
theorem Spo.all {l:List CV}(h:∀x ∈ l,Spo S B X x):(∀s ∈ l.flatMap CV.sy,S s)/\(∀n ∈ l.flatMap CV.bs,B n)/\(∀c ∈ l.flatMap CV.is,X c):=by
 refine⟨fun s hs=>?_,fun s hs=>?_,fun s hs=>?_⟩
 .
  obtain⟨x,h1,h2⟩:=List.mem_flatMap.1 hs;exact(h x h1).1 s h2
 .
  obtain⟨x,h1,h2⟩:=List.mem_flatMap.1 hs;exact(h x h1).2.1 s h2
 .
  obtain⟨x,h1,h2⟩:=List.mem_flatMap.1 hs;exact(h x h1).2.2 s h2
theorem Kn.post (h:Kn C U { A with sy:=Y } S B X τ V w)(hr:Res C U A u S B X τ V w v τ' V' w')(hu:aRw A u)
  (hY:∀q f,q<u.ns.length->at? Y (A.sy.length+q)=some f->at? u.ns q=some f)
  (Kz:∀s,S' s->S s\/∃q,q<u.ns.length/\s=A.sy.length+q) (Kf:∀s,S s->S' s)
  (Tx:∀n,B' n->B n\/n=A.bk.length) (Xv:∀n,B n->B' n) (hB3:¬B A.bk.length) (Vn:∀c,X c->X' c)
  (Qv:∀q f,at? u.ns q=some f->∀t ∈ f.sy,S' t)
  (hup:∀b l,u.up=some (b,l)->∀x ∈ l,Spo S' B' X' x)
  (Ba:∀T l,u.nb=some (.cells T l)->∀x ∈ l,Spo S' B' X' x):Kn C U { A.lay d u with sy:=Y } S' B' X' τ' V' w':=by
 have old:∀n x,at? (A.lay d u).bk n=some x->B' n->(∃y,at? A.bk n=some y/\B n/\(x=.cur->y=.cur))\/(n=A.bk.length/\u.nb=some x):=fun n x hx hn=>by
  rcases zZ (d:=d) hu hx with⟨h1,h2⟩|h2
  .
   have Ib:B n:=(Tx n hn).resolve_right A0;rcases h2 with⟨l,T,x0,e1,e2,rfl⟩|⟨_,e2⟩
   .
    exact .inl ⟨_,e2,Ib,fun e=>by cases e⟩
   .
    exact .inl ⟨_,e2,Ib,id⟩
  .
   exact .inr h2
 refine⟨hr.fr,fun s f hf hs=>?_,fun s f hf hs=>?_,fun n x hx hn=>?_,fun n x hx hn=>?_,fun n m x y hx hy hn hm Ae=>?_,fun n hx hn=>?_,fun ht=>?_,fun n hx=>?_⟩
 .
  rcases Kz s hs with h1|⟨q,h1,rfl⟩
  .
   rw[hr.ρ s h1];exact SF.on (h.sy s f hf h1) hr.sub fun t ht=>hr.ρ t (h.sc s f hf h1 t ht)
  .
   exact hr.ns q f (hY q f h1 hf)
 .
  rcases Kz s hs with h1|⟨q,h1,rfl⟩
  .
   exact fun t ht=>Kf t (h.sc s f hf h1 t ht)
  .
   exact Qv q f (hY q f h1 hf)
 .
  rcases old n x hx hn with⟨y,h1,h2,_⟩|⟨rfl,h2⟩
  .
   obtain⟨_,b2,b3,b4⟩:=h.bk n y h1 h2;refine⟨?_,by rw[hr.β n h2];exact hr.non _ b3 b2,by rw[hr.β n h2];exact Nat.lt_of_lt_of_le b3 hr.size,by rw[hr.β n h2];exact b4⟩;rcases zZ (d:=d) hu hx with⟨_,⟨l,T,x0,e1,e2,rfl⟩|⟨e1,e2⟩⟩|⟨e1,_⟩
   .
    exact hr.up n l T x0 e1 e2 h2
   .
    exact hr.old n x h2 e2 e1
   .
    have:=dE h1;omega
  .
   obtain⟨c1,c2,c3,c4,_⟩:=hr.nb x h2;exact⟨c1,c2,c4,.inr (zF2 h.fr.size c3)⟩
 .
  rcases zZ (d:=d) hu hx with⟨h1,⟨l,T,x0,e1,e2,rfl⟩|⟨e1,e2⟩⟩|⟨rfl,e2⟩
  .
   exact Spo.all (hup n l e1)
  .
   have Ib:B n:=(Tx n hn).resolve_right A0;obtain⟨c1,c2,c3⟩:=h.bc n x e2 Ib;exact⟨fun s hs=>Kf s (c1 s hs),fun m hm=>Xv m (c2 m hm),fun c hc=>Vn c (c3 c hc)⟩
  .
   cases x with
   | cur=>exact absurd rfl (hr.nb _ e2).2.2.2.2| cells T l=>exact Spo.all (Ba T l e2)
 .
  rcases old n x hx hn with⟨y1,h1,h2,_⟩|⟨rfl,h2⟩
  .
   rcases old m y hy hm with⟨y2,h3,h4,_⟩|⟨rfl,h4⟩
   .
    rw[hr.β n h2,hr.β m h4];exact h.dj n m _ _ h1 h3 h2 h4 Ae
   .
    have q1:=(h.bk n y1 h1 h2).2.2.1;have q2:=(hr.nb y h4).2.2.1;rw[hr.β n h2];omega
  .
   rcases old m y hy hm with⟨y2,h3,h4,_⟩|⟨rfl,h4⟩
   .
    have q1:=(h.bk m y2 h3 h4).2.2.1;have q2:=(hr.nb x h2).2.2.1;rw[hr.β m h4];omega
   .
    exact absurd rfl Ae
 .
  rcases old n .cur hx hn with⟨y,h1,h2,h3⟩|⟨rfl,h2⟩
  .
   have La:at? A.bk n=some .cur:=by rw[h1,h3 rfl]
   obtain⟨q1,q2⟩:=h.lo n La h2;have q3:=(h.bk n _ La h2).2.2.1;rw[hr.β n h2];exact QA134
  .
   exact absurd rfl (hr.nb _ h2).2.2.2.2
 .
  have Yp:(A.tg && !u.br)=true:=ht;simp only[zC0,Bool.not_eq_true']at Yp;exact hr.tg Yp.2 (h.tg Yp.1)
 .
  rcases zZ (d:=d) hu hx with⟨h1,⟨l,T,x0,e1,e2,e3⟩|⟨e1,e2⟩⟩|⟨rfl,e2⟩
  .
   cases e3
  .
   exact h.cu n e2
  .
   exact absurd rfl (hr.nb _ e2).2.2.2.2
end
end Eg
end
section
theorem QA119{p:Prop}(h:p:=by
 obtain⟨o,ho⟩:=mZ hk
 rw[h.lay ho]
 rfl):p:=h
namespace Eg
theorem jJ {t:Nat}:∀{l:List Oper} {i:Nat},jZ t i l=none->∀o ∈ l,o.dst ≠ some t
 | [],_,_,o,h=>by cases h
 | o :: l,i,h,o',h'=>by
  simp only[jZ]at h;cases hd:o.dst with
  | none=>
   rw[hd]at h;rcases zG3.1 h' with rfl|h'
   .
    rw[hd];simp
   .
    exact jJ h o' h'
  | some d=>
   rw[hd]at h;simp only at h;split at h
   .
    cases h
   .
    rename_i Ae;rcases zG3.1 h' with rfl|h'
    .
     rw[hd];intro e;cases e;simp at Ae
    .
     exact jJ h o' h'
theorem oQ {t:Nat}:∀{l:List Oper} {i j:Nat},jZ t i l=some j->i<=j/\∃o,l[j-i]?=some o/\o.dst=some t
 | [],_,_,h=>by simp[jZ]at h
 | o :: l,i,j,h=>by
  simp only[jZ]at h;have Fs:jZ t (i+1) l=some j->i<=j/\∃o',(o :: l)[j-i]?=some o'/\o'.dst=some t:=fun h=>by
   obtain⟨h1,o',h2,h3⟩:=oQ h;refine⟨by omega,o', ?_,h3⟩;rw[show j-i=(j-(i+1))+1 by omega,List.getElem?_cons_succ];exact h2
  cases hd:o.dst with
  | none=>rw[hd]at h;exact Fs h| some d=>
   rw[hd]at h;simp only at h;split at h
   .
    rename_i e;cases h;refine⟨zB0 _,o,by simp, ?_⟩;rw[hd];simpa using e
   .
    exact Fs h
theorem lC {n:Nat}:∀{l:List Oper},aCq n l=true->∀{i:Nat} {o:Oper} {d:Nat},l[i]?=some o->o.dst=some d->d<n/\∀j o',i<j->l[j]?=some o'->o'.dst ≠ some d
 | [],_,i,o,d,h,_=>by simp at h
 | x :: l,hc,i,o,d,h,hd=>by
  simp only[aCq,zC0]at hc;cases i with
  | zero=>
   simp only[List.getElem?_cons_zero,zG2]at h;subst h;have h1:=hc.1;rw[hd]at h1;simp only[zC0,zE3,Option.isNone_iff_eq_none]at h1;refine⟨h1.1,fun j o' hj ho'=>?_⟩;cases j with
   | zero=>omega| succ j=>
    rw[List.getElem?_cons_succ]at ho';exact jJ h1.2 o' (zA3 ho')
  | succ i=>
   rw[List.getElem?_cons_succ]at h;obtain⟨h1,h2⟩:=lC hc.2 h hd;refine⟨h1,fun j o' hj ho'=>?_⟩;cases j with
   | zero=>omega| succ j=>
    rw[List.getElem?_cons_succ]at ho';exact h2 j o' A0 ho'
theorem rV {ms:List Nat}{m:Nat}{rm:Ri}:∀{l:List Ri} {i:Nat},aO5 ms m rm i l=true->∀{k:Nat} {r:Ri},l[k]?=some r->i+k ≠ m->(rm.nq=true->r.cu=true->bit ms m (i+k)=true)/\((rm.br=true\/rm.sp=true)->r.nk=false->bit ms m (i+k)=true\/bit ms (i+k) m=true)
 | [],_,_,k,r,h,_=>by simp at h
 | x :: l,i,hc,k,r,h,Ae=>by
  simp only[aO5,zC0]at hc;cases k with
  | zero=>
   simp only[List.getElem?_cons_zero,zG2]at h;subst h;have h1:=hc.1;simp only[zG1]at Ae ⊢;simp only[Bool.or_eq_true,beq_iff_eq,Ae,false_or,zC0,Bool.not_eq_true']at h1;refine⟨fun a b=>?_,fun a b=>?_⟩
   .
    rcases h1.1 with h9|h9
    .
     rw[a,b]at h9;cases h9
    .
     exact h9
   .
    rcases h1.2 with ((h9|h9)|h9)|h9
    .
     rcases a with a|a <;> rw[a]at h9 <;> simp at h9
    .
     exact .inl h9
    .
     exact .inr h9
    .
     rw[b]at h9;cases h9
  | succ k=>
   rw[List.getElem?_cons_succ]at h;have:=rV hc.2 h A0;rw[show i+1+k=i+(k+1) by omega]at this;exact this
theorem jN {ms:List Nat}{is:List Ri}:∀{l:List Ri} {i:Nat},aBo ms is i l=true->∀{k:Nat} {r:Ri},l[k]?=some r->(r.sp=true->r.nk=false)/\aO5 ms (i+k) r 0 is=true
 | [],_,_,k,r,h=>by simp at h
 | x :: l,i,hc,k,r,h=>by
  simp only[aBo,zC0]at hc;cases k with
  | zero=>
   simp only[List.getElem?_cons_zero,zG2]at h;subst h;exact⟨fun h9=>by have:=hc.1.1;rw[h9]at this;simpa using this,hc.1.2⟩
  | succ k=>
   rw[List.getElem?_cons_succ]at h;have:=jN hc.2 h;rw[show i+1+k=i+(k+1) by omega]at this;exact this
theorem kK {α:Type}{t t':Nat}(h:t ≠ t'):∀{l:List (Nat × α)},bJ t (del t' l)=bJ t l
 | []=>rfl| (k,x) :: l=>by
  simp only[del];split
  .
   rename_i e;have e:k=t':=by simpa using e
   rw[kK h];simp only[bJ];rw[if_neg A12]
  .
   simp only[bJ];rw[kK h]
theorem sZ:∀{l:List Oper},aN6 l=true->∀{j:Nat} {o:Oper} {T:TypeId},l[j]?=some o->o.op=.alloc T->o.guard=none/\∃z ds,bJ T TZ=some (z,ds)
 | [],_,_,_,_,h,_=>by simp at h
 | x :: l,hc,j,o,T,h,ho=>by
  simp only[aN6,zC0]at hc;cases j with
  | zero=>
   simp only[List.getElem?_cons_zero,zG2]at h;subst h;have h1:=hc.1;rw[ho]at h1;simp only[zC0,Option.isNone_iff_eq_none]at h1;obtain⟨p,hp⟩:=Option.isSome_iff_exists.1 h1.1;exact⟨h1.2,p.1,p.2,hp⟩
  | succ j=>
   rw[List.getElem?_cons_succ]at h;exact sZ hc.2 h ho
structure dZ (G:Cfg) (A:AS) (ops:Array Oper) (ms:List Nat) (I:List Ri) (f:Nat->AS) (g:Nat->Out) (st:Nat->Option Bool):Prop where
 f0:f 0={ A with nc:=[],bk:=A.bk++pre ops.toList }
 step:∀k o,ops[k]?=some o->∃ri,I[k]?=some ri/\vU G ops.toList ms A (I.take k) k o (f k) (g k) (st k) (f (k+1)) ri
 ord:aBo ms I 0 I=true
 dst:aCq G.nt ops.toList=true
 low:∀i j,bit ms i j=true->j<i
 al:aN6 ops.toList=true
section
variable {G:Cfg} {A:AS} {ops:Array Oper} {ms:List Nat} {I:List Ri} {f:Nat->AS} {g:Nat->Out} {st:Nat->Option Bool}
theorem dZ.lay (h:dZ G A ops ms I f g st){k:Nat}{o:Oper}(ho:ops[k]?=some o):f (k+1)=(f k).lay o.dst (g k):=by
 obtain⟨ri,_,h1⟩:=h.step k o ho;exact h1.lay
theorem mZ {k:Nat}(hk:k<ops.size):∃o,ops[k]?=some o:=⟨ops[k],by simp[hk]⟩
theorem cF {k:Nat}{o:Oper}(h:ops[k]?=some o):ops.toList[k]?=some o:=by simpa using h
theorem dZ.sy1 (h:dZ G A ops ms I f g st){k:Nat}(hk:k<ops.size):(f (k+1)).sy=(f k).sy++(g k).ns:=by
 exact QA119
theorem dZ.syN (h:dZ G A ops ms I f g st):∀{k n:Nat},k<=n->n<=ops.size->∃r,(f n).sy=(f k).sy++r
 | k,n,Bz,hn=>by
  induction n with
  | zero=>exact⟨[],by rw[show k=0 by omega];simp⟩
  | succ n ih=>
   rcases Nat.lt_or_eq_of_le Bz with h1|h1
   .
    obtain⟨r,hr⟩:=ih A0 A0;exact⟨r++(g n).ns,by rw[h.sy1 A0,hr,zD0]⟩
   .
    exact⟨[],by rw[h1];simp⟩
theorem dZ.syIn (h:dZ G A ops ms I f g st){k s:Nat}{x:SF}(hk:k<=ops.size)(hs:at? (f k).sy s=some x):at? (f ops.size).sy s=some x:=by
 obtain⟨r,hr⟩:=h.syN hk (zB0 _);rw[hr,cO,if_pos (dE hs)];exact hs
theorem dZ.syNew (h:dZ G A ops ms I f g st){k q:Nat}{x:SF}(hk:k<ops.size)(hq:q<(g k).ns.length)(hs:at? (f ops.size).sy ((f k).sy.length+q)=some x):at? (g k).ns q=some x:=by
 obtain⟨r,hr⟩:=h.syN (k:=k+1) A0 (zB0 _);rw[hr,h.sy1 hk,cO,if_pos A12,cO,if_neg A0,Nat.add_sub_cancel_left]at hs;exact hs
theorem dZ.syLe (h:dZ G A ops ms I f g st){k n:Nat}(Bz:k<=n)(hn:n<=ops.size):(f k).sy.length<=(f n).sy.length:=by
 obtain⟨r,hr⟩:=h.syN Bz hn;rw[hr];simp
theorem dZ.cf (h:dZ G A ops ms I f g st):∀{k:Nat},k<=ops.size->(f k).cf=A.cf
 | 0,_=>by rw[h.f0]
 | k+1,hk=>by
  obtain⟨o,ho⟩:=mZ (ops:=ops) (k:=k) A0;rw[h.lay ho];exact h.cf (k:=k) A0
theorem dZ.slot0 (h:dZ G A ops ms I f g st){t:Nat}:∀{k:Nat},k<=ops.size->(∀j o,j<k->ops[j]?=some o->o.dst ≠ some t)->bJ t (f k).sl=bJ t A.sl
 | 0,_,_=>by rw[h.f0]
 | k+1,hk,hn=>by
  obtain⟨o,ho⟩:=mZ (ops:=ops) (k:=k) A0;rw[h.lay ho,<-h.slot0 (k:=k) A0 (fun j o' hj=>hn j o' A0)];have:=hn k o A0 ho;simp only[AS.lay];cases hd:o.dst with
  | none=>rfl| some d=>
   rw[hd]at this;have Ae:t ≠ d:=fun e=>this A86;simp only[bJ];rw[if_neg A12,kK Ae]
theorem dZ.slot1 (h:dZ G A ops ms I f g st){t j:Nat}{o:Oper}(ho:ops[j]?=some o)(hd:o.dst=some t):∀{k:Nat},k<=ops.size->j<k->bJ t (f k).sl=some (g j).r
 | 0,_,hj=>by omega
 | k+1,hk,hj=>by
  obtain⟨o',ho'⟩:=mZ (ops:=ops) (k:=k) A0;rw[h.lay ho'];rcases Nat.lt_or_eq_of_le (Nat.le_of_lt_succ hj) with h1|h1
  .
   have Ae:=(lC h.dst (cF ho) hd).2 k o' h1 (cF ho');rw[<-h.slot1 ho hd (k:=k) A0 h1];simp only[AS.lay];cases hd':o'.dst with
   | none=>rfl| some d=>
    rw[hd']at Ae;have Ae:t ≠ d:=fun e=>Ae A86;simp only[bJ];rw[if_neg A12,kK Ae]
  .
   subst h1;rw[ho]at ho';cases ho';simp only[AS.lay,hd,bJ,beq_self_eq_true,if_true]
theorem dZ.uniq (h:dZ G A ops ms I f g st){i j:Nat}{o o':Oper}{t:Nat}(ho:ops[i]?=some o)(ho':ops[j]?=some o')(hd:o.dst=some t)(hd':o'.dst=some t):i=j:=by
 rcases Nat.lt_trichotomy i j with h1|h1|h1
 .
  exact absurd hd' ((lC h.dst (cF ho) hd).2 j o' h1 (cF ho'))
 .
  exact h1
 .
  exact absurd hd ((lC h.dst (cF ho') hd').2 i o h1 (cF ho))
end
end Eg
end
section
namespace Eg
def aLw (x:CV):Bool:=match x with
 | .top=>true| .nil=>true| .tv _=>true| .int _ _=>true| _=>false
theorem aR4:TZ.all (fun p=>p.2.1.all aLw)=true:=by decide
theorem pU {α:Type}{n:Nat}{x:α}:∀{l:List (Nat × α)},bJ n l=some x->(n,x) ∈ l
 | [],h=>by cases h
 | (k,y) :: l,h=>by
  simp only[bJ]at h;split at h
  .
   rename_i e;cases h;have e:k=n:=by simpa using e
   subst e;simp
  .
   exact List.mem_cons_of_mem _ (pU h)
theorem aLv {l:List CV}(h:l.all aLw=true):l.flatMap CV.sy=[]/\l.flatMap CV.bs=[]/\l.flatMap CV.is=[]:=by
 simp only[zF3]at h;refine⟨?_, ?_, ?_⟩ <;>
 .
  simp only[List.flatMap_eq_nil_iff];intro x hx;have:=h x hx;cases x <;> first|rfl|(simp[aLw]at this)
theorem aOb {T:Nat}{z:List CV}{ds:List Nat}(h:bJ T TZ=some (z,ds)):z.flatMap CV.sy=[]/\z.flatMap CV.bs=[]/\z.flatMap CV.is=[]:=
 aLv (zF3.1 aR4 _ (pU h))
section
variable {C:Cx} {U:Value->Prop} {G:Cfg} {A:AS} {S B X:Nat->Prop} {τ:Sm} {V:Vl} {a:Act} {w:World} {d:Option Nat} {ty:TypeId} {pos:String} {aft:Array Edge} {gd:Option (Nat × Bool)}
structure aW1 (C:Cx) (U:Value->Prop) (A:AS) (S B X:Nat->Prop) (p:Nat) (τ:Sm) (V:Vl) (w:World) (τ':Sm) (V':Vl) (w':World):Prop where
 kn:Kn C U A S (fun n=>B n\/n=p) X τ' V' w'
 sub:Sub τ τ'
 qt:∀b s,τ b=some s->s.k ≠ .bt->w'.heap[b]?=w.heap[b]?
 ρ:∀s,S s->V'.ρ s=V.ρ s
 β:∀n,B n->V'.β n=V.β n
 ι:∀c,X c->V'.ι c=V.ι c
 up:w.heap.size<=V'.β p
 tg:Tg τ->Tg τ'
theorem aCt (h:Kn C U A S B X τ V w){T p:Nat}{z:List CV}{ds:List Nat}(hz:bJ T TZ=some (z,ds))(hp:at? A.bk p=some (.cells T z))(Ll:¬B p)(hB:∀n,B n->n<A.bk.length)(Q:Exit->Act->World->Prop):
  (⟨d,.alloc T,ty,pos,aft,gd⟩:Oper).wp Tryz.prog a w (fun a' w'=>∃τ' V',a'=a.put d (.pointer (some ⟨V'.β p,0,none⟩))/\aW1 C U A S B X p τ V w τ' V' w') Q:=by
 have hu:bR ⟨true,true,[],[],[],[],0⟩ A ⟨d,.alloc T,ty,pos,aft,gd⟩=some { r:=.c (.ptr A.bk.length 0),nb:=some (.cells T z) }:=by simp only[bR,hz]
 refine Oper.wp_mono ?_ (zL h hu (fun h9=>absurd (hB _ h9) (Nat.lt_irrefl _)) Q);rintro a' w' ⟨v,τ',V',rfl,hr⟩;obtain⟨n1,n2,n3,n4,_⟩:=hr.nb _ rfl;obtain⟨z1,z2,z3⟩:=aOb hz
 let V2:Vl:={ V' with β:=fun n=>if n=p then V'.β A.bk.length else V'.β n }
 have hβp:V2.β p=V'.β A.bk.length:=if_pos rfl;have hβ:∀n,B n->V2.β n=V.β n:=fun n hn=>by
  have Ae:n ≠ p:=fun e=>Ll (e ▸ hn);exact(if_neg Ae).trans (hr.β n hn)
 have hb1:∀n x,at? A.bk n=some x->B n->x.ok V2 w' (V2.β n)/\τ' (V2.β n)=none/\V2.β n<w'.heap.size/\(V2.β n ∈ C.K\/C.w0.heap.size<=V2.β n):=fun n x hx hn=>by
  obtain⟨_,b2,b3,b4⟩:=h.bk n x hx hn;obtain⟨c1,c2,c3⟩:=h.bc n x hx hn;have hk:=hr.old n x hn hx A9;rw[hr.β n hn]at hk;rw[hβ n hn];refine⟨Bk.on hk (fun s _=>rfl) (fun m hm=>(hβ m (c2 m hm)).trans (hr.β m (c2 m hm)).symm) (fun c _=>rfl),hr.non _ b3 b2,Nat.lt_of_lt_of_le b3 hr.size,b4⟩
 have hb2:(Bk.cells T z).ok V2 w' (V2.β p)/\τ' (V2.β p)=none/\V2.β p<w'.heap.size/\(V2.β p ∈ C.K\/C.w0.heap.size<=V2.β p):=by
  rw[hβp];exact⟨Bk.on n1 (fun s hs=>rfl) (fun m hm=>by simp only[Bk.bs,z2]at hm;cases hm) (fun c _=>rfl),n2,n4,.inr (zF2 h.fr.size n3)⟩
 have Fx:∀n,at? A.bk n=some .cur->(B n\/n=p)->B n:=fun n hx hn=>hn.resolve_right (by rintro rfl;rw[hp]at hx;cases hx);refine⟨τ',V2, ?_,⟨⟨hr.fr,fun s f hf hs=>?_,h.sc,fun n x hx hn=>?_,fun n x hx hn=>?_,fun n m x y hx hy hn hm Ae=>?_,fun n hx hn=>?_,fun ht=>hr.tg rfl (h.tg ht),h.cu⟩,hr.sub,hr.qt rfl,hr.ρ,hβ,hr.ι,by rw[hβp];exact n3,hr.tg rfl⟩⟩
 .
  show a.put d v=_
  rw[hβp,show v=_ from hr.r]
 .
  show f.ok C U τ' V2 (V'.ρ s)
  rw[hr.ρ s hs];exact SF.on (h.sy s f hf hs) hr.sub fun t ht=>hr.ρ t (h.sc s f hf hs t ht)
 .
  rcases hn with hn|rfl
  .
   exact hb1 n x hx hn
  .
   rw[hp]at hx;cases hx;exact hb2
 .
  rcases hn with hn|rfl
  .
   obtain⟨c1,c2,c3⟩:=h.bc n x hx hn;exact⟨c1,fun m hm=>.inl (c2 m hm),c3⟩
  .
   rw[hp]at hx;cases hx;refine⟨fun s hs=>?_,fun s hs=>?_,fun s hs=>?_⟩
   .
    simp only[Bk.sy,z1]at hs;cases hs
   .
    simp only[Bk.bs,z2]at hs;cases hs
   .
    simp only[Bk.is,z3]at hs;cases hs
 .
  rcases hn with hn|rfl
  .
   rcases hm with hm|rfl
   .
    rw[hβ n hn,hβ m hm];exact h.dj n m x y hx hy hn hm Ae
   .
    have:=(h.bk n x hx hn).2.2.1;rw[hβ n hn,hβp];omega
  .
   rcases hm with hm|rfl
   .
    have:=(h.bk m y hy hm).2.2.1;rw[hβ m hm,hβp];omega
   .
    exact absurd rfl Ae
 .
  have Ib:=Fx n hx hn;obtain⟨q1,q2⟩:=h.lo n hx Ib;have q3:=(h.bk n _ hx Ib).2.2.1;rw[hβ n Ib];exact QA134
end
end Eg
end
section
theorem A65{p:Prop}(h:p:=by rw[hst];simp):p:=h
theorem A68{p:Prop}(h:p:=by cases h):p:=h
namespace Eg
def lT (S B X:Nat->Prop)(x:AV):Prop:=(∀s ∈ x.sy,S s)/\(∀n ∈ x.bs,B n)/\(∀c ∈ x.is,X c)
theorem aF1 (v:Value):(aF2 v).sy=[]/\(aF2 v).bs=[]/\(aF2 v).is=[]:=by
 unfold aF2;split
 .
  exact⟨rfl,rfl,rfl⟩
 .
  split <;> exact⟨rfl,rfl,rfl⟩
 .
  exact⟨rfl,rfl,rfl⟩
 .
  split <;> exact⟨rfl,rfl,rfl⟩
 .
  exact⟨rfl,rfl,rfl⟩
 .
  exact⟨rfl,rfl,rfl⟩
theorem aFz (S B X:Nat->Prop)(v:Value):lT S B X (aRa v):=by
 unfold aRa;split
 .
  rename_i cs;refine⟨fun s hs=>?_,fun s hs=>?_,fun s hs=>?_⟩;all_goals
   obtain⟨x,h1,h2⟩:=List.mem_flatMap.1 hs;obtain⟨y,_,rfl⟩:=zE1.1 h1;obtain⟨q1,q2,q3⟩:=aF1 y;first|(rw[q1]at h2;cases h2)|(rw[q2]at h2;cases h2)|(rw[q3]at h2;cases h2)
 .
  obtain⟨q1,q2,q3⟩:=aF1 v;refine⟨fun s hs=>?_,fun s hs=>?_,fun s hs=>?_⟩
  .
   simp only[AV.sy,q1]at hs;cases hs
  .
   simp only[AV.bs,q2]at hs;cases hs
  .
   simp only[AV.is,q3]at hs;cases hs
section
variable {C:Cx} {U:Value->Prop} {G:Cfg} {A:AS} {ops:Array Oper} {ms:List Nat} {I:List Ri} {f:Nat->AS} {g:Nat->Out} {st:Nat->Option Bool}
structure Sl (A:AS) (ops:Array Oper) (g:Nat->Out) (st:Nat->Option Bool) (a0:Act) (L R S B X:Nat->Prop) (τ:Sm) (V:Vl) (a:Act):Prop where
 yes:∀j o t,ops[j]?=some o->o.dst=some t->R j->(g j).r.ok τ V (a.eval (.tmp t))/\lT S B X (g j).r
 no:∀j o t,ops[j]?=some o->o.dst=some t->L j->¬R j->a.eval (.tmp t)=undef
 old:∀t,(∀j o,ops[j]?=some o->o.dst=some t->¬L j)->a.eval (.tmp t)=a0.eval (.tmp t)
 ent:∀t,(A.ev (.tmp t)).ok τ V (a0.eval (.tmp t))/\lT S B X (A.ev (.tmp t))
 want:∀j o,ops[j]?=some o->L j->(R j ↔ yH ops a o)
 tt:∀j o,ops[j]?=some o->L j->st j=some true->R j
 ff:∀j o,ops[j]?=some o->L j->st j=some false->¬R j
theorem aOs {is:List Ri}{k j:Nat}{ri:Ri}(h1:I[j]?=some ri)(hj:j<k):at? (I.take k) j=some ri:=by
 rw[dP,List.getElem?_take,if_pos hj];exact h1
theorem yT (h:dZ G A ops ms I f g st){a0 a:Act}{L R S B X:Nat->Prop}{τ:Sm}{V:Vl}(hs:Sl A ops g st a0 L R S B X τ V a){i:Nat}{o:Oper}(ho:ops[i]?=some o)(hr:∀j,bit ms i j=true->L j)(Ab:∀j,L j->bit ms j i=false){pk:Option (Nat × Bool)}(hw:yH ops a o)(hpk:∀c b,pk=some (c,b)->a.eval (.tmp c)=.bool b){t:Nat}(hk:yU ops.toList ms (I.take i) i o.guard pk t=true):Opd (f i) S B X τ V a (.tmp t):=by
 have hi:i<ops.size:=(zI3.1 ho).1;have ev:∀x,bJ t (f i).sl=x->(f i).ev (.tmp t)=x.getD (.c .top):=fun x e=>by show(bJ t (f i).sl).getD _=_;rw[e]
 have old:(∀(j:Nat) (o':Oper),j<i->ops[j]?=some o'->o'.dst ≠ some t)->(∀(j:Nat) (o':Oper),ops[j]?=some o'->o'.dst=some t->¬L j)->Opd (f i) S B X τ V a (.tmp t):=fun h1 h2=>by
  have e1:(f i).ev (.tmp t)=A.ev (.tmp t):=ev _ (h.slot0 A0 h1);obtain⟨q1,q2,q3,q4⟩:=hs.ent t;unfold Opd;rw[e1,hs.old t h2];exact⟨q1,q2,q3,q4⟩
 unfold yU at hk;cases hwr:jZ t 0 ops.toList with
 | none=>
  have hn:=jJ hwr;have Yw:∀(j:Nat) (o':Oper),ops[j]?=some o'->o'.dst ≠ some t:=fun j o' ho'=>hn o' (zA3 (cF ho'));exact old (fun j o' _ ho'=>Yw j o' ho') (fun j o' ho' hd=>absurd hd (Yw j o' ho'))
 | some j=>
  obtain⟨_,oj,Jj,hdj⟩:=oQ hwr;have Ii:ops[j]?=some oj:=by simpa using Jj
  rw[hwr]at hk;simp only at hk;split at hk
  .
   rename_i Ad;have Ad:j<i:=by simpa using Ad
   simp only[zC0]at hk;have hL:=hr j hk.1;have e1:(f i).ev (.tmp t)=(g j).r:=ev _ (h.slot1 Ii hdj A0 Ad);obtain⟨ri,Cy,Bh⟩:=h.step j oj Ii;have yes:R j->Opd (f i) S B X τ V a (.tmp t):=fun hR=>by
    obtain⟨q1,q2,q3,q4⟩:=hs.yes j oj t Ii hdj hR;unfold Opd;rw[e1];exact⟨q1,q2,q3,q4⟩
   have hk2:=hk.2;rw[aOs (is:=I) Cy Ad,dP,cF Ii]at hk2;simp only[Bool.or_eq_true,Bool.not_eq_true']at hk2;rcases hk2 with (h9|h9)|h9
   .
    cases hst:st j with
    | none=>
     obtain⟨u0,_,_,_,hri2⟩:=Bh.yes A65;rw[hri2,hst]at h9;cases h9
    | some b=>
     cases b with
     | true=>exact yes (hs.tt j oj Ii hL hst)| false=>
      obtain⟨hu,_⟩:=Bh.no hst;have e2:=hs.no j oj t Ii hdj hL (hs.ff j oj Ii hL hst);unfold Opd;rw[e1,hu,e2];exact⟨rfl,fun s h=> A68,fun s h=> A68,fun s h=> A68⟩
   .
    refine yes ((hs.want j oj Ii hL).2 fun g' b' hg'=>hw g' b' ?_);rw[hg']at h9;cases hgo:o.guard with
    | none=>rw[hgo]at h9;cases h9| some p=>
     rw[hgo]at h9;obtain⟨p1,p2⟩:=p;simp only[gEq,zC0,beq_iff_eq]at h9;rw[h9.1,h9.2]
   .
    refine yes ((hs.want j oj Ii hL).2 fun g' b' hg'=>?_);rw[hg']at h9;cases hpk':pk with
    | none=>rw[hpk']at h9;cases h9| some p=>
     rw[hpk']at h9;obtain⟨c,b⟩:=p;simp only[zC0,beq_iff_eq]at h9;obtain⟨h8,h7⟩:=h9;rw[dP]at h7;cases hog:ops.toList[g']? with
     | none=>rw[hog]at h7;cases h7| some og=>
      rw[hog]at h7;simp only at h7;cases hd:og.dst with
      | none=>rw[hd]at h7;cases h7| some t'=>
       rw[hd]at h7;simp only[oEq,beq_iff_eq]at h7;subst h7;exact⟨og,t',by simpa using hog,hd,by rw[hpk _ _ hpk',h8]⟩
  .
   rename_i Ad;simp only[zC0,zE3]at hk;have Ef:¬L j:=fun hL=>by have:=Ab j hL;rw[hk.2]at this;cases this
   exact old (fun j' o' Gw ho' hd=>by have:=h.uniq ho' Ii hd hdj;omega) (fun j' o' ho' hd=>by rw[h.uniq ho' Ii hd hdj];exact Ef)
end
end Eg
end
section
theorem A16{p:Prop}(h:p:=by cases h9):p:=h
theorem QA115{p:Prop}(h:p:=by
 simp only[zG2]at hg
 rw[<-hg]
 exact⟨(fun h9=>by cases h9),(fun h9=>by cases h9)⟩):p:=h
namespace Eg
section
variable {G:Cfg} {A:AS} {ops:Array Oper} {ms:List Nat} {I:List Ri} {f:Nat->AS} {g:Nat->Out} {st:Nat->Option Bool}
theorem mE (h:dZ G A ops ms I f g st){a0 a:Act}{L R S B X:Nat->Prop}{τ:Sm}{V:Vl}(hs:Sl A ops g st a0 L R S B X τ V a){i:Nat}{o:Oper}(ho:ops[i]?=some o)(hr:∀j,bit ms i j=true->L j):(st i=some true->yH ops a o)/\(st i=some false->¬yH ops a o):=by
 have hi:i<ops.size:=(zI3.1 ho).1;obtain⟨ri,_,Bh⟩:=h.step i o ho;have hg:=Bh.gst;have hb:=Bh.gbit;unfold xM at hg;cases hgo:o.guard with
 | none=>
  rw[hgo]at hg;simp only[zG2]at hg;refine⟨fun _ g' b' h9=>?_,fun h9=>?_⟩
  .
   rw[hgo]at h9;cases h9
  .
   rw[<-hg]at h9;cases h9
 | some p=>
  obtain⟨j,b⟩:=p;rw[hgo]at hg hb;simp only[oM,zC0,zE3]at hb;have hL:=hr j hb.2;obtain⟨oj,Jj⟩:=mZ (ops:=ops) (k:=j) A0;obtain⟨rj,Ie,hsj⟩:=h.step j oj Jj;simp only at hg;rw[aOs (is:=I) Ie hb.1,dP,cF Jj]at hg;simp only at hg;cases hd:oj.dst with
  | none=>rw[hd]at hg;cases hg| some t=>
   rw[hd]at hg;simp only at hg;rw[h.slot1 Jj hd (k:=i) A0 hb.1]at hg;have wiff:yH ops a o ↔ a.eval (.tmp t)=.bool b:=by
    constructor
    .
     intro hw;obtain⟨og,t',q1,q2,q3⟩:=hw j b hgo;rw[Jj]at q1;cases q1;rw[hd]at q2;cases q2;exact q3
    .
     intro e g' b' h9;rw[hgo]at h9;cases h9;exact⟨oj,t,Jj,hd,e⟩
   have un:rj.un=false->st j=some true\/st j=some false:=fun h9=>by
    cases hst:st j with
    | none=>
     obtain⟨u0,_,_,_,hri2⟩:=hsj.yes A65;rw[hri2,hst]at h9;cases h9
    | some b=>cases b <;> simp
   split at hg
   .
    rename_i b2 e;split at hg
    .
     exact QA115
    .
     rename_i Iy;have hv:a.eval (.tmp t)=.bool b2:=by
      rcases un (by simpa using Iy) with h9|h9
      .
       have:=(hs.yes j oj t Jj hd (hs.tt j oj Jj hL h9)).1;have e':(g j).r=.c (.tv b2):=by simpa using e
       rw[e']at this;exact this
      .
       have e':(g j).r=.c (.tv b2):=by simpa using e
       rw[(hsj.no h9).1]at e';cases e'
     simp only[zG2]at hg;rw[wiff,hv,<-hg];refine⟨fun h9=>?_,fun h9=>?_⟩
     .
      simp only[zG2,beq_iff_eq]at h9;rw[h9]
     .
      simp only[zG2,beq_eq_false_iff_ne]at h9;intro e9;cases e9;exact h9 rfl
   .
    exact QA115
   .
    rename_i e;split at hg
    .
     cases hg
    .
     rename_i Iy;have e':(g j).r=.c .und:=by simpa using e
     have hv:a.eval (.tmp t)=undef:=by
      rcases un (by simpa using Iy) with h9|h9
      .
       have:=(hs.yes j oj t Jj hd (hs.tt j oj Jj hL h9)).1;rw[e']at this;exact this
      .
       exact hs.no j oj t Jj hd hL (hs.ff j oj Jj hL h9)
     simp only[zG2]at hg;rw[wiff,hv,<-hg];exact⟨fun h9=> A16,fun _ e9=>by simp[undef]at e9⟩
   .
    cases hg
end
end Eg
end
section
theorem QA57{p:Prop}(h:p:=by
 obtain⟨u0,_,_,e1,e2⟩:=h2.yes A65
 obtain⟨q1,q2,q3,q4,q5,q6⟩:=lK (A:=f k) A.sy.length o u0 (xH (st k))
 rw[e1,q2,q3,q5,q6,e2,hst]
 exact⟨rfl,rfl,rfl,by simp[Ri.of,xH]⟩):p:=h
theorem QA114{p:Prop}(h:p:=by
 rcases zJ2 i i' with h9|h9
 .
  exact h9
 .
  exact absurd (.inr rfl) (h2 i ri h9 Cy hs)):p:=h
namespace Eg
section
variable {G:Cfg} {A:AS} {ops:Array Oper} {ms:List Nat} {I:List Ri} {f:Nat->AS} {g:Nat->Out} {st:Nat->Option Bool}
theorem dZ.row (h:dZ G A ops ms I f g st){k:Nat}{o:Oper}{ri:Ri}(ho:ops[k]?=some o)(Cy:I[k]?=some ri):ri.sp=((g k).up.isSome || (g k).nb.isSome)/\ri.br=(g k).br/\ri.nq=(g k).nq/\(ri.un=true ↔ st k=none):=by
 obtain⟨ri',h1,h2⟩:=h.step k o ho;rw[Cy]at h1;cases h1;cases hst:st k with
 | none=>
  exact QA57
 | some b=>
  cases b with
  | false=>
   obtain⟨e1,e2⟩:=h2.no hst;rw[e2,e1];exact⟨rfl,rfl,rfl,by simp[Ri.of]⟩
  | true=>
   exact QA57
theorem dZ.bk1 (h:dZ G A ops ms I f g st){k:Nat}{o:Oper}{ri:Ri}(ho:ops[k]?=some o)(Cy:I[k]?=some ri)(hs:ri.sp=false):(f (k+1)).bk=(f k).bk:=by
 obtain⟨h1,_⟩:=h.row ho Cy;rw[hs]at h1;have h2:=h1.symm;simp only[Bool.or_eq_false_iff,Option.isSome_eq_false_iff,Option.isNone_iff_eq_none]at h2;rw[h.lay ho];simp only[AS.lay,h2.1,h2.2,Option.toList,List.append_nil]
theorem dZ.tg1 (h:dZ G A ops ms I f g st){k:Nat}{o:Oper}{ri:Ri}(ho:ops[k]?=some o)(Cy:I[k]?=some ri):(f (k+1)).tg=((f k).tg && !ri.br):=by
 obtain⟨_,h1,_⟩:=h.row ho Cy;rw[h.lay ho,h1];rfl
theorem dZ.ri (h:dZ G A ops ms I f g st){k:Nat}(hk:k<ops.size):∃o ri,ops[k]?=some o/\I[k]?=some ri:=by
 obtain⟨o,ho⟩:=mZ hk;obtain⟨ri,h1,_⟩:=h.step k o ho;exact⟨o,ri,ho,h1⟩
theorem dZ.bkN (h:dZ G A ops ms I f g st){k:Nat}:∀{n:Nat},k<=n->n<=ops.size->(∀m ri,k<=m->m<n->I[m]?=some ri->ri.sp=false)->(f n).bk=(f k).bk
 | 0,hk,_,_=>by rw[show k=0 by omega]
 | n+1,hk,hn,hs=>by
  rcases Nat.lt_or_eq_of_le hk with h1|h1
  .
   obtain⟨o,ri,q1,q2⟩:=h.ri (k:=n) A0;rw[h.bk1 q1 q2 (hs n ri A0 A0 q2)];exact h.bkN A0 A0 (fun m ri a b=>hs m ri a A0)
  .
   rw[h1]
theorem dZ.tgN (h:dZ G A ops ms I f g st){k:Nat}:∀{n:Nat},k<=n->n<=ops.size->(∀m ri,k<=m->m<n->I[m]?=some ri->ri.br=false)->(f n).tg=(f k).tg
 | 0,hk,_,_=>by rw[show k=0 by omega]
 | n+1,hk,hn,hs=>by
  rcases Nat.lt_or_eq_of_le hk with h1|h1
  .
   obtain⟨o,ri,q1,q2⟩:=h.ri (k:=n) A0;rw[h.tg1 q1 q2,hs n ri A0 A0 q2,Bool.not_false,Bool.and_true];exact h.tgN A0 A0 (fun m ri a b=>hs m ri a A0)
  .
   rw[h1]
theorem dZ.tgF (h:dZ G A ops ms I f g st){k:Nat}{ri:Ri}(Cy:I[k]?=some ri)(hb:ri.br=true):∀{n:Nat},k<n->n<=ops.size->(f n).tg=false
 | 0,hk,_=>by omega
 | n+1,hk,hn=>by
  obtain⟨o,ri',q1,q2⟩:=h.ri (k:=n) A0;rw[h.tg1 q1 q2];rcases Nat.lt_or_eq_of_le (Nat.le_of_lt_succ hk) with h1|h1
  .
   rw[h.tgF Cy hb h1 A0];rfl
  .
   subst h1;rw[Cy]at q2;cases q2;rw[hb,Bool.not_true,Bool.and_false]
structure At (ops:Array Oper) (I:List Ri) (f:Nat->AS) (L:Nat->Prop) (K:List Bk) (b:Bool):Prop where
 bk:∀i,i<=ops.size->(∀m ri,m<i->I[m]?=some ri->ri.sp=true->L m)->(∀m ri,i<=m->I[m]?=some ri->ri.sp=true->¬L m)->K=(f i).bk
 tg:∀i,i<=ops.size->(∀m ri,m<i->I[m]?=some ri->ri.br=true->L m)->(∀m ri,i<=m->I[m]?=some ri->ri.br=true->¬L m)->b=(f i).tg
theorem At.ready (h:dZ G A ops ms I f g st){L:Nat->Prop}{K:List Bk}{b:Bool}(hA:At ops I f L K b){i:Nat}{ri:Ri}(hi:i<ops.size)(Cy:I[i]?=some ri)(hnk:ri.nk=false)(hr:∀j,bit ms i j=true->L j)(Ef:¬L i)(Ab:∀j,L j->bit ms j i=false):K=(f i).bk/\b=(f i).tg:=by
 have Cd:∀m rm,I[m]?=some rm->(rm.br=true\/rm.sp=true)->m ≠ i->bit ms m i=true\/bit ms i m=true:=fun m rm hm hb Ae=>by
  obtain⟨_,h1⟩:=jN h.ord hm;rw[zJ1]at h1;have:=(rV h1 Cy A0).2 hb hnk;rw[zJ1]at this;exact this
 have lo:∀m rm,m<i->I[m]?=some rm->(rm.br=true\/rm.sp=true)->L m:=fun m rm Ad hm hb=>by
  rcases Cd m rm hm hb A0 with h1|h1
  .
   have:=h.low m i h1;omega
  .
   exact hr m h1
 have hi':∀m rm,i<=m->I[m]?=some rm->(rm.br=true\/rm.sp=true)->¬L m:=fun m rm Ci hm hb hL=>by
  rcases Nat.lt_or_eq_of_le Ci with h2|h2
  .
   rcases Cd m rm hm hb A0 with h1|h1
   .
    have:=Ab m hL;rw[h1]at this;cases this
   .
    have:=h.low i m h1;omega
  .
   subst h2;exact Ef hL
 exact⟨hA.bk i A0 (fun m rm a b c=>lo m rm a b (.inr c)) (fun m rm a b c=>hi' m rm a b (.inr c)),hA.tg i A0 (fun m rm a b c=>lo m rm a b (.inl c)) (fun m rm a b c=>hi' m rm a b (.inl c))⟩
theorem At.next (h:dZ G A ops ms I f g st){L:Nat->Prop}{K:List Bk}{b:Bool}(hA:At ops I f L K b){i:Nat}{o:Oper}{ri:Ri}(ho:ops[i]?=some o)(Cy:I[i]?=some ri)(hr:∀j,bit ms i j=true->L j)(Ef:¬L i)(Ab:∀j,L j->bit ms j i=false):At ops I f (fun j=>L j\/j=i) (AS.lay { f i with bk:=K,tg:=b } o.dst (g i)).bk (b && !ri.br):=by
 have hi:i<ops.size:=(zI3.1 ho).1;obtain⟨r1,r2,_⟩:=h.row ho Cy;refine⟨fun i' hi' h1 h2=>?_,fun i' hi' h1 h2=>?_⟩
 .
  cases hs:ri.sp with
  | false=>
   rw[hs]at r1;have r3:=r1.symm;simp only[Bool.or_eq_false_iff,Option.isSome_eq_false_iff,Option.isNone_iff_eq_none]at r3;have e:(AS.lay { f i with bk:=K,tg:=b } o.dst (g i)).bk=K:=by simp only[AS.lay,r3.1,r3.2,Option.toList,List.append_nil]
   rw[e];refine hA.bk i' hi' (fun m rm a b c=>(h1 m rm a b c).resolve_right ?_) (fun m rm a b c hL=>h2 m rm a b c (.inl hL));rintro rfl;rw[Cy]at b;cases b;rw[hs]at c;cases c
  | true=>
   obtain⟨e1,e2⟩:=At.ready h hA hi Cy ((jN h.ord Cy).1 hs) hr Ef Ab;subst e1 e2;have Ad:i<i':=by
    exact QA114
   show((f i).lay o.dst (g i)).bk=_
   rw[<-h.lay ho];refine(h.bkN A0 hi' fun m rm a b hm=>?_).symm;cases hsm:rm.sp with
   | false=>rfl| true=>
    have hL:L m:=(h1 m rm b hm hsm).resolve_right A0;have q1:=(jN h.ord Cy).2;rw[zJ1]at q1;have q2:=(rV q1 hm A0).2 (.inr hs) ((jN h.ord hm).1 hsm);rw[zJ1]at q2;rcases q2 with q2|q2
    .
     have:=h.low i m q2;omega
    .
     have:=Ab m hL;rw[q2]at this;cases this
 .
  cases hs:ri.br with
  | false=>
   rw[Bool.not_false,Bool.and_true];refine hA.tg i' hi' (fun m rm a b c=>(h1 m rm a b c).resolve_right ?_) (fun m rm a b c hL=>h2 m rm a b c (.inl hL));rintro rfl;rw[Cy]at b;cases b;rw[hs]at c;cases c
  | true=>
   have Ad:i<i':=by
    exact QA114
   rw[Bool.not_true,Bool.and_false,h.tgF Cy hs Ad hi']
end
end Eg
end
section
theorem QA121{p:Prop}(h:p:=by
 rcases h with h|⟨j,h1,h2⟩
 .
  exact .inl h
 .
  exact .inr ⟨j,hR j h1,h2⟩):p:=h
namespace Eg
section
variable {G:Cfg} {A:AS} {ops:Array Oper} {ms:List Nat} {I:List Ri} {f:Nat->AS} {g:Nat->Out} {st:Nat->Option Bool}
def Sb (A:AS)(f:Nat->AS)(R:Nat->Prop)(s:Nat):Prop:=s<A.sy.length\/∃j,R j/\(f j).sy.length<=s/\s<(f (j+1)).sy.length
def Xb (A:AS)(f:Nat->AS)(R:Nat->Prop)(c:Nat):Prop:=c<A.ni\/∃j,R j/\(f j).ni<=c/\c<(f (j+1)).ni
def Bb (A:AS)(ops:Array Oper)(R:Nat->Prop)(K:List Bk)(n:Nat):Prop:=n<K.length/\∀j o T,ops[j]?=some o->o.op=.alloc T->n=A.bk.length+nAl j ops.toList->R j
theorem dZ.ni1 (h:dZ G A ops ms I f g st){k:Nat}(hk:k<ops.size):(f (k+1)).ni=if (g k).nx then (f k).ni+1 else (f k).ni:=by
 exact QA119
theorem dZ.niLe (h:dZ G A ops ms I f g st){k:Nat}:∀{n:Nat},k<=n->n<=ops.size->(f k).ni<=(f n).ni
 | 0,hk,_=>by rw[show k=0 by omega];exact zB0 _
 | n+1,hk,hn=>by
  rcases Nat.lt_or_eq_of_le hk with h1|h1
  .
   have h2:=h.niLe (k:=k) (n:=n) A0 A0;rw[h.ni1 A0];split <;> omega
  .
   rw[h1];exact zB0 _
theorem aRf (h:dZ G A ops ms I f g st){R:Nat->Prop}(hR:∀j,R j->j<ops.size){i q:Nat}(hi:i<ops.size)(hn:¬R i)(hq:q<(g i).ns.length):¬Sb A f R ((f i).sy.length+q):=by
 have e:(f (i+1)).sy.length=(f i).sy.length+(g i).ns.length:=by rw[h.sy1 hi];simp
 rintro (h1|⟨j,h1,h2,h3⟩)
 .
  have:=h.syLe (k:=0) (n:=i) A0 A0;rw[h.f0]at this;have h4:A.sy.length<=(f i).sy.length:=this;omega
 .
  have hj:=hR j h1;rcases Nat.lt_trichotomy j i with h4|h4|h4
  .
   have:=h.syLe (k:=j+1) (n:=i) A0 A0;omega
  .
   subst h4;exact hn h1
  .
   have:=h.syLe (k:=i+1) (n:=j) A0 A0;omega
theorem aRb (h:dZ G A ops ms I f g st){R:Nat->Prop}(hR:∀j,R j->j<ops.size){i:Nat}(hi:i<ops.size)(hn:¬R i)(hx:(g i).nx=true):¬Xb A f R (f i).ni:=by
 have e:(f (i+1)).ni=(f i).ni+1:=by rw[h.ni1 hi,hx];rfl
 rintro (h1|⟨j,h1,h2,h3⟩)
 .
  have:=h.niLe (k:=0) (n:=i) A0 A0;rw[h.f0]at this;have h4:A.ni<=(f i).ni:=this;omega
 .
  have hj:=hR j h1;rcases Nat.lt_trichotomy j i with h4|h4|h4
  .
   have:=h.niLe (k:=j+1) (n:=i) A0 A0;omega
  .
   subst h4;exact hn h1
  .
   have:=h.niLe (k:=i+1) (n:=j) A0 A0;omega
theorem aRg {R:Nat->Prop}{i s:Nat}(h:Sb A f (fun j=>R j\/j=i) s)(he:(f (i+1)).sy.length=(f i).sy.length+(g i).ns.length):Sb A f R s\/∃q,q<(g i).ns.length/\s=(f i).sy.length+q:=by
 rcases h with h|⟨j,h1|rfl,h2,h3⟩
 .
  exact .inl (.inl h)
 .
  exact .inl (.inr ⟨j,h1,h2,h3⟩)
 .
  exact .inr ⟨s-(f j).sy.length,by omega,by omega⟩
theorem aF4 {R R':Nat->Prop}{s:Nat}(h:Sb A f R s)(hR:∀j,R j->R' j):Sb A f R' s:=by
 exact QA121
theorem aF3 {R R':Nat->Prop}{s:Nat}(h:Xb A f R s)(hR:∀j,R j->R' j):Xb A f R' s:=by
 exact QA121
end
theorem aJ3 {o:Oper}{T:TypeId}(ho:o.op=.alloc T):∀(l:List Oper) (i j:Nat),l[i]?=some o->i<j->nAl i l<nAl j l:=by
 intro l;induction l with
 | nil=>intro i j h;simp at h| cons x l ih=>
  intro i j h hj;obtain⟨j,rfl⟩:∃k,j=k+1:=⟨j-1,by omega⟩
  cases i with
  | zero=>
   simp only[List.getElem?_cons_zero,zG2]at h;subst h;simp only[nAl,ho];omega
  | succ i=>
   rw[List.getElem?_cons_succ]at h;have:=ih i j h A0;simp only[nAl];split <;> omega
theorem aLy {l:List Oper}{i j:Nat}{o o':Oper}{T T':TypeId}(h:l[i]?=some o)(h':l[j]?=some o')(ho:o.op=.alloc T)(ho':o'.op=.alloc T')(e:nAl i l=nAl j l):i=j:=by
 rcases Nat.lt_trichotomy i j with h1|h1|h1
 .
  have:=aJ3 ho l i j h h1;omega
 .
  exact h1
 .
  have:=aJ3 ho' l j i h' h1;omega
theorem zB:∀{l:List Oper} {i:Nat} {o:Oper} {T:TypeId} {z:List CV} {ds:List Nat},l[i]?=some o->o.op=.alloc T->bJ T TZ=some (z,ds)->at? (pre l) (nAl i l)=some (.cells T z)
 | [],_,_,_,_,_,h,_,_=>by simp at h
 | x :: l,0,o,T,z,ds,h,ho,hz=>by
  simp only[List.getElem?_cons_zero,zG2]at h;subst h;simp only[pre,ho,hz,nAl,at?]
 | x :: l,i+1,o,T,z,ds,h,ho,hz=>by
  rw[List.getElem?_cons_succ]at h;have ih:=zB h ho hz;simp only[nAl,pre];split
  .
   rename_i T' e;split <;> exact ih
  .
   exact ih
end Eg
end
section
namespace Eg
section
variable {C:Cx} {U:Value->Prop} {G:Cfg} {A A':AS} {S B X S' B' X':Nat->Prop} {τ τ':Sm} {V V':Vl} {a:Act} {w w':World}
theorem Kn.like (h:Kn C U A S B X τ V w)(h1:A'.sy=A.sy)(h2:A'.bk=A.bk)(h3:A'.tg=A.tg):Kn C U A' S B X τ V w:=by
 obtain⟨a1,a2,a3,a4,a5,a6,a7⟩:=A;obtain⟨b1,b2,b3,b4,b5,b6,b7⟩:=A';simp only at h1 h2 h3;subst h1 h2 h3;exact⟨h.fr,h.sy,h.sc,h.bk,h.bc,h.dj,h.lo,h.tg,h.cu⟩
theorem Kn.syIn (h:Kn C U A S B X τ V w)(hS:∀s,S s->s<A.sy.length):aI9 V S:=fun s hs=>by
 obtain⟨f,hf⟩:∃f,at? A.sy s=some f:=by rw[dP];exact⟨_,zA0 (hS s hs)⟩
 rcases (h.sy s f hf hs).1 with⟨e,_⟩|⟨b,j,c,s',e,_⟩
 .
  exact⟨_,_,_,e⟩
 .
  exact⟨_,_,_,e⟩
theorem Kn.low (h:Kn C U A S B X τ V w){c b:Nat}{x:Bk}(hc:at? A.bk c=some .cur)(hB:B c)(hx:at? A.bk b=some x)(hb:B b)(Ae:b ≠ c):V.β c<V.β b:=by
 obtain⟨h1,h2⟩:=h.lo c hc hB;have h3:=(h.bk b x hx hb).2.2.2;have h4:=h.dj b c x _ hx hc hb hB Ae;have h5:V.β c<=V.β b:=by
  rcases zJ2 (V.β b) (V.β c) with h9|h9
  .
   rcases h3 with h3|h3
   .
    exact absurd h3 (h2 _ h9).2
   .
    omega
  .
   exact h9
 omega
structure UsE (C:Cx) (U:Value->Prop) (A:AS) (V:Vl):Prop where
 two:2<=A.sy.length
 st:C.st=true
 fa:SVb C.τ0 (.rc 4) 0 2 (V.ρ 0)
 us:SVb C.τ0 (.rc 0) 0 2 (V.ρ 1)
 use:∀b o n c i v,V.ρ 1=.slice (some ⟨b,o,none⟩) n c->i<n->C.w0.cell? ⟨b,o+i,none⟩=some v->Us (V.ρ 0) C.w0 v
 u:U=Us (V.ρ 0) C.w0
theorem UsE.on (h:UsE C U A V)(hA:A.sy.length<=A'.sy.length)(hρ:∀s,s<A.sy.length->V'.ρ s=V.ρ s):UsE C U A' V':=by
 have h0:=hρ 0 (by have:=h.two;omega);have h1:=hρ 1 (by have:=h.two;omega);refine⟨zF2 h.two hA,h.st,by rw[h0];exact h.fa,by rw[h1];exact h.us, ?_,by rw[h0];exact h.u⟩;rw[h0,h1];exact h.use
structure aN8 (C:Cx) (G:Cfg):Prop where
 st:C.st=G.st
 th:TH C.τ0 C.w0
 con:∀k ∈ G.cons,ConOk k
theorem aQ1 {E:AS}(hE:aN8 C G)(hU:G.us=true->UsE C U E V)(h:Kn C U A S B X τ V w)(hS:∀s,s<E.sy.length->S s):Ctx C U G A S B V w:=by
 refine⟨hE.st,hE.th,hE.con,fun hg=>?_,fun b c hg hb hc hB=>?_⟩
 .
  have h1:=hU hg;have:=h1.two;exact⟨⟨h1.st,hS 0 A0,hS 1 A0,h1.fa,h1.us,h1.use⟩,h1.u⟩
 .
  unfold AS.gen at hg;split at hg
  .
   rename_i hx;exact h.low hc hB hx hb (fun e=>by subst e;rw[hx]at hc;cases hc)
  .
   cases hg
end
section
variable {C:Cx} {U:Value->Prop} {G:Cfg} {A:AS} {ops:Array Oper} {ms:List Nat} {I:List Ri} {f:Nat->AS} {g:Nat->Out} {st:Nat->Option Bool}
structure Inv (C:Cx) (U:Value->Prop) (G:Cfg) (A:AS) (ops:Array Oper) (ms:List Nat) (I:List Ri) (f:Nat->AS) (g:Nat->Out) (st:Nat->Option Bool) (a0:Act) (V0:Vl) (τ0:Sm) (L R:Nat->Prop) (K:List Bk) (b:Bool) (τ:Sm) (V:Vl) (a:Act) (w:World):Prop where
 kn:Kn C U { f ops.size with bk:=K,tg:=b } (Sb A f R) (Bb A ops R K) (Xb A f R) τ V w
 at_:At ops I f L K b
 sl:Sl A ops g st a0 L R (Sb A f R) (Bb A ops R K) (Xb A f R) τ V a
 rl:∀j,R j->L j
 ls:∀j,L j->j<ops.size
 cl:∀j k,L j->bit ms j k=true->L k
 nt:a.tmps.size=a0.tmps.size
 df:a.defers=a0.defers
 tq:C.st=true->Tg C.τ0->Tg τ
 ρ0:∀s,s<A.sy.length->V.ρ s=V0.ρ s
 β0:∀n,n<A.bk.length->V.β n=V0.β n
 ι0:∀c,c<A.ni->V.ι c=V0.ι c
 un:∀j o T z ds,ops[j]?=some o->o.op=.alloc T->bJ T TZ=some (z,ds)->¬L j->at? K (A.bk.length+nAl j ops.toList)=some (.cells T z)
 kl:A.bk.length<=K.length
 sub:Sub τ0 τ
 cf:(∀j ri,L j->I[j]?=some ri->ri.nq=false)->(∀c ∈ A.cf,c.ok V w)/\∀j,R j->∀c ∈ (g j).nc,c.ok V w
 nc:∀j,R j->∀c ∈ (g j).nc,Sb A f R c.s/\Sb A f R c.r/\∀x ∈ c.ix.is,Xb A f R x
structure aJd (A F:AS) (g:Nat->Out) (m:Nat):Prop where
 k:∀c,(c ∈ A.cf\/∃j,j<m/\c ∈ (g j).nc)->F.kd c.s c.k=true/\c.k ≠ .bt
 o:∀c ∈ A.cf,c.s<A.sy.length/\c.r<A.sy.length/\∀x ∈ c.ix.is,x<A.ni
theorem Cf.on {F:AS}{S B X:Nat->Prop}{τ:Sm}{V V':Vl}{w w':World}{c:Cf}(h:Kn C U F S B X τ V w)(hk:F.kd c.s c.k=true)(hb:c.k ≠ .bt)(hs:S c.s)(hr:S c.r)(hx:∀x ∈ c.ix.is,X x)(hq:∀b s,τ b=some s->s.k ≠ .bt->w'.heap[b]?=w.heap[b]?)(hρ:∀s,S s->V'.ρ s=V.ρ s)(hι:∀c,X c->V'.ι c=V.ι c)(hc:c.ok V w):c.ok V' w':=by
 intro b j n q i e hi hix hu;rw[hρ _ hs]at e;unfold AS.kd at hk;split at hk
 .
  rename_i sf hf;have Ur:=Rs.eq_eq hk;obtain⟨h1,_⟩:=h.sy _ _ hf hs;rw[Ur,e]at h1;have Em:∃s,τ b=some s/\s.k ≠ .bt:=by
   rcases h1 with⟨h9,_⟩|⟨b',j',c',s,h9,hτ,Kq,_⟩
   .
    cases h9
   .
    simp only[Value.slice.injEq,zG2,Addr.mk.injEq]at h9;obtain⟨⟨rfl,_⟩,_⟩:=h9;exact⟨s,hτ,by rw[Kq];exact hb⟩
  obtain⟨s,hτ,Iz⟩:=Em;rw[hρ _ hr];exact(World.cell?_of_block (hq b s hτ Iz)).trans (hc b j n q i e hi (Ix.on hix fun x hx9=>(hι x (hx x hx9)).symm) hu)
 .
  cases hk
theorem oE (h:dZ G A ops ms I f g st){i j:Nat}{o oj:Oper}(ho:ops[i]?=some o)(Jj:ops[j]?=some oj)(hb:bit ms j i=false)(a:Act)(v:Value):yH ops (a.put o.dst v) oj ↔ yH ops a oj:=by
 obtain⟨ri,_,hs⟩:=h.step j oj Jj;have hg:=hs.gbit;have ev:∀g' b' og t,oj.guard=some (g',b')->ops[g']?=some og->og.dst=some t->(a.put o.dst v).eval (.tmp t)=a.eval (.tmp t):=fun g' b' og t e1 e2 e3=>by
  rw[e1]at hg;simp only[oM,zC0]at hg;refine kF fun hd=>?_;have:=h.uniq ho e2 hd e3;subst this;rw[hg.2]at hb;cases hb
 constructor
 .
  intro hw g' b' e;obtain⟨og,t,q1,q2,q3⟩:=hw g' b' e;exact⟨og,t,q1,q2,by rw[<-ev g' b' og t e q1 q2];exact q3⟩
 .
  intro hw g' b' e;obtain⟨og,t,q1,q2,q3⟩:=hw g' b' e;exact⟨og,t,q1,q2,by rw[ev g' b' og t e q1 q2];exact q3⟩
end
end Eg
end
section
theorem QA96{p:Prop}(h:p:=by
 rw[kF (fun hd=>ht i o ho hd (.inr rfl))]
 exact hs.old t fun j o' ho' hd hL=>ht j o' ho' hd (.inl hL)):p:=h
theorem QA112{p:Prop}(h:p:=by
 exact⟨fun s hs=>iS s (q1 s hs),fun s hs=>iB s (q2 s hs),fun s hs=>iX s (q3 s hs)⟩):p:=h
namespace Eg
theorem aDi (a:Act)(d:Option Nat)(v:Value):(a.put d v).defers=a.defers:=by cases d <;> rfl
theorem rH {A:AS}{us:Bool}{f:Nat}{xs:List AV}{u:Out}:∀{cs:List Con},nI A true us f xs cs=some u->u.br=false
 | [],h=>by cases h
 | c :: cs,h=>by
  simp only[nI]at h;split at h
  .
   rename_i hh;simp only[zC0,Bool.not_true,Bool.or_false]at hh;cases h;show(!c.st)=false
   rw[hh.1.1.1.1.2];rfl
  .
   exact rH h
theorem aI2 {G:Cfg}{A:AS}{f:Nat}{xs:List AV}{u:Out}(hG:G.st=true)(h:aFo G A f xs=some u):u.br=false:=by
 unfold aFo at h
 (repeat' split at h) <;> first|cases h;done|(cases h;rfl)|skip
 all_goals rw[hG]at h;exact rH h
theorem aDv {G:Cfg}{A:AS}{o:Oper}{u:Out}(hG:G.st=true)(h:bR G A o=some u):u.br=false:=by
 obtain⟨d,op,ty,pos,aft,gd⟩:=o;cases op <;> simp only[bR]at h
 all_goals
  (repeat' split at h) <;> first|cases h;done|(cases h;rfl)|(simp only[zF0]at h;obtain⟨_,_,rfl⟩:=h;rfl)|skip
 all_goals first
  | (rename_i hh;cases h;simp only[hG,zC0,Bool.not_true,Bool.false_or,Bool.not_eq_true']at hh;exact hh.1.2)| exact aI2 hG h
section
variable {C:Cx} {U:Value->Prop} {G:Cfg} {A:AS} {ops:Array Oper} {ms:List Nat} {I:List Ri} {f:Nat->AS} {g:Nat->Out} {st:Nat->Option Bool} {a0 a:Act} {L R S B X S' B' X':Nat->Prop} {τ τ':Sm} {V V':Vl} {i:Nat} {o:Oper}
theorem dZ.self (h:dZ G A ops ms I f g st):bit ms i i=false:=by
 cases hb:bit ms i i with
 | false=>rfl| true=>exact absurd (h.low i i hb) (Nat.lt_irrefl _)
theorem lT.mono {x:AV}(h:lT S B X x)(hS:∀s,S s->S' s)(hB:∀s,B s->B' s)(hX:∀s,X s->X' s):lT S' B' X' x:=⟨fun s hs=>hS s (h.1 s hs),fun s hs=>hB s (h.2.1 s hs),fun s hs=>hX s (h.2.2 s hs)⟩
theorem Sl.pass (h:dZ G A ops ms I f g st)(hs:Sl A ops g st a0 L R S B X τ V a)(Qt:∀j,R j->L j)(ho:ops[i]?=some o)(Ef:¬L i)(Ab:∀j,L j->bit ms j i=false)(hr:∀j,bit ms i j=true->L j)(hw:¬yH ops a o)(Hx:G.nt<=a.tmps.size):Sl A ops g st a0 (fun j=>L j\/j=i) R S B X τ V (a.put o.dst undef):=by
 have other:∀j o' t,ops[j]?=some o'->o'.dst=some t->j ≠ i->(a.put o.dst undef).eval (.tmp t)=a.eval (.tmp t):=fun j o' t ho' hd Ae=>kF fun hd'=>Ae (h.uniq ho' ho hd hd');refine⟨fun j o' t ho' hd hR=>?_,fun j o' t ho' hd hL hR=>?_,fun t ht=>?_,hs.ent,fun j o' ho' hL=>?_,fun j o' ho' hL hst=>?_,fun j o' ho' hL hst=>?_⟩
 .
  rw[other j o' t ho' hd (fun e=>Ef (e ▸ Qt j hR))];exact hs.yes j o' t ho' hd hR
 .
  rcases hL with hL|rfl
  .
   rw[other j o' t ho' hd (fun e=>Ef (e ▸ hL))];exact hs.no j o' t ho' hd hL hR
  .
   rw[ho]at ho';cases ho';rw[hd];exact zA _ (Nat.lt_of_lt_of_le (lC h.dst (cF ho) hd).1 Hx)
 .
  exact QA96
 .
  rcases hL with hL|rfl
  .
   rw[oE h ho ho' (Ab j hL)];exact hs.want j o' ho' hL
  .
   rw[oE h ho ho' h.self];rw[ho]at ho';cases ho';exact⟨fun h9=>absurd (Qt j h9) Ef,fun h9=>absurd h9 hw⟩
 .
  rcases hL with hL|rfl
  .
   exact hs.tt j o' ho' hL hst
  .
   exact absurd ((mE h hs ho hr).1 hst) hw
 .
  rcases hL with hL|rfl
  .
   exact hs.ff j o' ho' hL hst
  .
   exact fun h9=>Ef (Qt j h9)
theorem Sl.take (h:dZ G A ops ms I f g st)(hs:Sl A ops g st a0 L R S B X τ V a)(Qt:∀j,R j->L j)(ho:ops[i]?=some o)(Ef:¬L i)(Ab:∀j,L j->bit ms j i=false)(hr:∀j,bit ms i j=true->L j)(hw:yH ops a o)(Hx:G.nt<=a.tmps.size){v:Value}
  (Gi:Sub τ τ') (hρ:∀s,S s->V'.ρ s=V.ρ s) (hβ:∀n,B n->V'.β n=V.β n) (hι:∀c,X c->V'.ι c=V.ι c) (hS:∀s,S s->S' s) (hB:∀s,B s->B' s) (hX:∀s,X s->X' s) (hv:(g i).r.ok τ' V' v) (hsp:lT S' B' X' (g i).r):Sl A ops g st a0 (fun j=>L j\/j=i) (fun j=>R j\/j=i) S' B' X' τ' V' (a.put o.dst v):=by
 have other:∀j o' t,ops[j]?=some o'->o'.dst=some t->j ≠ i->(a.put o.dst v).eval (.tmp t)=a.eval (.tmp t):=fun j o' t ho' hd Ae=>kF fun hd'=>Ae (h.uniq ho' ho hd hd');have on:∀x u,AV.ok τ V x u->lT S B X x->AV.ok τ' V' x u:=fun x u h1 h2=>AV.on h1 Gi (fun s h9=>hρ s (h2.1 s h9)) (fun s h9=>hβ s (h2.2.1 s h9)) (fun s h9=>hι s (h2.2.2 s h9));refine⟨fun j o' t ho' hd hR=>?_,fun j o' t ho' hd hL hR=>?_,fun t ht=>?_,fun t=>?_,fun j o' ho' hL=>?_,fun j o' ho' hL hst=>?_,fun j o' ho' hL hst=>?_⟩
 .
  rcases hR with hR|rfl
  .
   rw[other j o' t ho' hd (fun e=>Ef (e ▸ Qt j hR))];obtain⟨q1,q2⟩:=hs.yes j o' t ho' hd hR;exact⟨on _ _ q1 q2,q2.mono hS hB hX⟩
  .
   rw[ho]at ho';cases ho';rw[hd,zA _ (Nat.lt_of_lt_of_le (lC h.dst (cF ho) hd).1 Hx)];exact⟨hv,hsp⟩
 .
  rcases hL with hL|rfl
  .
   rw[other j o' t ho' hd (fun e=>Ef (e ▸ hL))];exact hs.no j o' t ho' hd hL (fun h9=>hR (.inl h9))
  .
   exact absurd (.inr rfl) hR
 .
  exact QA96
 .
  obtain⟨q1,q2⟩:=hs.ent t;exact⟨on _ _ q1 q2,q2.mono hS hB hX⟩
 .
  rcases hL with hL|rfl
  .
   rw[oE h ho ho' (Ab j hL),<-hs.want j o' ho' hL];exact⟨fun h9=>h9.resolve_right (fun e=>Ef (e ▸ hL)),.inl⟩
  .
   rw[oE h ho ho' h.self];rw[ho]at ho';cases ho';exact⟨fun _=>hw,fun _=>.inr rfl⟩
 .
  rcases hL with hL|rfl
  .
   exact .inl (hs.tt j o' ho' hL hst)
  .
   exact .inr rfl
 .
  rcases hL with hL|rfl
  .
   rintro (h9|rfl)
   .
    exact hs.ff j o' ho' hL hst h9
   .
    exact Ef hL
  .
   exact absurd hw ((mE h hs ho hr).2 hst)
end
theorem aEt {n:Nat}:∀{l:List Nat},has n l=true->n ∈ l
 | [],h=>by cases h
 | k :: l,h=>by
  simp only[has,Bool.or_eq_true,beq_iff_eq]at h;rcases h with rfl|h
  .
   simp
  .
   exact List.mem_cons_of_mem _ (aEt h)
theorem aEl {b n h s:Nat}{l:List Nat}(hh:inB b n h l s=true):s<b\/s ∈ l\/(n<=s/\s<h):=by
 simp only[inB,Bool.or_eq_true,zC0,zE3]at hh;rcases hh with (h1|h1)|h1
 .
  exact .inl h1
 .
  exact .inr (.inl (aEt h1))
 .
  exact .inr (.inr h1)
theorem aAp {A:AS}{s:Nat}:∀{l:List Operand},s ∈ aRs A l->∃x ∈ l,s ∈ (A.ev x).sy
 | [],h=>by cases h
 | x :: l,h=>by
  rcases List.mem_append.1 h with h|h
  .
   exact⟨x,by simp,h⟩
  .
   obtain⟨y,h1,h2⟩:=aAp h;exact⟨y,by simp[h1],h2⟩
theorem aAr {A:AS}{s:Nat}:∀{l:List Operand},s ∈ aRu A l->∃x ∈ l,s ∈ (A.ev x).bs
 | [],h=>by cases h
 | x :: l,h=>by
  rcases List.mem_append.1 h with h|h
  .
   exact⟨x,by simp,h⟩
  .
   obtain⟨y,h1,h2⟩:=aAr h;exact⟨y,by simp[h1],h2⟩
theorem aAq {A:AS}{s:Nat}:∀{l:List Operand},s ∈ aRt A l->∃x ∈ l,s ∈ (A.ev x).is
 | [],h=>by cases h
 | x :: l,h=>by
  rcases List.mem_append.1 h with h|h
  .
   exact⟨x,by simp,h⟩
  .
   obtain⟨y,h1,h2⟩:=aAq h;exact⟨y,by simp[h1],h2⟩
structure yJ (A:AS) (u:Out) (S B X:Nat->Prop):Prop where
 up:aRw A u
 ub:∀b l,u.up=some (b,l)->B b
 r:lT S B X u.r
 ul:∀b l,u.up=some (b,l)->∀x ∈ l,Spo S B X x
 nb:∀T l,u.nb=some (.cells T l)->∀x ∈ l,Spo S B X x
 ns:∀f ∈ u.ns,∀t ∈ f.sy,S t
 nc:∀c ∈ u.nc,S c.s/\S c.r/\∀x ∈ c.ix.is,X x
theorem aOi {E A:AS}{o:Oper}{u:Out}(h:spk E A o u=true){S B X:Nat->Prop}(hx:∀x ∈ nW o,(∀s ∈ (A.ev x).sy,S s)/\(∀n ∈ (A.ev x).bs,B n)/\(∀c ∈ (A.ev x).is,X c))
  (Bq:∀s,s<E.sy.length->S s) (Gz:∀s,s<E.bk.length->B s) (hX0:∀s,s<E.ni->X s)
  (Kz:∀s,A.sy.length<=s->s<A.sy.length+u.ns.length->S s) (Tx:∀s,A.bk.length<=s->s<A.bk.length+u.nb.toList.length->B s) (hX1:u.nx=true->X A.ni):yJ A u S B X:=by
 have iS:∀s,inB E.sy.length A.sy.length (A.sy.length+u.ns.length) (aRs A (nW o)) s=true->S s:=fun s hs=>by
  rcases aEl hs with h1|h1|⟨h1,h2⟩
  .
   exact Bq s h1
  .
   obtain⟨x,q1,q2⟩:=aAp h1;exact(hx x q1).1 s q2
  .
   exact Kz s h1 h2
 have iB:∀s,inB E.bk.length A.bk.length (A.bk.length+u.nb.toList.length) (aRu A (nW o)) s=true->B s:=fun s hs=>by
  rcases aEl hs with h1|h1|⟨h1,h2⟩
  .
   exact Gz s h1
  .
   obtain⟨x,q1,q2⟩:=aAr h1;exact(hx x q1).2.1 s q2
  .
   exact Tx s h1 h2
 have iX:∀s,inB E.ni A.ni (if u.nx then A.ni+1 else A.ni) (aRt A (nW o)) s=true->X s:=fun s hs=>by
  rcases aEl hs with h1|h1|⟨h1,h2⟩
  .
   exact hX0 s h1
  .
   obtain⟨x,q1,q2⟩:=aAq h1;exact(hx x q1).2.2 s q2
  .
   split at h2
   .
    rename_i hn;rw[show s=A.ni by omega];exact hX1 hn
   .
    omega
 simp only[spk,zC0,zF3]at h;obtain⟨⟨⟨⟨⟨⟨⟨h00,h0⟩,h1⟩,h2⟩,h3⟩,h4⟩,h5⟩,h6⟩:=h;refine⟨fun b l e=>?_,fun b l e=>iB b (by rw[e]at h00;exact h00),⟨fun s hs=>iS s (h1 s hs),fun s hs=>iB s (h2 s hs),fun s hs=>iX s (h3 s hs)⟩,fun b l e x hx9=>?_,fun T l e x hx9=>?_,fun f hf t ht=>iS t (h5 f hf t ht),fun c hc=>?_⟩
 .
  unfold aU0 at h0;rw[e]at h0;simp only at h0;split at h0
  .
   rename_i T y e2;exact⟨T,y,e2⟩
  .
   cases h0
 .
  obtain⟨⟨q1,q2⟩,q3⟩:=h4 x (List.mem_append_left _ (by rw[e];exact hx9));exact QA112
 .
  obtain⟨⟨q1,q2⟩,q3⟩:=h4 x (List.mem_append_right _ (by rw[e];exact hx9));exact QA112
 .
  obtain⟨⟨q1,q2⟩,q3⟩:=h6 c hc;exact⟨iS _ q1,iS _ q2,fun s hs=>iX s (q3 s hs)⟩
theorem yJ.noNc {A:AS}{u:Out}{S B X:Nat->Prop}(h:yJ A u S B X)(b:Bool):yJ A (noNc b u) S B X:=by
 unfold Eg.noNc;split
 .
  exact⟨h.up,h.ub,h.r,h.ul,h.nb,h.ns,fun c hc=>by cases hc⟩
 .
  exact h
end Eg
end
section
theorem QA62{p:Prop}(h:p:=by
 cases hb:bit ms j i with
 | false=>rfl
 | true=>exact absurd (hv.cl j i hj hb) Ef):p:=h
theorem QA65{p:Prop}(h:p:=by
 rcases hj with hj|rfl
 .
  exact .inl (hv.cl j k hj hk)
 .
  exact .inl (hr k hk)):p:=h
theorem QA90{p:Prop}(h:p:=by
 rcases hj with hj|rfl
 .
  exact hv.ls j hj
 .
  exact hi):p:=h
theorem QA105{p:Prop}(h:p:=by
 rcases h with h|⟨j,h1|rfl,h2,h3⟩
 .
  exact .inl h
 .
  exact .inr ⟨j,h1,h2,h3⟩
 .
  omega):p:=h
namespace Eg
theorem aK5 {A:AS}{K:List Bk}{b:Bool}(n:Nat)(o:Oper)(u:Out):trim { A with bk:=K,tg:=b } n o u=trim A n o u:=by
 unfold trim;split
 .
  rename_i c x y z e1 e2;simp only[aGk,aIt]
 .
  rfl
theorem Opd.bk {A:AS}{K:List Bk}{b:Bool}{S B X:Nat->Prop}{τ:Sm}{V:Vl}{a:Act}{x:Operand}(h:Opd A S B X τ V a x):Opd { A with bk:=K,tg:=b } S B X τ V a x:=by
 unfold Opd at *;rw[aIt];exact h
section
variable {C:Cx} {U:Value->Prop} {G:Cfg} {A:AS} {ops:Array Oper} {ms:List Nat} {I:List Ri} {f:Nat->AS} {g:Nat->Out} {st:Nat->Option Bool} {a0 a:Act} {L R:Nat->Prop} {τ0 τ:Sm} {V0 V:Vl} {K:List Bk} {b:Bool} {w:World} {i:Nat} {o:Oper} {ri:Ri}
theorem aNz {R:Nat->Prop}(he:(f (i+1)).sy.length=(f i).sy.length):Sb A f (fun j=>R j\/j=i)=Sb A f R:=by
 funext s;refine propext ⟨fun h=>?_,fun h=>aF4 h fun j h9=>.inl h9⟩;exact QA105
theorem aNy {R:Nat->Prop}(he:(f (i+1)).ni=(f i).ni):Xb A f (fun j=>R j\/j=i)=Xb A f R:=by
 funext s;refine propext ⟨fun h=>?_,fun h=>aF3 h fun j h9=>.inl h9⟩;exact QA105
theorem Inv.pass (h:dZ G A ops ms I f g st)(hv:Inv C U G A ops ms I f g st a0 V0 τ0 L R K b τ V a w)(Hx:G.nt<=a0.tmps.size)(ho:ops[i]?=some o)(Ef:¬L i)(hr:∀j,bit ms i j=true->L j)(hw:¬yH ops a o):Inv C U G A ops ms I f g st a0 V0 τ0 (fun j=>L j\/j=i) R K b τ V (a.put o.dst undef) w:=by
 have hi:i<ops.size:=(zI3.1 ho).1;have Ab:∀j,L j->bit ms j i=false:=fun j hj=>by
  exact QA62
 obtain⟨ri,Cy,Bh⟩:=h.step i o ho;have Un:G.nt<=a.tmps.size:=by rw[hv.nt];exact Hx
 have hsp:(g i).up=none/\(g i).nb=none/\(g i).br=false:=by
  cases hst:st i with
  | none=>
   obtain⟨u0,hu,Iy,hg,hri'⟩:=Bh.yes A65;have h1:=Iy hst;obtain⟨q1,q2,q3,q4,q5,q6⟩:=lK (A:=f i) A.sy.length o u0 (xH (st i));simp only[aRm,zC0,Option.isNone_iff_eq_none,Bool.not_eq_true']at h1;rw[hg,q2,q3,q6];exact⟨h1.1.1.1,h1.1.1.2,h1.1.2⟩
  | some b=>
   cases b with
   | true=>exact absurd ((mE h hv.sl ho hr).1 hst) hw| false=>rw[(Bh.no hst).1];exact⟨rfl,rfl,rfl⟩
 have Xu:=At.next h hv.at_ ho Cy hr Ef Ab
 have e1:(AS.lay { f i with bk:=K,tg:=b } o.dst (g i)).bk=K:=by simp only[AS.lay,hsp.1,hsp.2.1,Option.toList,List.append_nil]
 rw[e1,(h.row ho Cy).2.1,hsp.2.2,Bool.not_false,Bool.and_true]at Xu;refine⟨hv.kn,Xu,hv.sl.pass h hv.rl ho Ef Ab hr hw Un,fun j hj=>.inl (hv.rl j hj),fun j hj=>?_,fun j k hj hk=>?_,by rw[rR];exact hv.nt,by rw[aDi];exact hv.df,hv.tq,hv.ρ0,hv.β0,hv.ι0,fun j o' T z ds q1 q2 q3 q4=>hv.un j o' T z ds q1 q2 q3 (fun h9=>q4 (.inl h9)),hv.kl,hv.sub,fun h9=>hv.cf fun j rj q1 q2=>h9 j rj (.inl q1) q2,hv.nc⟩
 .
  exact QA90
 .
  exact QA65
theorem Inv.alloc (h:dZ G A ops ms I f g st)(Ns:aJd A (f ops.size) g ops.size)(hv:Inv C U G A ops ms I f g st a0 V0 τ0 L R K b τ V a w)(Hx:G.nt<=a0.tmps.size)(ho:ops[i]?=some o)(Ef:¬L i)(hr:∀j,bit ms i j=true->L j)(hw:yH ops a o){T:TypeId}(hT:o.op=.alloc T)(Q:Exit->Act->World->Prop):
  o.wp Tryz.prog a w (fun a' w'=>∃R' K' b' τ' V',Inv C U G A ops ms I f g st a0 V0 τ0 (fun j=>L j\/j=i) R' K' b' τ' V' a' w') Q:=by
 have hi:i<ops.size:=(zI3.1 ho).1;have Ab:∀j,L j->bit ms j i=false:=fun j hj=>by
  exact QA62
 obtain⟨ri,Cy,Bh⟩:=h.step i o ho;have Un:G.nt<=a.tmps.size:=by rw[hv.nt];exact Hx
 obtain⟨u0,hu,_,hg,_⟩:=Bh.yes fun e=>(mE h hv.sl ho hr).2 e hw;have hz:∃z ds,bJ T TZ=some (z,ds)/\u0={ r:=.c (.ptr (A.bk.length+nAl i ops.toList) 0) }:=by
  unfold aGq at hu;rw[hT]at hu;simp only at hu;split at hu
  .
   rename_i p e1 e2;cases hu;exact⟨p.1,p.2,e1,rfl⟩
  .
   cases hu
 obtain⟨z,ds,hz,rfl⟩:=hz;have Yx:g i={ r:=.c (.ptr (A.bk.length+nAl i ops.toList) 0) }:=by
  rw[hg];unfold noNc trim;simp only[hT];split <;> rfl
 have e1:(AS.lay { f i with bk:=K,tg:=b } o.dst (g i)).bk=K:=by rw[Yx];simp only[AS.lay,Option.toList,List.append_nil]
 have Xu:=At.next h hv.at_ ho Cy hr Ef Ab;rw[e1,(h.row ho Cy).2.1,Yx,Bool.not_false,Bool.and_true]at Xu
 have Jz:ri.nq=false:=by rw[(h.row ho Cy).2.2.1,Yx]
 have hp:=hv.un i o T z ds ho hT hz Ef;have eS:Sb A f (fun j=>R j\/j=i)=Sb A f R:=aNz (by rw[h.sy1 hi,Yx];simp);have eX:Xb A f (fun j=>R j\/j=i)=Xb A f R:=aNy (by rw[h.ni1 hi,Yx];rfl);have eB:Bb A ops (fun j=>R j\/j=i) K=fun n=>Bb A ops R K n\/n=A.bk.length+nAl i ops.toList:=by
  funext n;refine propext ⟨fun h9=>?_,fun h9=>?_⟩
  .
   by_cases e:n=A.bk.length+nAl i ops.toList
   .
    exact .inr e
   .
    refine .inl ⟨h9.1,fun j o' T' q1 q2 q3=>(h9.2 j o' T' q1 q2 q3).resolve_right fun e9=>?_⟩;subst e9;exact e q3
  .
   rcases h9 with h9|rfl
   .
    exact⟨h9.1,fun j o' T' q1 q2 q3=>.inl (h9.2 j o' T' q1 q2 q3)⟩
   .
    exact⟨dE hp,fun j o' T' q1 q2 q3=>.inr (aLy (cF q1) (cF ho) q2 hT A0)⟩
 have Ll:¬Bb A ops R K (A.bk.length+nAl i ops.toList):=fun h9=>Ef (hv.rl i (h9.2 i o T ho hT rfl));have hBlt:∀n,Bb A ops R K n->n<({ f ops.size with bk:=K,tg:=b }:AS).bk.length:=fun n hn=>hn.1;obtain⟨d,op,ty,pos,aft,gd⟩:=o;simp only at hT;subst hT;refine Oper.wp_mono ?_ (aCt hv.kn hz hp Ll hBlt Q);rintro a' w' ⟨τ',V',rfl,hb⟩;have Gv:∀n,n<A.bk.length->Bb A ops R K n:=fun n hn=>⟨Nat.lt_of_lt_of_le hn hv.kl,fun j o' T' q1 q2 q3=>by omega⟩;refine⟨fun j=>R j\/j=i,K,b,τ',V',⟨?_,Xu, ?_,fun j hj=>hj.imp (hv.rl j) id,fun j hj=>?_,fun j k hj hk=>?_,by rw[rR];exact hv.nt,by rw[aDi];exact hv.df,fun q1 q2=>hb.tg (hv.tq q1 q2),fun s hs=>(hb.ρ s (.inl hs)).trans (hv.ρ0 s hs),fun n hn=>(hb.β n (Gv n hn)).trans (hv.β0 n hn),fun c hc=>(hb.ι c (.inl hc)).trans (hv.ι0 c hc),fun j o' T' z' Mq q1 q2 q3 q4=>hv.un j o' T' z' Mq q1 q2 q3 (fun h9=>q4 (.inl h9)),hv.kl,hv.sub.trans hb.sub,fun h9=>?_, ?_⟩⟩
 .
  rw[eS,eX,eB];exact hb.kn
 .
  rw[eS,eX,eB];refine hv.sl.take h hv.rl ho Ef Ab hr hw Un hb.sub hb.ρ hb.β hb.ι (fun _ h9=>h9) (fun _ h9=>.inl h9) (fun _ h9=>h9) ?_ ?_
  .
   rw[Yx];exact rfl
  .
   rw[Yx];exact⟨fun s hs=>(by cases hs),fun n hn=>(by simp only[AV.bs,CV.bs,List.mem_singleton]at hn;exact .inr hn),fun s hs=>(by cases hs)⟩
 .
  exact QA90
 .
  exact QA65
 .
  obtain⟨c1,c2⟩:=hv.cf fun j rj q1 q2=>h9 j rj (.inl q1) q2;have kd:∀c,({ f ops.size with bk:=K,tg:=b }:AS).kd c=(f ops.size).kd c:=fun c=>rfl;refine⟨fun c hc=>?_,fun j hj c hc=>?_⟩
  .
   obtain⟨k1,k2⟩:=Ns.k c (.inl hc);obtain⟨o1,o2,o3⟩:=Ns.o c hc;exact Cf.on hv.kn k1 k2 (.inl o1) (.inl o2) (fun x hx=>.inl (o3 x hx)) hb.qt hb.ρ hb.ι (c1 c hc)
  .
   rcases hj with hj|rfl
   .
    obtain⟨k1,k2⟩:=Ns.k c (.inr ⟨j,hv.ls j (hv.rl j hj),hc⟩);obtain⟨o1,o2,o3⟩:=hv.nc j hj c hc;exact Cf.on hv.kn k1 k2 o1 o2 o3 hb.qt hb.ρ hb.ι (c2 j hj c hc)
   .
    rw[Yx]at hc;cases hc
 .
  rw[eS,eX];intro j hj c hc;rcases hj with hj|rfl
  .
   exact hv.nc j hj c hc
  .
   rw[Yx]at hc;cases hc
end
end Eg
end
section
theorem A82{p:Prop}(h:p:=by have:=hRs j h1;omega):p:=h
namespace Eg
section
variable {C:Cx} {U:Value->Prop} {G:Cfg} {A:AS} {ops:Array Oper} {ms:List Nat} {I:List Ri} {f:Nat->AS} {g:Nat->Out} {st:Nat->Option Bool} {a0 a:Act} {L R:Nat->Prop} {τ0 τ:Sm} {V0 V:Vl} {K:List Bk} {b:Bool} {w:World} {i:Nat} {o:Oper} {ri:Ri}
theorem aD8 {E:AS}{d:Option Nat}{u:Out}:(E.lay d u).bk.length=E.bk.length+u.nb.toList.length:=by
 unfold AS.lay;simp only[zA1];split
 .
  split
  .
   rw[mW]
  .
   rfl
 .
  rfl
theorem vS {α:Type}{y:α}:∀{l:List α} {n m:Nat},m ≠ n->at? (put l n y) m=at? l m
 | [],_,_,_=>rfl| _ :: l,0,0,h=>absurd rfl h| _ :: l,0,m+1,h=>rfl| z :: l,n+1,0,h=>rfl| z :: l,n+1,m+1,h=>by
  simp only[put,at?];exact vS A0
theorem dZ.bkLe (h:dZ G A ops ms I f g st){k:Nat}:∀{n:Nat},k<=n->n<=ops.size->(f k).bk.length<=(f n).bk.length
 | 0,hk,_=>by rw[show k=0 by omega];exact zB0 _
 | n+1,hk,hn=>by
  rcases Nat.lt_or_eq_of_le hk with h1|h1
  .
   have h2:=h.bkLe (k:=k) (n:=n) A0 A0;obtain⟨o,ho⟩:=mZ (ops:=ops) (k:=n) A0;rw[h.lay ho,aD8];omega
  .
   rw[h1];exact zB0 _
theorem kS {ops:List Oper}{is:List Ri}{gd:Option (Nat × Bool)}:∀{l:List Operand},zI ops ms is i gd l=true->∀x ∈ l,aDu ops ms is i gd none x=true
 | [],_,x,h=>by cases h
 | y :: l,h,x,hx=>by
  simp only[zI,zC0]at h;rcases zG3.1 hx with rfl|hx
  .
   exact h.1
  .
   exact kS h.2 x hx
theorem uE (h:dZ G A ops ms I f g st){S B X:Nat->Prop}(hs:Sl A ops g st a0 L R S B X τ V a)(ho:ops[i]?=some o)(hr:∀j,bit ms i j=true->L j)(Ab:∀j,L j->bit ms j i=false){pk:Option (Nat × Bool)}(hw:yH ops a o)(hpk:∀c b,pk=some (c,b)->a.eval (.tmp c)=.bool b){x:Operand}(hk:aDu ops.toList ms (I.take i) i o.guard pk x=true):Opd (f i) S B X τ V a x:=by
 cases x with
 | tmp t=>exact yT h hs ho hr Ab hw hpk hk| const v=>
  obtain⟨q1,q2,q3⟩:=aFz S B X v;exact⟨aFy τ V v,q1,q2,q3⟩
 | _=>exact⟨trivial,fun s h=> A68,fun s h=> A68,fun s h=> A68⟩
theorem Inv.other (h:dZ G A ops ms I f g st)(hE:aN8 C G)(hU:G.us=true->UsE C U A V0)(Ns:aJd A (f ops.size) g ops.size)(hv:Inv C U G A ops ms I f g st a0 V0 τ0 L R K b τ V a w)(Hx:G.nt<=a0.tmps.size)(ho:ops[i]?=some o)(Ef:¬L i)(hr:∀j,bit ms i j=true->L j)(hw:yH ops a o)(hT:∀T,o.op ≠ .alloc T)(Q:Exit->Act->World->Prop):
  o.wp Tryz.prog a w (fun a' w'=>∃R' K' b' τ' V',Inv C U G A ops ms I f g st a0 V0 τ0 (fun j=>L j\/j=i) R' K' b' τ' V' a' w') Q:=by
 have hi:i<ops.size:=(zI3.1 ho).1;have Ab:∀j,L j->bit ms j i=false:=fun j hj=>by
  exact QA62
 obtain⟨ri,Cy,Bh⟩:=h.step i o ho;have Un:G.nt<=a.tmps.size:=by rw[hv.nt];exact Hx
 obtain⟨u0,hu,_,hg,hri'⟩:=Bh.yes fun e=>(mE h hv.sl ho hr).2 e hw;have Ir:bR G (f i) o=some u0/\spk A (f i) o (trim (f i) A.sy.length o u0)=true:=by
  unfold aGq at hu;split at hu
  .
   rename_i T e;exact absurd e (hT T)
  .
   simp only[Option.bind_eq_some_iff]at hu;obtain⟨u1,q1,q2⟩:=hu;split at q2
   .
    rename_i q3;cases q2;exact⟨q1,q3⟩
   .
    cases q2
 obtain⟨Ui,hspk⟩:=Ir;have Uk:ri.nk=false->K=(f i).bk/\b=(f i).tg:=fun h9=>At.ready h hv.at_ hi Cy h9 hr Ef Ab;have hsp:(g i).up.isSome=true\/(g i).nb.isSome=true->K=(f i).bk/\b=(f i).tg:=fun h9=>by
  refine Uk ((jN h.ord Cy).1 ?_);rw[(h.row ho Cy).1];rcases h9 with h9|h9 <;> rw[h9] <;> simp
 have hu2:bR G { f i with bk:=K,tg:=b } o=some u0:=by
  cases hnk:ri.nk with
  | true=>
   rw[hri']at hnk;rw[aDw hnk];exact Ui
  | false=>
   obtain⟨e1,e2⟩:=Uk hnk;rw[e1,e2];exact Ui
 obtain⟨t1,t2,t3,t4,t5,t6⟩:=lK (A:=f i) A.sy.length o u0 (xH (st i));rw[<-hg]at t1 t2 t3 t4 t5 t6;have kn1:Kn C U { ({ f i with bk:=K,tg:=b }:AS) with sy:=(f ops.size).sy } (Sb A f R) (Bb A ops R K) (Xb A f R) τ V w:=hv.kn.like rfl rfl rfl;have kn2:Kn C U { f i with bk:=K,tg:=b } (Sb A f R) (Bb A ops R K) (Xb A f R) τ V w:=kn1.pre fun s x hx=>h.syIn A0 hx;have hRs:∀j,R j->j<ops.size:=fun j hj=>hv.ls j (hv.rl j hj);have hnR:¬R i:=fun h9=>Ef (hv.rl i h9);have hSlt:∀s,Sb A f R s->s<(f ops.size).sy.length:=fun s hs=>by
  rcases hs with hs|⟨j,h1,h2,h3⟩
  .
   have:=h.syLe (k:=0) (n:=ops.size) A0 (zB0 _);rw[h.f0]at this;exact Nat.lt_of_lt_of_le hs this
  .
   have:=h.syLe (k:=j+1) (n:=ops.size) A82 (zB0 _);omega
 have hSyIn:=hv.kn.syIn hSlt;have hC:Ctx C U G { f i with bk:=K,tg:=b } (Sb A f R) (Bb A ops R K) V w:=aQ1 (E:=A) hE (fun hg=>(hU hg).on (zB0 _) hv.ρ0) kn2 fun s hs=>.inl hs;have hn:∀q,q<u0.ns.length->¬Sb A f R ((f i).sy.length+q):=fun q hq=>aRf h hRs hi hnR (by rw[t1];exact hq);have hnX:u0.nx=true->¬Xb A f R (f i).ni:=fun hx=>aRb h hRs hi hnR (by rw[t4];exact hx);have Ll:¬Bb A ops R K K.length:=fun h9=>Nat.lt_irrefl _ h9.1;have hcf:u0.cu=true->∀c ∈ A.cf,c.ok V w:=fun hcu=>by
  refine(hv.cf fun m rm hm hrm=>?_).1;cases hq:rm.nq with
  | false=>rfl| true=>
   obtain⟨_,h1⟩:=jN h.ord hrm;rw[zJ1]at h1;have Ae:0+i ≠ m:=fun e=>Ef (by rw[show i=m by omega];exact hm);have h2:=(rV h1 Cy Ae).1 hq (by rw[hri'];exact hcu);rw[zJ1]at h2;rw[Ab m hm]at h2;cases h2
 have Cz:=Bh.look;have Ln:∀x ∈ nW o,Opd (f i) (Sb A f R) (Bb A ops R K) (Xb A f R) τ V a x:=by
  intro x hx;unfold nW at hx;unfold zW at Cz;cases hop:o.op with
  | pick c y z=>
   rw[hop]at hx Cz;simp only[List.mem_singleton]at hx;subst hx;cases x with
   | tmp t=>
    simp only[zC0]at Cz;exact yT h hv.sl ho hr Ab hw (pk:=none) (fun c b e=>by cases e) Cz.1.1
   | _=>
    simp only at Cz;exact uE h hv.sl ho hr Ab hw (pk:=none) (fun c b e=>by cases e) (kS Cz _ A15)
  | _=>
   rw[hop]at hx Cz;exact uE h hv.sl ho hr Ab hw (pk:=none) (fun c b e=>by cases e) (kS Cz x hx)
 have ok:dD C U { f i with bk:=K,tg:=b } o u0 (Sb A f R) (Bb A ops R K) (Xb A f R) τ V a w:=by
  by_cases hp:∃x y z,o.op=.pick x y z
  .
   obtain⟨c,y,z,hp⟩:=hp;have hc:Opd (f i) (Sb A f R) (Bb A ops R K) (Xb A f R) τ V a c:=Ln c (by unfold nW;rw[hp];simp);have Yf:(∀q,a.eval c=.bool q->Opd (f i) (Sb A f R) (Bb A ops R K) (Xb A f R) τ V a (if q then y else z)):=by
    intro q hq;unfold zW at Cz;rw[hp]at Cz;cases c with
    | tmp t=>
     simp only[zC0]at Cz;cases q with
     | true=>exact uE h hv.sl ho hr Ab hw (pk:=some (t,true)) (fun c b e=>by cases e;exact hq) Cz.1.2
     | false=>exact uE h hv.sl ho hr Ab hw (pk:=some (t,false)) (fun c b e=>by cases e;exact hq) Cz.2
    | _=>
     simp only at Cz;exact uE h hv.sl ho hr Ab hw (pk:=none) (fun c b e=>by cases e) (kS Cz _ (by cases q <;> simp[Op.operands]))
   obtain⟨d,op,ty,pos,aft,gd⟩:=o;simp only at hp;subst hp;exact aLp kn2 hc.bk (fun e=>(Yf true e).bk) (fun e=>(Yf false e).bk) hu2
  .
   have hp':∀x y z,o.op ≠ .pick x y z:=fun x y z e=>hp ⟨x,y,z,e⟩;have elk:nW o=o.op.operands.toList:=by
    unfold nW;split
    .
     rename_i c y z e;exact absurd e (hp' c y z)
    .
     rfl
   refine aSz kn2 hSyIn hC hu2 hp' (fun x hx=>(Ln x (by rw[elk];exact hx)).bk) (fun hcu c hc=>?_) hn hnX Ll;have:c ∈ (f i).cf:=hc;rw[h.cf A0]at this;exact hcf hcu c this
 refine Oper.wp_mono ?_ (ok Q);rintro a' w' ⟨v,τ',V',rfl,Cb⟩;have Cb:=Cb.trim (n:=A.sy.length) (o:=o) (xH (st i));rw[aK5,<-hg]at Cb;have Xu:=At.next h hv.at_ ho Cy hr Ef Ab
 have Af:(AS.lay { f i with bk:=K,tg:=b } o.dst (g i)).bk.length=K.length+(g i).nb.toList.length:=aD8;have esy:(f (i+1)).sy.length=(f i).sy.length+(g i).ns.length:=by rw[h.sy1 hi];simp
 have Bq:∀s,s<A.sy.length->Sb A f (fun j=>R j\/j=i) s:=fun s hs=>.inl hs;have Kf:∀s,Sb A f R s->Sb A f (fun j=>R j\/j=i) s:=fun s hs=>aF4 hs fun j h9=>.inl h9;have Vn:∀s,Xb A f R s->Xb A f (fun j=>R j\/j=i) s:=fun s hs=>aF3 hs fun j h9=>.inl h9;have Xv:∀n,Bb A ops R K n->Bb A ops (fun j=>R j\/j=i) (AS.lay { f i with bk:=K,tg:=b } o.dst (g i)).bk n:=fun n hn=>⟨by rw[Af];have:=hn.1;omega,fun j o' T' q1 q2 q3=>.inl (hn.2 j o' T' q1 q2 q3)⟩;have Gz:∀n,n<A.bk.length->Bb A ops R K n:=fun n hn=>⟨Nat.lt_of_lt_of_le hn hv.kl,fun j o' T' q1 q2 q3=>by omega⟩;have Tx:∀n,Bb A ops (fun j=>R j\/j=i) (AS.lay { f i with bk:=K,tg:=b } o.dst (g i)).bk n->Bb A ops R K n\/n=K.length:=fun n hn=>by
  rcases zJ2 n K.length with h9|h9
  .
   refine .inl ⟨h9,fun j o' T' q1 q2 q3=>(hn.2 j o' T' q1 q2 q3).resolve_right fun e=>?_⟩;subst e;rw[ho]at q1;cases q1;exact hT _ q2
  .
   have:=hn.1;rw[Af]at this;have h8:(g i).nb.toList.length<=1:=by cases (g i).nb <;> simp
   exact .inr A0
 have hnbB:∀n,(f i).bk.length<=n->n<(f i).bk.length+(g i).nb.toList.length->Bb A ops (fun j=>R j\/j=i) (AS.lay { f i with bk:=K,tg:=b } o.dst (g i)).bk n:=fun n h1 h2=>by
  have hsome:(g i).nb.isSome=true:=by
   cases e:(g i).nb with
   | none=>rw[e]at h2;simp at h2;omega| some x=>rfl
  obtain⟨e1,_⟩:=hsp (.inr hsome);refine⟨by rw[Af,e1];exact h2,fun j o' T' q1 q2 q3=>?_⟩;obtain⟨_,z,ds,hz⟩:=sZ h.al (cF q1) q2;have h3:=dE (zB (cF q1) q2 hz);have h4:=h.bkLe (k:=0) (n:=i) A0 A0;rw[h.f0]at h4;simp only[zA1]at h4;omega
 have spo:yJ (f i) (g i) (Sb A f (fun j=>R j\/j=i)) (Bb A ops (fun j=>R j\/j=i) (AS.lay { f i with bk:=K,tg:=b } o.dst (g i)).bk) (Xb A f (fun j=>R j\/j=i)):=by
  rw[show yJ (f i) (g i)=yJ (f i) (noNc (xH (st i)) (trim (f i) A.sy.length o u0)) from congrArg _ hg];obtain⟨p1,p2,p3,p4,p5,p6⟩:=lK (A:=f i) A.sy.length o u0 false;have p0:noNc false (trim (f i) A.sy.length o u0)=trim (f i) A.sy.length o u0:=rfl;rw[p0]at p1 p2 p3 p4 p5 p6;refine(aOi hspk (fun x hx=>?_) Bq (fun n hn=>Xv n (Gz n hn)) (fun c hc=>Or.inl hc) (fun s h1 h2=>?_) (fun n h1 h2=>?_) (fun hx=>?_)).noNc _
  .
   obtain⟨_,q2,q3,q4⟩:=Ln x hx;exact⟨fun s hs=>Kf s (q2 s hs),fun s hs=>Xv s (q3 s hs),fun s hs=>Vn s (q4 s hs)⟩
  .
   rw[p1,<-t1]at h2;exact .inr ⟨i,.inr rfl,h1,by omega⟩
  .
   rw[p2,<-t2]at h2;exact hnbB n h1 h2
  .
   refine .inr ⟨i,.inr rfl,zB0 _, ?_⟩;rw[p4,<-t4]at hx;rw[h.ni1 hi,hx];exact Nat.lt_succ_self _
 have hupIn:aRw { f i with bk:=K,tg:=b } (g i):=fun n l e=>by
  obtain⟨e1,e2⟩:=hsp (.inl A80);obtain⟨T,x,h9⟩:=spo.up n l e;exact⟨T,x,by rw[e1];exact h9⟩
 have kn3:=kn1.post (d:=o.dst) Cb hupIn (S':=Sb A f (fun j=>R j\/j=i)) (B':=Bb A ops (fun j=>R j\/j=i) (AS.lay { f i with bk:=K,tg:=b } o.dst (g i)).bk) (X':=Xb A f (fun j=>R j\/j=i))
  (fun q x hq hx=>h.syNew hi hq hx) (fun s hs=>aRg hs esy) Kf Tx Xv Ll Vn (fun q x hq t ht=>spo.ns x (by rw[dP]at hq;exact zA3 hq) t ht) spo.ul spo.nb
 refine⟨fun j=>R j\/j=i,(AS.lay { f i with bk:=K,tg:=b } o.dst (g i)).bk,b && !ri.br,τ',V',⟨?_,Xu, ?_,fun j hj=>hj.imp (hv.rl j) id,fun j hj=>?_,fun j k hj hk=>?_,by rw[rR];exact hv.nt,by rw[aDi];exact hv.df,fun q1 q2=>Cb.tg (by rw[t6];exact aDv (hE.st ▸ q1) Ui) (hv.tq q1 q2),fun s hs=>(Cb.ρ s (.inl hs)).trans (hv.ρ0 s hs),fun n hn=>(Cb.β n (Gz n hn)).trans (hv.β0 n hn),fun c hc=>(Cb.ι c (.inl hc)).trans (hv.ι0 c hc),fun j o' T' z' Mq q1 q2 q3 q4=>?_,by rw[Af];have:=hv.kl;omega,hv.sub.trans Cb.sub,fun h9=>?_,fun j hj c hc=>?_⟩⟩
 .
  exact kn3.like rfl rfl (by rw[(h.row ho Cy).2.1];rfl)
 .
  exact hv.sl.take h hv.rl ho Ef Ab hr hw Un Cb.sub Cb.ρ Cb.β Cb.ι Kf Xv Vn Cb.r spo.r
 .
  exact QA90
 .
  exact QA65
 .
  have Xj:¬L j:=fun h9=>q4 (.inl h9);have h1:=hv.un j o' T' z' Mq q1 q2 q3 Xj;cases hup:(g i).up with
  | none=>
   simp only[AS.lay,hup];rw[cO,if_pos (dE h1)];exact h1
  | some p=>
   obtain⟨n,l⟩:=p;obtain⟨T,x,hx⟩:=hupIn n l hup;have Gh:at? K n=some (.cells T x):=hx;have Ae:n ≠ A.bk.length+nAl j ops.toList:=fun e=>by
    rcases (spo.ub n l hup).2 j o' T' q1 q2 e with h9|h9
    .
     exact Xj (hv.rl j h9)
    .
     exact q4 (.inr h9)
   simp only[AS.lay,hup,hx];rw[cO,if_pos (by rw[mW];exact dE h1)];exact(vS (Ne.symm Ae)).trans h1
 .
  obtain⟨c1,c2⟩:=hv.cf fun j rj q1 q2=>h9 j rj (.inl q1) q2;have hq:=Cb.qt (by rw[<-(h.row ho Cy).2.2.1];exact h9 i ri (.inr rfl) Cy);refine⟨fun c hc=>?_,fun j hj c hc=>?_⟩
  .
   obtain⟨k1,k2⟩:=Ns.k c (.inl hc);obtain⟨o1,o2,o3⟩:=Ns.o c hc;exact Cf.on hv.kn k1 k2 (.inl o1) (.inl o2) (fun x hx=>.inl (o3 x hx)) hq Cb.ρ Cb.ι (c1 c hc)
  .
   rcases hj with hj|rfl
   .
    obtain⟨k1,k2⟩:=Ns.k c (.inr ⟨j,hv.ls j (hv.rl j hj),hc⟩);obtain⟨o1,o2,o3⟩:=hv.nc j hj c hc;exact Cf.on hv.kn k1 k2 o1 o2 o3 hq Cb.ρ Cb.ι (c2 j hj c hc)
   .
    exact Cb.nc c hc
 .
  rcases hj with hj|rfl
  .
   obtain⟨o1,o2,o3⟩:=hv.nc j hj c hc;exact⟨Kf _ o1,Kf _ o2,fun x hx=>Vn x (o3 x hx)⟩
  .
   exact spo.nc c hc
end
end Eg
end
end Go.Proofs.YtcbhdhmhidpdgaaGreat

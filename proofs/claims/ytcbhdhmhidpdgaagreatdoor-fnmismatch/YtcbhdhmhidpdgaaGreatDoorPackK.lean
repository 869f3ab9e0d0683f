import Derived.Test.YtcbhdhmhidpdgaaGreatDoorPackJ
import Derived.Orders
namespace Go.Proofs.YtcbhdhmhidpdgaaGreatDoor
open Go.RowKit
set_option linter.unusedVariables false
set_option linter.unusedSimpArgs false
set_option maxRecDepth 100000
section
theorem QA91{p:Prop}(h:p:=by
 simp only[Lib.bytesWorld,World.freeze];split <;> rfl):p:=h
theorem QA123{p:Prop}(h:p:=by
 simp only[World.freeze];split <;> rfl):p:=h
namespace Eg
theorem M961{p q:Prop}(k:q)(h:Kx q->p:=by
 intro kQ
 simp only[Instr.sliceAt,Sem.run_bind,run_underlying hT,Result.andThen_ok,Instr.slice,Instr.sliceBounds,Instr.sliceBound,asIntOf,Sem.run_pure]
 rw[if_pos h9]
 exact kQ.o):p:=h ⟨k⟩
section
variable {C:Cx} {U:Value->Prop} {G:Cfg} {A:AS} {S B X:Nat->Prop} {τ τ':Sm} {V V':Vl} {a:Act} {w w':World} {d:Option Nat} {ty:TypeId} {pos:String} {aft:Array Edge} {gd:Option (Nat × Bool)}
theorem aGf {T:Nat}{k:Rs}{b o n c:Nat}(hT:Tryz.prog.underlying T=some (.slice k.ty))(hn:1<=n):(Instr.sliceAt T (.slice (some ⟨b,o,none⟩) n c) (some (.int .i64 1)) none none).run Tryz.prog w=.ok (.slice (some (if c=1 then ⟨b,o,none⟩ else ⟨b,o+1*k.k,none⟩)) (n-1) (c-1)) w:=by
 have Bg:=aD0 k;have h9:(0:Int)<=1/\(1:Int)<=(n:Int):=A0;refine M961 ?_;simp only[Sem.run_pure,Result.andThen_ok,Sem.run_bind,Option.map_some,Bg,Addr.add_lit,Int.toNat_one];split <;> rfl
theorem aGs (h:Kn C U A S B X τ V w){x lo:Operand}{T:Nat}(hx:Opd A S B X τ V a x)(hl:Opd A S B X τ V a lo){u:Out}(hu:bP G A ⟨d,.slice T x (some lo) none none,ty,pos,aft,gd⟩=some u)(hn:∀q,q<u.ns.length->¬S (A.sy.length+q)):dA C U A ⟨d,.slice T x (some lo) none none,ty,pos,aft,gd⟩ u S B X τ V a w:=by
 simp only[bP]at hu;split at hu
 .
  rename_i s e1 e2;obtain⟨h1,h2,_⟩:=hx;rw[e1]at h1 h2;have h3:=hl.1;rw[e2]at h3;have Jj:S s:=h2 s A16;split at hu
  .
   rename_i f hf;split at hu
   .
    rename_i hh;simp only[zC0,zE3]at hh;cases hu;have Fk:=h.sy s f hf Jj;obtain⟨i,e3,h4,h5⟩:=h3;obtain rfl:i=1:=A0;have hv:a.eval x=V.ρ s:=h1;have Ah:=Fk.2.1;rcases Fk.1 with⟨e,h0⟩|⟨b,j,c,so,e,Ff,hk,Tx,hc,Hk⟩
    .
     omega
    .
     have hT:=aNs hh.1;have Bg:=aD0 f.k;have hrun:(execOp a.eval ⟨d,.slice T x (some lo) none none,ty,pos,aft,gd⟩).run Tryz.prog w=.ok (.value (.slice (some (if c=1 then ⟨b,j*f.k.k,none⟩ else ⟨b,j*f.k.k+1*f.k.k,none⟩)) (ln (V.ρ s)-1) (c-1))) w:=by
      have hvx:=hv.trans e;simp only[execOp,Option.map_some,Option.map_none,e3,Sem.run_bind];rw[hvx,aGf hT A0];rfl
     have Sy:SV τ f.k (ln (V.ρ s)-1) (.slice (some (if c=1 then ⟨b,j*f.k.k,none⟩ else ⟨b,j*f.k.k+1*f.k.k,none⟩)) (ln (V.ρ s)-1) (c-1)):=by
      right;by_cases Gk:c=1
      .
       rw[if_pos Gk];exact⟨b,j,c-1,so,rfl,Ff,hk,by omega,by omega,by omega⟩
      .
       rw[if_neg Gk];exact⟨b,j+1,c-1,so,by rw[Nat.add_mul],Ff,hk,by omega,by omega,by omega⟩
     have hV:(V.add A.sy.length [.slice (some (if c=1 then ⟨b,j*f.k.k,none⟩ else ⟨b,j*f.k.k+1*f.k.k,none⟩)) (ln (V.ρ s)-1) (c-1)]).ρ A.sy.length=.slice (some (if c=1 then ⟨b,j*f.k.k,none⟩ else ⟨b,j*f.k.k+1*f.k.k,none⟩)) (ln (V.ρ s)-1) (c-1):=Vl.add_at (q:=0) rfl;have Ja:=gY (V:=V) (S:=S) (c:=A.sy.length) (us:=[.slice (some (if c=1 then ⟨b,j*f.k.k,none⟩ else ⟨b,j*f.k.k+1*f.k.k,none⟩)) (ln (V.ρ s)-1) (c-1)]) (fun q hq=>hn q A51);refine dA.val hrun (Res.same (V':=V.add A.sy.length [_]) h rfl rfl Ja (fun _ _=>rfl) (fun _ _=>rfl) (fun q g hq=>?_) hV.symm (fun c hc=>by cases hc));cases q with
     | succ q=>simp[at?]at hq| zero=>
      simp only[at?,zG2]at hq;subst hq;rw[zG1,hV];have a2:=Fk.2.2.1;refine⟨Sy, ?_, ?_, ?_,(fun h9=>by cases h9),(fun h9=>by cases h9),(fun s9 h9=>by cases h9)⟩
      .
       show f.lo-1<=ln (V.ρ s)-1;omega
      .
       show ln (V.ρ s)-1<=f.hi-1;omega
      .
       intro ho hst g hg;have Ew:g=b:=by
        simp only[Value.ownBlock]at hg;split at hg <;> simpa using hg.symm
       subst Ew;exact Fk.2.2.2.1 ho hst g A76
   .
    cases hu
  .
   cases hu
 .
  cases hu
theorem aGh {T:Nat}{k:Rs}{p:Option Addr}{n c h:Nat}(hT:Tryz.prog.underlying T=some (.slice k.ty))(hn:h<=n)(hc:n<=c)(hp:p=none->c=0):(Instr.sliceAt T (.slice p n c) none (some (.int .i64 h)) none).run Tryz.prog w=.ok (.slice p h c) w:=by
 have Bg:=aD0 k;have h9:(0:Int)<=(h:Int)/\(h:Int)<=(c:Int):=A0;refine M961 ?_;cases p with
 | none=>
  have:=hp rfl;subst this;have:h=0:=A0;subst this;simp[Sem.run_pure,Result.andThen_ok,Sem.run_bind,Bg]
 | some ad=>
  simp[Sem.run_pure,Result.andThen_ok,Sem.run_bind,Bg];intro _;obtain⟨b,o,q⟩:=ad;cases q <;> simp[Addr.add]
theorem aDj (h:Kn C U A S B X τ V w){x hi:Operand}{T:Nat}(hx:Opd A S B X τ V a x)(hl:Opd A S B X τ V a hi){u:Out}(hu:bP G A ⟨d,.slice T x none (some hi) none,ty,pos,aft,gd⟩=some u)(hn:∀q,q<u.ns.length->¬S (A.sy.length+q)):dA C U A ⟨d,.slice T x none (some hi) none,ty,pos,aft,gd⟩ u S B X τ V a w:=by
 simp only[bP]at hu;split at hu
 .
  rename_i s n m e1 e2;obtain⟨h1,h2,_⟩:=hx;rw[e1]at h1 h2;have h3:=hl.1;rw[e2]at h3;have Jj:S s:=h2 s A16;split at hu
  .
   rename_i f hf;split at hu
   .
    rename_i hh;simp only[zC0,zE3]at hh;obtain⟨⟨⟨hT,rfl⟩,h0⟩,Ki⟩:=hh;cases hu;have Fk:=h.sy s f hf Jj;obtain⟨i,e3,h4,h5⟩:=h3;obtain rfl:i=n:=A0;obtain⟨k,rfl⟩:∃k:Nat,i=k:=⟨i.toNat,by omega⟩
    have hv:a.eval x=V.ρ s:=h1;have Ah:=Fk.2.1;obtain⟨p,c,e,Fu,_,Me⟩:=Fk.1.sh h.fr.th;have Ce:k<=ln (V.ρ s):=A0;have hrun:(execOp a.eval ⟨d,.slice T x none (some hi) none,ty,pos,aft,gd⟩).run Tryz.prog w=.ok (.value (.slice p k c)) w:=by
     have hvx:=hv.trans e;simp only[execOp,Option.map_some,Option.map_none,e3,Sem.run_bind];rw[hvx,aGh (aNs hT) Ce Fu Me];rfl
    have Sy:SV τ f.k k (.slice p k c):=by
     rcases Fk.1 with⟨e9,h9⟩|⟨b,j,c',so,e9,Ff,hk,Tx,hc,Hk⟩
     .
      rw[e]at e9;simp only[Value.slice.injEq]at e9;obtain⟨rfl,h8,rfl⟩:=e9;obtain rfl:k=0:=A0;exact SV.nil _
     .
      rw[e]at e9;simp only[Value.slice.injEq]at e9;obtain⟨rfl,_,rfl⟩:=e9;exact .inr ⟨b,j,c,so,rfl,Ff,hk,by omega,by omega,Hk⟩
    have hV:(V.add A.sy.length [.slice p k c]).ρ A.sy.length=.slice p k c:=Vl.add_at (q:=0) rfl;have Ja:=gY (V:=V) (S:=S) (c:=A.sy.length) (us:=[.slice p k c]) (fun q hq=>hn q A51);refine dA.val hrun (Res.same (V':=V.add A.sy.length [_]) h rfl rfl Ja (fun _ _=>rfl) (fun _ _=>rfl) (fun q g hq=>?_) hV.symm (fun c hc=>by cases hc));cases q with
    | succ q=>simp[at?]at hq| zero=>
     simp only[at?,zG2]at hq;subst hq;rw[zG1,hV];refine⟨Sy,by show(k:Int).toNat<=k;omega,by show k<=(k:Int).toNat;omega, ?_,(fun h9=>by cases h9),(fun h9=>by cases h9),(fun s9 h9=>by cases h9)⟩;intro ho hst g hg;exact Fk.2.2.2.1 ho hst g (by rw[e];cases p <;> exact hg)
   .
    cases hu
  .
   cases hu
 .
  cases hu
theorem aJ9:Tryz.prog.underlying 5=some (.int .u8):=Tryz.underlying5
theorem aPg:Tryz.prog.underlying 3=some (.int .i64):=Tryz.underlying3
theorem aNl:Tryz.prog.underlying 9=some .string:=Tryz.underlying9
theorem aAp:Tryz.prog.underlying 22=some (.slice 5):=Tryz.underlying22
theorem wrap_u8 (n:Int):0<=IntKind.u8.wrap n/\IntKind.u8.wrap n<=255:=by
 have:IntKind.u8.wrap n=n % 256:=by simp[IntKind.wrap,IntKind.signed,IntKind.bits]
 omega
theorem aGg {b o n c:Nat}{cs:Array Value}{fl:Nat × Nat}(hb:w.heap[b]?=some (.cells cs 5 fl)):(convert 22 22 (.slice (some ⟨b,o,none⟩) n c)).run Tryz.prog w=.ok (.slice (some ⟨b,o,none⟩) n c) (w.freeze ⟨b,cs.size,none⟩ 1):=by
 have hsh:w.shape? b=some (5,cs.size):=by unfold World.shape?;rw[hb]
 simp[convert,run_underlying aAp,run_underlying aJ9,markStringish,hsh]
theorem uR {b n:Nat}{cs:Array Value}{T:TypeId}{fl:Nat × Nat}(hb:w.heap[b]?=some (.cells cs T fl)):∃fl',(w.freeze ⟨b,n,none⟩ 1).heap[b]?=some (.cells cs T fl'):=by
 unfold World.freeze;rw[if_neg A6];simp only[Array.getElem?_modify,if_true,hb,Option.map_some];exact⟨_,rfl⟩
theorem iJ {b n g:Nat}(hg:g ≠ b):(w.freeze ⟨b,n,none⟩ 1).heap[g]?=w.heap[g]?:=by
 unfold World.freeze;rw[if_neg A6];simp only[Array.getElem?_modify];rw[if_neg (Ne.symm hg)]
theorem xB {b n:Nat}:(w.freeze ⟨b,n,none⟩ 1).heap.size=w.heap.size:=by
 unfold World.freeze;rw[if_neg A6];simp
theorem aBf (h:Kn C U A S B X τ V w)(Vg:C.st=G.st){x:Operand}{T D:Nat}(hx:Opd A S B X τ V a x){u:Out}(hu:bP G A ⟨d,.convert T D x,ty,pos,aft,gd⟩=some u)(hn:∀q,q<u.ns.length->¬S (A.sy.length+q)):dA C U A ⟨d,.convert T D x,ty,pos,aft,gd⟩ u S B X τ V a w:=by
 obtain⟨h1,h2,_⟩:=hx;simp only[bP]at hu;split at hu
 .
  rename_i hT;simp only[zC0,beq_iff_eq]at hT;obtain⟨rfl,rfl⟩:=hT;split at hu
  .
   rename_i e;rw[e]at h1;obtain⟨s,e1,hs⟩:=h1;cases hu;have hrun:=Lib.run_convert_string_bytes (P:=Tryz.prog) w 9 22 5 s aNl aAp aJ9;have Yb:=grownCap_ge w s.size 0 5;have Ce:=grownCap_le_maxLen w s.size 0 5 A11;have hn0:τ w.heap.size=none:=h.fr.th.fresh (zB0 _);have Gd:=rE (s:=⟨.bt,false,s.size,grownCap w s.size 0 5⟩) hn0;have Kl:(Lib.bytesCells w 5 s).size=grownCap w s.size 0 5:=by
    simp only[Lib.bytesCells,Array.size_append,Array.size_map,Array.size_replicate];show s.size+_=_
    omega
   have Au:aJy (upd τ w.heap.size ⟨.bt,false,s.size,grownCap w s.size 0 5⟩) (Lib.bytesWorld w 5 s) w.heap.size ⟨.bt,false,s.size,grownCap w s.size 0 5⟩:=
    ⟨⟨_,_,Lib.bytesWorld_at_new w _ s,fun h9=>absurd rfl h9,by rw[Kl];exact(Nat.mul_one _).symm⟩,Yb,Ce,fun i hi=>⟨[.int .u8 (s.data.toList.getD i 0).toNat],rfl,⟨_,rfl,by omega,by have:=(s.data.toList.getD i 0).toNat_lt;omega⟩,fun z v hz=>by
     cases z with
     | succ z=>simp at hz| zero=>
      simp only[List.getElem?_cons_zero,zG2]at hz;subst hz;have:=Lib.bytesWorld_cell w 5 s i hi;show(Lib.bytesWorld w 5 s).cell? ⟨w.heap.size,i*1+0,none⟩=_
      rw[Nat.mul_one,zG1];exact this⟩⟩
   have m:Mv C [] τ w (upd τ w.heap.size ⟨.bt,false,s.size,grownCap w s.size 0 5⟩) (Lib.bytesWorld w 5 s):=by
    refine h.fr.step [] (h.fr.th.upd Gd (fun b Ae Ad=>Lib.bytesWorld_at_old w _ s b Ad) Au) Gd ?_ ?_ ?_ (by rw[Lib.bytesWorld_size];omega) (fun b Ad hb=>(eF A0).trans hb) (fun b Ad _ _=>Lib.bytesWorld_at_old w _ s b Ad) (fun _ b Ad _=>?_) (fun _ h9=>by cases h9) (fun ht=>ht.upd rfl)
    .
     exact QA91
    .
     exact QA91
    .
     exact QA91
    .
     have:=h.fr.size;exact⟨eF A0,Lib.bytesWorld_at_old w _ s b A0⟩
   have hV:(V.add A.sy.length [.slice (some ⟨w.heap.size,0,none⟩) s.size (grownCap w s.size 0 5)]).ρ A.sy.length=.slice (some ⟨w.heap.size,0,none⟩) s.size (grownCap w s.size 0 5):=Vl.add_at (q:=0) rfl;have Ja:=gY (V:=V) (S:=S) (c:=A.sy.length) (us:=[.slice (some ⟨w.heap.size,0,none⟩) s.size (grownCap w s.size 0 5)]) (fun q hq=>hn q A51);refine dA.val (by simp only[execOp,e1,Sem.run_bind,hrun,Result.andThen_ok];rfl) (Res.mv (V':=V.add A.sy.length [_]) h m (fun _ b so hb _=>Lib.bytesWorld_at_old w _ s b (h.fr.th.lt hb)) rfl rfl Ja (fun _ _=>rfl) (fun _ _=>rfl) (fun q g hq=>?_) hV.symm (fun c hc=>by cases hc));cases q with
   | succ q=>simp[at?]at hq| zero=>
    simp only[at?,zG2]at hq;subst hq;rw[zG1,hV];refine⟨.inr ⟨w.heap.size,0,_,_,rfl,lM _ _ _,rfl,by show 0+s.size<=s.size;omega,Yb,by rw[zJ0];exact zB0 _⟩,zD1 _,hs,(fun _ _ g hg=>by cases hg;exact h.fr.size),(fun h9=>by cases h9),(fun h9=>by cases h9),(fun s9 h9=>by cases h9)⟩
  .
   cases hu
 split at hu
 .
  rename_i hT;simp only[zC0,beq_iff_eq]at hT;obtain⟨rfl,rfl⟩:=hT;split at hu
  .
   rename_i s e;rw[e]at h1 h2;split at hu
   .
    rename_i f hf;split at hu
    .
     rename_i hh;simp only[zC0,zE3]at hh;cases hu;have Fk:=h.sy s f hf (h2 s A16);have hv:a.eval x=V.ρ s:=h1;obtain⟨l,⟨a9,c9,e9,Cv,_⟩,_⟩:=rd_b (m:=f.hi) (v:=V.ρ s) h.fr.th ⟨_,Fk.2.2.1,by have:=Fk.1;rwa [Rs.eq_eq hh.1]at this⟩;have hl:l.length<=4:=by
      have:=Fk.2.2.1;rw[e9]at this;have:l.length<=f.hi:=this;omega
     refine dA.val (v:=.string (strOfNums l)) (by simp only[execOp,hv,Sem.run_bind];rw[e9,aR c9 Cv];rfl) (Res.pure h ⟨_,rfl, ?_⟩);have e8:(strOfNums l).size=l.length:=by
      have:=congrArg List.length (strOfNums_data l);simpa using this
     omega
    .
     cases hu
   .
    cases hu
  .
   cases hu
 .
  split at hu
  .
   rename_i hT;simp only[zC0,beq_iff_eq]at hT;obtain⟨rfl,rfl⟩:=hT;split at hu
   .
    rename_i s e;rw[e]at h1 h2;have Jj:S s:=h2 s A16;split at hu
    .
     rename_i f hf;split at hu
     .
      rename_i hh;simp only[zC0,zE3,Bool.or_eq_true,Bool.not_eq_true']at hh;obtain⟨⟨hk,Ki⟩,ho⟩:=hh;have hk:=Rs.eq_eq hk;cases hu;have Fk:=h.sy s f hf Jj;have hl:=Fk.2.1;have hv:a.eval x=V.ρ s:=h1;rcases Fk.1 with⟨e9,h0⟩|⟨b,j,c,so,e9,Ff,Hy,_⟩
      .
       omega
      .
       have hR:=h.fr.th b so Ff;obtain⟨cs,fl,Ck,_,Bg⟩:=hR.blk;rw[Hy,hk]at Ck;have hrun:=aGg (o:=j*f.k.k) (n:=ln (V.ρ s)) (c:=c) Ck;obtain⟨fl',hfb⟩:=uR (n:=cs.size) Ck;have hth:TH τ (w.freeze ⟨b,cs.size,none⟩ 1):=by
        intro g sg hg;by_cases Ew:g=b
        .
         subst Ew;rw[Ff]at hg;cases hg;refine⟨⟨cs,fl',by rw[Hy,hk];exact hfb,fun h9=>by rw[Hy,hk]at h9;exact absurd rfl h9,Bg⟩,hR.u,hR.c,fun i hi=>?_⟩;obtain⟨vs,v1,v2,v3⟩:=hR.el i hi;refine⟨vs,v1,v2,fun z u hu=>?_⟩;have:=v3 z u hu;rw[cell_of_row w g _ _ _ fl Ck]at this;rw[cell_of_row _ g _ _ _ fl' hfb];exact this
        .
         exact(h.fr.th g sg hg).on (Sub.refl _) (iJ Ew)
       have Ae:∀g,τ g=none->g ≠ b:=by rintro g hg rfl;rw[Ff]at hg;cases hg
       have m:Mv C [] τ w τ (w.freeze ⟨b,cs.size,none⟩ 1):=by
        refine h.fr.step [] hth (Sub.refl _) ?_ ?_ ?_ (by rw[xB];exact zB0 _) (fun _ _ h9=>h9) (fun g _ hg _=>iJ (Ae g hg)) (fun hst g Gg _=>⟨rfl,iJ ?_⟩) (fun _ h9=>by cases h9) (fun h9=>h9)
        .
         exact QA123
        .
         exact QA123
        .
         exact QA123
        .
         rintro rfl;rcases ho with ho|ho
         .
          have:=Fk.2.2.2.1 ho hst g (by rw[e9];rfl);omega
         .
          rw[Vg,ho]at hst;cases hst
       refine dA.val (v:=V.ρ s) (by simp only[execOp,hv,Sem.run_bind];rw[e9,hrun];rfl) (Res.mv (V':=V) h m (fun _ g sg hg hgk=>iJ (by rintro rfl;rw[Ff]at hg;cases hg;exact hgk (Hy.trans hk))) rfl rfl (fun _ _=>rfl) (fun _ _=>rfl) (fun _ _=>rfl) (fun q g hq=>by simp[at?]at hq) rfl (fun c hc=>by cases hc))
     .
      cases hu
    .
     cases hu
   .
    cases hu
  .
   split at hu
   .
    rename_i hT;simp only[zC0,beq_iff_eq]at hT;obtain⟨rfl,rfl⟩:=hT;split at hu
    .
     rename_i y e;split at hu
     .
      rename_i hr;obtain⟨⟨lo,hi⟩,hr⟩:=Option.isSome_iff_exists.1 hr;cases hu;rw[e]at h1 h2;obtain⟨n,e1,_,_⟩:=iE h h1 h2 hr;exact dA.val (v:=.int .u8 (IntKind.u8.wrap n)) (by simp only[execOp,e1,convert,Sem.run_bind,run_underlying aPg,run_underlying aJ9,Result.andThen_ok];rfl) (Res.pure h ⟨_,rfl,wrap_u8 n⟩)
     .
      cases hu
    .
     cases hu
   .
    cases hu
end
end Eg
end
section
namespace Eg
structure Inp where
 cb:Nat
 gb:Nat
 fa:Value
 us:Value
 nv:Value
 vv:Value
 pv:Value
 iv:Value
 av:Value
 calm:Bool
def Inp.vals (I:Inp)(left:Int):List Value:=[.pointer (some ⟨I.cb,0,none⟩),I.fa,I.nv,I.us,I.vv,I.pv,I.iv,I.av,.int .i64 1,.int .i64 left,.bool I.calm]
def SVb (τ:Sm)(k:Rs)(lo hi:Nat)(v:Value):Prop:=SV τ k (ln v) v/\lo<=ln v/\ln v<=hi
def Us (fa:Value)(w:World)(v:Value):Prop:=∃b o n c j,fa=.slice (some ⟨b,o,none⟩) n c/\j<n/\w.cell? ⟨b,o+2*j,none⟩=some v
structure aM4 (τ:Sm) (w:World) (cb:Nat):Prop where
 cur:Cur w cb
 nc:τ cb=none
 lo:∀b,b<cb->τ b=none
structure Gen (τ:Sm) (w:World) (I:Inp):Prop where
 cur:aM4 τ w I.cb
 ng:τ I.gb=none
 lt:I.cb<I.gb
 blk:∃left,I64 left/\Blk w I.gb 170 (I.vals left)
 nv:SVb τ .bt 0 4 I.nv
 vv:SVb τ (.rc 1) 0 3 I.vv
 pv:SVb τ (.rc 12) 0 3 I.pv
 iv:SVb τ (.rc 0) 2 20 I.iv
 av:SVb τ (.rc 0) 0 20 I.av
 fa:SVb τ (.rc 4) 0 2 I.fa
 us:SVb τ (.rc 0) 0 2 I.us
 use:∀b o n c i v,I.us=.slice (some ⟨b,o,none⟩) n c->i<n->w.cell? ⟨b,o+i,none⟩=some v->Us I.fa w v
def CP.ok (τ:Sm)(w:World)(I:Inp):CP->Value->Prop
 | .cur,v=>v=.pointer (some ⟨I.cb,0,none⟩)| .gen,v=>v=.pointer (some ⟨I.gb,0,none⟩)| .int lo hi,v=>∃x,v=.int .i64 x/\lo<=x/\x<=hi| .bool,v=>∃b,v=.bool b| .str,v=>∃s,v=.string s/\s.size<=4| .sl k lo hi,v=>SVb τ k lo hi v| .rc t,v=>∃vs,v=.agg vs.toArray/\RV τ (Dt t).2 vs| .un,v=>SV τ .bt (ln v) v/\Us I.fa w v| .fa,v=>v=I.fa/\SVb τ (.rc 4) 0 2 v
def aCi (τ:Sm)(w:World)(I:Inp):List CP->List Value->Prop
 | [],vs=>vs=[]| p :: l,vs=>∃v us,vs=v :: us/\p.ok τ w I v/\aCi τ w I l us
def RP.ok (st:Bool)(τ:Sm)(n:Nat)(I:Inp):RP->Value->Prop
 | .int lo hi,v=>∃x,v=.int .i64 x/\lo<=x/\x<=hi| .bool,v=>∃b,v=.bool b| .sl k lo hi,v=>SVb τ k lo hi v/\(st=true->∀g,v.ownBlock=some g->n<=g)| .rc t,v=>∃vs,v=.agg vs.toArray/\RV τ (Dt t).2 vs| .tb t,v=>∃vs b,v=.tuple #[.agg vs.toArray,.bool b]/\RV τ (Dt t).2 vs| .ts t k lo hi,v=>∃vs u,v=.tuple #[.agg vs.toArray,u]/\RV τ (Dt t).2 vs/\SVb τ k lo hi u/\(st=true->∀g,u.ownBlock=some g->n<=g)| .ixf,v=>∃x:Nat,v=.int .i64 x/\x<ln I.fa| .num,v=>∃x y,v=.agg #[.int .i64 x,.int .i64 y,.slice none 0 0,.slice none 0 0,.slice none 0 0]/\I64 x/\I64 y| .vr,v=>∃x y u,v=.agg #[.int .i64 x,.int .i64 y,.slice none 0 0,u,.slice none 0 0]/\I64 x/\I64 y/\SVb τ .bt 0 4 u| .ti t,v=>∃vs x,v=.tuple #[.agg vs.toArray,.int .i64 x]/\RV τ (Dt t).2 vs/\I64 x| .t3 k lo hi,v=>∃u p a0 n0 c0 a1 n1 c1 a2 n2 c2,v=.tuple #[u,p,.agg #[.slice a0 n0 c0,.slice a1 n1 c1,.slice a2 n2 c2]]/\SVb τ k lo hi u/\(st=true->∀g,u.ownBlock=some g->n<=g)
def Con.K (c:Con)(I:Inp):List Nat:=if bF c.args then [I.cb,I.gb] else if eJ c.args then [I.cb] else []
structure Con.Env (c:Con) (τ:Sm) (w:World) (I:Inp):Prop where
 gen:bF c.args=true->Gen τ w I
 cur:eJ c.args=true->aM4 τ w I.cb
structure Con.After (c:Con) (w':World) (I:Inp):Prop where
 gen:bF c.args=true->Cur w' I.cb/\∃left cm,I64 left/\Blk w' I.gb 170 ({ I with calm:=cm }.vals left)
 cur:eJ c.args=true->Cur w' I.cb
def ConOk (c:Con):Prop:=∀(τ:Sm) (w:World) (I:Inp) (vs:List Value),TH τ w->(c.tg=true->Tg τ)->c.Env τ w I->aCi τ w I c.args vs →
 Calls Tryz.prog c.f vs.toArray w fun e w'=>∃v τ',e=.returned v/\Fr ⟨c.st,c.K I,τ,w⟩ τ' w'/\(c.st=true->Tg τ->Tg τ')/\c.After w' I/\c.res.ok c.st τ' w.heap.size I v
structure Us0 (G:Cfg) (C:Cx) (A:AS) (S:Nat->Prop) (V:Vl) (w:World):Prop where
 st:C.st=true
 s0:S 0
 s1:S 1
 fa:SVb C.τ0 (.rc 4) 0 2 (V.ρ 0)
 us:SVb C.τ0 (.rc 0) 0 2 (V.ρ 1)
 use:∀b o n c i v,V.ρ 1=.slice (some ⟨b,o,none⟩) n c->i<n->C.w0.cell? ⟨b,o+i,none⟩=some v->Us (V.ρ 0) C.w0 v
section
variable {C:Cx} {U:Value->Prop} {G:Cfg} {A:AS} {S B X:Nat->Prop} {τ τ':Sm} {V V':Vl} {a:Act} {w w':World} {d:Option Nat} {ty:TypeId} {pos:String} {aft:Array Edge} {gd:Option (Nat × Bool)}
theorem rM (hF:Fr C τ w)(hst:C.st=true)(Ji:TH C.τ0 C.w0){k:Rs}{n b o c:Nat}{l:Nat}(h:SV C.τ0 k l (.slice (some ⟨b,o,none⟩) n c))(p:Nat):w.cell? ⟨b,p,none⟩=C.w0.cell? ⟨b,p,none⟩:=by
 rcases h with⟨e,_⟩|⟨b',j,c',s,e,hb,_⟩
 .
  cases e
 .
  simp only[Value.slice.injEq,zG2,Addr.mk.injEq,and_true]at e;obtain⟨⟨rfl,_⟩,_⟩:=e;exact World.cell?_of_block (hF.str hst b (Ji.lt hb) (by rw[hb];simp)).2
theorem Us0.on (h:Us0 G C A S V w)(hF:Fr C τ w)(Ji:TH C.τ0 C.w0){v:Value}:Us (V.ρ 0) C.w0 v ↔ Us (V.ρ 0) w v:=by
 constructor
 .
  rintro⟨b,o,n,c,j,e,hj,hc⟩;have h1:=h.fa.1;rw[e]at h1;exact⟨b,o,n,c,j,e,hj,(rM hF h.st Ji h1 _).trans hc⟩
 .
  rintro⟨b,o,n,c,j,e,hj,hc⟩;have h1:=h.fa.1;rw[e]at h1;exact⟨b,o,n,c,j,e,hj,(rM hF h.st Ji h1 _).symm.trans hc⟩
theorem Us0.useW (h:Us0 G C A S V w)(hF:Fr C τ w)(Ji:TH C.τ0 C.w0):∀b o n c i v,V.ρ 1=.slice (some ⟨b,o,none⟩) n c->i<n->w.cell? ⟨b,o+i,none⟩=some v->Us (V.ρ 0) C.w0 v:=by
 intro b o n c i v e hi hc;have h1:=h.us.1;rw[e]at h1;exact h.use b o n c i v e hi ((rM hF h.st Ji h1 _).symm.trans hc)
theorem SVb.sub {k:Rs}{lo hi:Nat}{v:Value}(h:SVb τ k lo hi v)(hs:Sub τ τ'):SVb τ' k lo hi v:=⟨h.1.sub hs,h.2⟩
theorem lO (h:Kn C U A S B X τ V w){k:Rs}{lo hi:Nat}{x:CV}{v:Value}(hx:x.ok V v)(hs:∀s ∈ x.sy,S s)(hk:A.sOk k lo hi x=true):SVb τ k lo hi v:=by
 cases x <;> simp only[AS.sOk,Bool.false_eq_true]at hk
 .
  rename_i s;split at hk
  .
   rename_i f hf;simp only[zC0,zE3]at hk;obtain⟨⟨h1,h2⟩,h3⟩:=hk;have:=Rs.eq_eq h1;subst this;obtain⟨a1,a2,a3,_⟩:=h.sy s f hf (hs s A38);rw[show v=_ from hx];exact⟨a1,by omega,by omega⟩
  .
   cases hk
 .
  simp only[beq_iff_eq]at hk;subst hk;rw[show v=_ from hx];exact⟨SV.nil k,zB0 _,zD1 _⟩
theorem aPo (h:Kn C (Us (V.ρ 0) C.w0) A S B X τ V w)(h0:Us0 G C A S V w)(Ji:TH C.τ0 C.w0){b:Nat}(hB:B b)(hg:A.gen b=true)(Ad:∀c,at? A.bk c=some .cur->B c->V.β c<V.β b):∃(I:Inp) (c:Nat),I.gb=V.β b/\I.cb=V.β c/\at? A.bk c=some .cur/\B c/\I.fa=V.ρ 0/\Gen τ w I/\∃nv vv pv iv av,at? A.bk b=some (.cells 170 [.ptr c 0,.sl 0,nv,.sl 1,vv,pv,iv,av,.int 1 1,.int mn mx,.bl [] []])/\(nv.ok V I.nv/\vv.ok V I.vv/\pv.ok V I.pv/\iv.ok V I.iv/\av.ok V I.av)/\I.us=V.ρ 1:=by
 unfold AS.gen at hg;split at hg
 .
  rename_i T c nv vv pv iv av lo hi hb;simp only[zC0,beq_iff_eq,zE3]at hg;obtain⟨⟨⟨⟨⟨⟨⟨⟨rfl,hc⟩,g1⟩,g2⟩,g3⟩,g4⟩,g5⟩,rfl⟩,rfl⟩:=hg;obtain⟨⟨vs,Ck,Km⟩,hn,hlt1,_⟩:=h.bk b _ hb hB;obtain⟨b1,b2,b3⟩:=h.bc b _ hb hB;obtain⟨v0,_,rfl,q0,v1,_,rfl,q1,v2,_,rfl,q2,v3,_,rfl,q3,v4,_,rfl,q4,v5,_,rfl,q5,v6,_,rfl,q6,v7,_,rfl,q7,v8,_,rfl,q8,v9,_,rfl,q9,v10,_,rfl,q10,rfl⟩:=Km;have sb:∀(y:CV),y ∈ [CV.ptr c 0,.sl 0,nv,.sl 1,vv,pv,iv,av,.int 1 1,.int mn mx,.bl [] []]->∀s ∈ y.sy,S s:=fun y hy s hs=>b1 s (List.mem_flatMap.2 ⟨y,hy,hs⟩);have hBc:B c:=b2 c (by simp[Bk.bs,CV.bs]);have Hk:at? A.bk c=some .cur:=by
   split at hc
   .
    rename_i e;exact e
   .
    cases hc
  obtain⟨Yg,Qq,_,_⟩:=h.bk c _ Hk hBc;have Ab:=(h.lo c Hk hBc).2;obtain⟨x8,e8,y8,z8⟩:=q8;obtain⟨x9,e9,y9,z9⟩:=q9;obtain⟨bb,rfl,_⟩:=q10;obtain rfl:x8=1:=by omega
  subst e8 e9;refine⟨⟨V.β c,V.β b,V.ρ 0,V.ρ 1,v2,v4,v5,v6,v7,bb⟩,c,rfl,rfl,Hk,hBc,rfl,⟨⟨Yg,Qq,fun q hq=>(Ab q hq).1⟩,hn,Ad c Hk hBc,⟨x9,⟨y9,z9⟩, ?_⟩,lO h q2 (sb nv A8) g1,lO h q4 (sb vv A8) g2,lO h q5 (sb pv A8) g3,lO h q6 (sb iv A8) g4,lO h q7 (sb av A8) g5,h0.fa.sub h.fr.sub,h0.us.sub h.fr.sub, ?_⟩,nv,vv,pv,iv,av,hb,⟨q2,q4,q5,q6,q7⟩,rfl⟩
  .
   have e0:v0=.pointer (some ⟨V.β c,0,none⟩):=q0;have e1:v1=V.ρ 0:=q1;have e3:v3=V.ρ 1:=q3;rw[e0,e1,e3]at Ck;exact Ck
  .
   intro b9 o n c9 i v e hi As;exact(h0.on h.fr Ji).1 (h0.useW h.fr Ji b9 o n c9 i v e hi As)
 .
  cases hg
end
end Eg
end
section
namespace Eg
def aAi (P:Program):List Nat->Bool
 | []=>true| f :: l => (match P.funcs[f]? with | some fn => !(fn.name == "runtime.NumGoroutine") && fn.body.isSome | none => false) && aAi P l
theorem aPw:aAi Tryz.prog FS=true:=by kernel_rfl
theorem aPx:∀{l:List Nat},aAi Tryz.prog l=true->∀{f:Nat},has f l=true->∀args w,Sem.run Tryz.prog (callFunc f args) w=.ok (.enter f args) w
 | [],_,_,h=>by cases h
 | g :: l,hc,f,h=>by
  simp only[aAi,zC0]at hc;simp only[has,Bool.or_eq_true,beq_iff_eq]at h;rcases h with rfl|h
  .
   have h1:=hc.1;split at h1
   .
    rename_i fn hf;simp only[zC0,Bool.not_eq_true']at h1;intro args w;obtain⟨b,hb⟩:=Option.isSome_iff_exists.1 h1.2;have h9 : ¬ fn.name = "runtime.NumGoroutine" := by simpa using h1.1
    simp[callFunc,hf,h9,hb,go_sem]
   .
    cases h1
  .
   exact aPx hc.2 h
section
variable {C:Cx} {U:Value->Prop} {G:Cfg} {A:AS} {S B X:Nat->Prop} {τ τ':Sm} {V V':Vl} {a:Act} {w w':World} {d:Option Nat} {ty:TypeId} {pos:String} {aft:Array Edge} {gd:Option (Nat × Bool)}
theorem dA.call {c:Call}{f:Nat}{u:Out}(hc:c.callee=.value (.func f))(hf:has f FS=true)(h:Calls Tryz.prog f (c.args.map a.eval) w fun e w'=>∃v τ' V',e=.returned v/\Res C U A u S B X τ V w v τ' V' w'):dA C U A ⟨d,.call c,ty,pos,aft,gd⟩ u S B X τ V a w:=by
 intro Q;unfold Oper.wp;have hrun:(execOp a.eval ⟨d,.call c,ty,pos,aft,gd⟩).run Tryz.prog w=.ok (.enter f (c.args.map a.eval)) w:=by
  have he:a.eval (.func f)=.func (.func f) #[] #[]:=rfl;simp only[execOp,resolve,hc,he,Deferred.ofValue,Sem.run_bind,Sem.run_pure,Result.andThen_ok,invoke,aPx aPw hf];simp
 rw[hrun,Oper.upon_enter];refine h.mono ?_;rintro e w' ⟨v,τ',V',rfl,hr⟩;exact⟨v,τ',V',rfl,hr⟩
theorem Res.call {u:Out}{v:Value}{st:Bool}{K:List Nat}(h:Kn C U A S B X τ V w)(Vg:C.st=true->st=true)(fr:Fr ⟨st,K,τ,w⟩ τ' w')(hK:∀g ∈ K,g<C.w0.heap.size->g ∈ C.K)(Js:u.nq=false->st=true)(Md:u.br=false->Tg τ->Tg τ')(hup:u.up=none)(Ba:u.nb=none)(Fu:u.nc=[])(hρ:∀s,S s->V'.ρ s=V.ρ s)(hβ:V'.β=V.β)(hι:∀c,X c->V'.ι c=V.ι c)
  (Qi:∀q f,at? u.ns q=some f->f.ok C U τ' V' (V'.ρ (A.sy.length+q))) (hr:u.r.ok τ' V' v) (Mt:∀n x,B n->at? A.bk n=some x->x.ok V w' (V.β n)):Res C U A u S B X τ V w v τ' V' w':=by
 have hF:=h.fr;refine⟨⟨fr.th,hF.sub.trans fr.sub,fr.os.trans hF.os,fr.tape.trans hF.tape,fr.output.trans hF.output,zF2 hF.size fr.size,fun b hb hn=>fr.non b (Nat.lt_of_lt_of_le hb hF.size) (hF.non b hb hn),fun b hb hn hk=>(fr.blk b (Nat.lt_of_lt_of_le hb hF.size) (hF.non b hb hn) (fun hm=>hk (hK b hm hb))).trans (hF.blk b hb hn hk),fun hst b hb hn=>?_⟩,fr.sub,fr.size,fr.non,fun hq b s hb _=>?_,Md,hρ,fun n _=>by rw[hβ],hι,Qi,hr,fun n x hn hx _=>?_,fun n l T x e=> A53,fun x e=> A63,fun c hc=> A77⟩
 .
  obtain⟨a1,a2⟩:=hF.str hst b hb hn;obtain⟨a3,a4⟩:=fr.str (Vg hst) b (Nat.lt_of_lt_of_le hb hF.size) (by show τ b ≠ none;rw[a1];exact hn);exact⟨a3.trans a1,a4.trans a2⟩
 .
  exact(fr.str (Js hq) b (hF.th.lt hb) (by show τ b ≠ none;rw[hb];simp)).2
 .
  rw[hβ];obtain⟨c1,c2,c3⟩:=h.bc n x hx hn;exact Bk.on (Mt n x hn hx) (fun s hs=>hρ s (c1 s hs)) (fun b _=>by rw[hβ]) (fun c hc=>hι c (c3 c hc))
theorem oF {st:Bool}{K:List Nat}(h:Kn C U A S B X τ V w)(fr:Fr ⟨st,K,τ,w⟩ τ' w'){n:Nat}{T:TypeId}{l:List CV}(hn:B n)(hx:at? A.bk n=some (.cells T l))(hk:V.β n ∉ K):(Bk.cells T l).ok V w' (V.β n):=by
 obtain⟨⟨vs,hb,Km⟩,h1,h2,_⟩:=h.bk n _ hx hn;exact⟨vs,(fr.blk _ h2 h1 hk).trans hb,Km⟩
theorem rO (h:Kn C U A S B X τ V w){b:Nat}{n:Int}(hB:B b)(hb:at? A.bk b=some .cur){c:Call}{u:Out}{x0 x1:Operand}(hc:c.callee=.value (.func 29))(ea:c.args.toList=[x0,x1])(e0:a.eval x0=.pointer (some ⟨V.β b,0,none⟩))(e1:a.eval x1=.int .i64 n)(hn:n<=1000000)(hu:u.ns=[]/\u.nb=none/\u.up=none/\u.nc=[]/\u.nq=false)(hr:∀x:Int,0<=x->(0<n->x<n)->(n<=0->x=0)->∃ι',(∀c,X c->ι' c=V.ι c)/\∀τ,u.r.ok τ ⟨V.ρ,V.β,ι'⟩ (.int .i64 x)):dA C U A ⟨d,.call c,ty,pos,aft,gd⟩ u S B X τ V a w:=by
 obtain⟨Yg,Qq,Ad,hK⟩:=h.bk b _ hb hB;have Ki:=h.lo b hb hB;refine dA.call hc A6 ?_;rw[aP8 ea];simp only[List.map_toArray,zH2,List.map_nil,e0,e1];refine(aAw (V.β b) n w Yg A0).mono ?_;rintro e w' ⟨x,rfl,h1,h2,h3,hdr⟩;have Ae:∀g s,τ g=some s->some g ≠ some (V.β b):=by rintro g s hg e9;cases e9;rw[Qq]at hg;cases hg
 have fr:Fr ⟨true,[V.β b],τ,w⟩ τ w':=⟨h.fr.th.on fun g s hg=>hdr.2.block g (h.fr.th.lt hg) (Ae g s hg),Sub.refl _,hdr.2.os,hdr.2.tape,hdr.2.output,hdr.2.size,fun _ _ h9=>h9,fun g hg _ hk=>hdr.2.block g hg (by intro e9;cases e9;simp at hk),fun _ g hg Df=>⟨rfl,hdr.2.block g hg (by
  cases e9:τ g with
  | none=>exact absurd e9 Df| some s=>exact Ae g s e9)⟩⟩
 obtain⟨ι',q1,q2⟩:=hr x h1 h2 h3;refine⟨.int .i64 x,τ,⟨V.ρ,V.β,ι'⟩,rfl,Res.call h (fun _=>rfl) fr (fun g hg Gg=>?_) (fun _=>rfl) (fun _ h9=>h9) hu.2.2.1 hu.2.1 hu.2.2.2.1 (fun _ _=>rfl) rfl q1 (fun q f hq=>by rw[hu.1]at hq;simp[at?]at hq) (q2 τ) (fun m y hm hy=>?_)⟩
 .
  rw[List.mem_singleton.1 hg]at Gg ⊢;rcases hK with hK|hK
  .
   exact hK
  .
   omega
 .
  cases y with
  | cur=>
   have e1:=h.cu m hy;have e2:=h.cu b hb;subst e1 e2;exact hdr.1
  | cells T l=>exact oF h fr hm hy (by
    simp only[List.mem_singleton];exact h.dj m b _ _ hy hb hm hB (by rintro rfl;rw[hb]at hy;cases hy))
theorem aOg (h:Kn C U A S B X τ V w)(Ji:TH C.τ0 C.w0){I:Inp}(hI:I.fa=V.ρ 0){p:CP}(hp:mO p=true)(h0:qG p=true->Us0 G C A S V w/\U=Us (V.ρ 0) C.w0){x:AV}{v:Value}(hx:x.ok τ V v)(hs:∀s ∈ x.sy,S s)(hm:A.mat p x=true):p.ok τ w I v:=by
 cases p with
 | cur=>cases hp| gen=>cases hp| int lo hi=>
  cases x <;> simp only[AS.mat,Bool.false_eq_true]at hm
  split at hm
  .
   rename_i l r hr;simp only[zC0,zE3]at hm;obtain⟨n,rfl,h1,h2⟩:=iE h hx hs hr;exact⟨n,rfl,by omega,by omega⟩
  .
   cases hm
 | bool=>
  cases x <;> simp only[AS.mat,Bool.false_eq_true]at hm
  rename_i y;cases y <;> simp at hm
  .
   exact⟨_,hx⟩
  .
   obtain⟨b,e,_⟩:=hx;exact⟨b,e⟩
 | str=>
  cases x <;> simp only[AS.mat,Bool.false_eq_true]at hm
  rename_i y;cases y <;> simp at hm
  exact hx
 | sl k lo hi=>
  cases x <;> simp only[AS.mat,Bool.false_eq_true]at hm
  exact lO h hx hs hm
 | rc t=>
  cases x <;> simp only[AS.mat,Bool.false_eq_true]at hm
  .
   simp only[beq_iff_eq]at hm;subst hm;exact hx
  .
   obtain⟨vs,e,h1⟩:=hx;exact⟨vs,e,sF h h1 hs hm⟩
 | un=>
  obtain⟨h1,h2⟩:=h0 rfl;cases x with
  | c y=>
   cases y with
   | sl s=>
    simp only[AS.mat]at hm;split at hm
    .
     rename_i f hf;simp only[zC0]at hm;obtain⟨a1,_,_,_,a5,_⟩:=h.sy s f hf (hs s A16);rw[Rs.eq_eq hm.1]at a1;have hv:v=V.ρ s:=hx;rw[hv];refine⟨a1, ?_⟩;have:=a5 hm.2;rw[h2]at this;rw[hI];exact(h1.on h.fr Ji).1 this
    .
     cases hm
   | _=>simp[AS.mat]at hm
  | _=>simp[AS.mat]at hm
 | fa=>
  obtain⟨h1,h2⟩:=h0 rfl;cases x with
  | c y=>
   cases y with
   | sl s=>
    cases s with
    | succ s=>simp[AS.mat]at hm| zero=>
     have hv:v=V.ρ 0:=hx;rw[hv];exact⟨hI.symm,h1.fa.sub h.fr.sub⟩
   | _=>simp[AS.mat]at hm
  | _=>simp[AS.mat]at hm
theorem rS (h:Kn C U A S B X τ V w)(Ji:TH C.τ0 C.w0){I:Inp}(hI:I.fa=V.ρ 0):∀{ps:List CP} {xs:List Operand},ps.all mO=true->(∀p ∈ ps,qG p=true->Us0 G C A S V w/\U=Us (V.ρ 0) C.w0)->(∀x ∈ xs,Opd A S B X τ V a x)->A.mats ps (evs A xs)=true->aCi τ w I ps (xs.map a.eval)
 | [],[],_,_,_,_=>rfl| [],_ :: _,_,_,_,h9=>by cases h9
 | _ :: _,[],_,_,_,h9=>by cases h9
 | p :: ps,x :: xs,hp,h0,ho,hm=>by
  simp only[List.all_cons,zC0]at hp;simp only[evs,AS.mats,zC0]at hm;obtain⟨q1,q2,_⟩:=ho x A8;exact⟨a.eval x,xs.map a.eval,rfl,aOg h Ji hI hp.1 (h0 p A8) q1 q2 hm.1,rS h Ji hI hp.2 (fun p hp=>h0 p (by simp[hp])) (fun y hy=>ho y (by simp[hy])) hm.2⟩
theorem aN9 (h:Kn C U A S B X τ V w){I:Inp}(hI:I.fa=V.ρ 0){r:RP}(hix:aL8 r=true->S 0){v:Value}{st:Bool}(hst:C.st=true->st=true)(hr:r.ok st τ' w.heap.size I v)(hn:∀q,q<(r.out A.sy.length).ns.length->¬S (A.sy.length+q)):
  ∃V':Vl,(∀s,S s->V'.ρ s=V.ρ s)/\V'.β=V.β/\V'.ι=V.ι/\(∀q f,at? (r.out A.sy.length).ns q=some f->f.ok C U τ' V' (V'.ρ (A.sy.length+q)))/\(r.out A.sy.length).r.ok τ' V' v:=by
 have slf:∀(k:Rs) (lo hi:Nat) (own:Bool) (u:Value) (V':Vl),SVb τ' k lo hi u->(own=true->st=true->∀g,u.ownBlock=some g->w.heap.size<=g)->(sf k lo hi own).ok C U τ' V' u:=fun k lo hi own u V' h1 h2=>⟨h1.1,h1.2.1,h1.2.2,(fun ho hC g hg=>zF2 h.fr.size (h2 ho (hst hC) g hg)),(fun h9=>by cases h9),(fun h9=>by cases h9),(fun s h9=>by cases h9)⟩;have one:∀(k:Rs) (lo hi:Nat) (own:Bool) (u:Value),SVb τ' k lo hi u->(own=true->st=true->∀g,u.ownBlock=some g->w.heap.size<=g)->(∀q,q<1->¬S (A.sy.length+q))->(∀s,S s->(V.add A.sy.length [u]).ρ s=V.ρ s)/\(V.add A.sy.length [u]).ρ A.sy.length=u/\∀q f,at? [sf k lo hi own] q=some f->f.ok C U τ' (V.add A.sy.length [u]) ((V.add A.sy.length [u]).ρ (A.sy.length+q)):=by
  intro k lo hi own u h1 h2 hn1;have hV:(V.add A.sy.length [u]).ρ A.sy.length=u:=Vl.add_at (q:=0) rfl;refine⟨gY (fun q hq=>hn1 q A51),hV,fun q f hq=>?_⟩;cases q with
  | succ q=>simp[at?]at hq| zero=>
   simp only[at?,zG2]at hq;subst hq;rw[zG1,hV];exact slf k lo hi own u _ h1 h2
 have none:∀q f,at? ([]:List SF) q=some f->f.ok C U τ' V (V.ρ (A.sy.length+q)):=fun q f hq=>by simp[at?]at hq
 cases r with
 | int lo hi=>exact⟨V,fun _ _=>rfl,rfl,rfl,none,hr⟩
 | bool=>obtain⟨b,rfl⟩:=hr;exact⟨V,fun _ _=>rfl,rfl,rfl,none,eM V b⟩
 | sl k lo hi=>
  obtain⟨h1,h2,h3⟩:=one k lo hi true v hr.1 (fun _=>hr.2) hn;exact⟨_,h1,rfl,rfl,h3,h2.symm⟩
 | rc t=>exact⟨V,fun _ _=>rfl,rfl,rfl,none,hr⟩
 | tb t=>obtain⟨vs,b,rfl,h1⟩:=hr;exact⟨V,fun _ _=>rfl,rfl,rfl,none,vs,_,rfl,h1,eM V b⟩
 | ts t k lo hi=>
  obtain⟨vs,u,rfl,h1,h2,h3⟩:=hr;obtain⟨a1,a2,a3⟩:=one k lo hi true u h2 (fun _=>h3) hn;exact⟨_,a1,rfl,rfl,a3,vs,u,rfl,h1,a2.symm⟩
 | ixf=>
  obtain⟨x,rfl,h1⟩:=hr;rw[hI]at h1;exact⟨V,fun _ _=>rfl,rfl,rfl,none,x,rfl,by omega⟩
 | num=>
  obtain⟨x,y,rfl,h1,h2⟩:=hr;exact⟨V,fun _ _=>rfl,rfl,rfl,none,_,rfl,_,_,rfl,⟨x,rfl,h1.1,h1.2⟩,_,_,rfl,⟨y,rfl,h2.1,h2.2⟩,_,_,rfl,rfl,_,_,rfl,rfl,_,_,rfl,rfl,rfl⟩
 | vr=>
  obtain⟨x,y,u,rfl,h1,h2,h3⟩:=hr;obtain⟨a1,a2,a3⟩:=one .bt 0 4 false u h3 (fun h9=>by cases h9) hn;exact⟨_,a1,rfl,rfl,a3,_,rfl,_,_,rfl,⟨x,rfl,h1.1,h1.2⟩,_,_,rfl,⟨y,rfl,h2.1,h2.2⟩,_,_,rfl,rfl,_,_,rfl,a2.symm,_,_,rfl,rfl,rfl⟩
 | ti t=>obtain⟨vs,x,rfl,h1,h2⟩:=hr;exact⟨V,fun _ _=>rfl,rfl,rfl,none,vs,_,rfl,h1,x,rfl,h2.1,h2.2⟩
 | t3 k lo hi=>exact⟨V,fun _ _=>rfl,rfl,rfl,none,trivial⟩
theorem aJb (h:Kn C U A S B X τ V w)(Vg:C.st=G.st)(Ji:TH C.τ0 C.w0)(hG:∀k ∈ G.cons,ConOk k)(h0:G.us=true->Us0 G C A S V w/\U=Us (V.ρ 0) C.w0)(Ad:∀b c,A.gen b=true->B b->at? A.bk c=some .cur->B c->V.β c<V.β b){c:Call}{f:Nat}{u:Out}(hc:c.callee=.value (.func f))(hf:has f FS=true)(hx:∀x ∈ c.args.toList,Opd A S B X τ V a x):∀(cs:List Con),(∀k ∈ cs,ConOk k)->nA A G.st G.us f (evs A c.args.toList) cs=some u->(∀q,q<u.ns.length->¬S (A.sy.length+q))->dA C U A ⟨d,.call c,ty,pos,aft,gd⟩ u S B X τ V a w
 | [],_,hu,_=>by cases hu
 | k :: cs,hk,hu,hn=>by
  simp only[nA]at hu;split at hu
  .
   rename_i hh;simp only[zC0,beq_iff_eq,Bool.or_eq_true,Bool.not_eq_true']at hh;obtain⟨⟨⟨⟨⟨rfl,hst⟩,Md⟩,hhead⟩,Tw⟩,hm⟩:=hh;cases hu;have hko:=hk k A8;have Dm:k.tg=true->Tg τ:=fun h9=>h.tg (by rcases Md with h8|h8;exact h8;rw[h9]at h8;cases h8);have hCst:C.st=true->k.st=true:=fun e=>by
    rcases hst with h9|h9
    .
     exact h9
    .
     rw[Vg,h9]at e;cases e
   have hus0:∀p ∈ k.args,qG p=true->Us0 G C A S V w/\U=Us (V.ρ 0) C.w0:=fun p hp hpu=>by
    rcases Tw with h9|h9
    .
     exact h0 h9
    .
     exfalso;have:k.args.any qG=true:=List.any_eq_true.2 ⟨p,hp,hpu⟩;rw[this]at h9;simp at h9
   have hix:aL8 k.res=true->S 0:=fun hi=>by
    rcases Tw with h9|h9
    .
     exact(h0 h9).1.s0
    .
     rw[hi]at h9;simp at h9
   have hnU:(k.res.out A.sy.length).up=none/\(k.res.out A.sy.length).nb=none/\(k.res.out A.sy.length).nc=[]:=by cases k.res <;> exact⟨rfl,rfl,rfl⟩
   have fin:∀(I:Inp),I.fa=V.ρ 0->k.Env τ w I->aCi τ w I k.args (c.args.toList.map a.eval)->(∀g ∈ k.K I,g<C.w0.heap.size->g ∈ C.K)->(∀τ' w',Fr ⟨k.st,k.K I,τ,w⟩ τ' w'->k.After w' I->∀n x,B n->at? A.bk n=some x->x.ok V w' (V.β n))->dA C U A ⟨d,.call c,ty,pos,aft,gd⟩ { k.res.out A.sy.length with br:=!k.st,nq:=!k.st,nt:=true,nm:=bF k.args } S B X τ V a w:=by
    intro I hI hE hA hK Mt;refine dA.call hc hf ?_;have e9:c.args.map a.eval=(c.args.toList.map a.eval).toArray:=by
     apply Array.toList_inj.1;simp
    rw[e9];refine(hko τ w I _ h.fr.th Dm hE hA).mono ?_;rintro e w' ⟨v,τ',rfl,fr,Xr,Vc,Bz⟩;obtain⟨V',p1,p2,p3,p4,p5⟩:=aN9 (C:=C) (U:=U) h hI hix hCst Bz hn;exact⟨v,τ',V',rfl,Res.call h hCst fr hK (fun h9=>by simpa using h9) (fun h9 h10=>Xr (by simpa using h9) h10) hnU.1 hnU.2.1 hnU.2.2 p1 p2 (fun c _=>by rw[p3]) p4 p5 (Mt τ' w' fr Vc)⟩
   have curOn:∀(K:List Nat) (τ':Sm) (w':World),Fr ⟨k.st,K,τ,w⟩ τ' w'->∀n,B n->at? A.bk n=some .cur->(∀q,q<=V.β n->q ∉ K)->Cur w' (V.β n):=fun K τ' w' fr n Hv Ij hnk=>by
    obtain⟨b1,b2,b3,_⟩:=h.bk n _ Ij Hv;refine Cur.on b1 fun q hq=>?_;rcases Nat.lt_or_eq_of_le hq with h9|h9
    .
     exact fr.blk q (by show q<w.heap.size;omega) ((h.lo n Ij Hv).2 q h9).1 (hnk q hq)
    .
     subst h9;exact fr.blk _ b3 b2 (hnk _ hq)
   have plain:(bF k.args=false/\eJ k.args=false)->(∀I:Inp,I.fa=V.ρ 0->aCi τ w I k.args (c.args.toList.map a.eval))->dA C U A ⟨d,.call c,ty,pos,aft,gd⟩ { k.res.out A.sy.length with br:=!k.st,nq:=!k.st,nt:=true,nm:=bF k.args } S B X τ V a w:=by
    rintro⟨hg1,hg2⟩ hA;have hKe:k.K ⟨0,0,V.ρ 0,.bool true,.bool true,.bool true,.bool true,.bool true,.bool true,true⟩=[]:=by unfold Con.K;rw[hg1,hg2];rfl
    refine fin ⟨0,0,V.ρ 0,.bool true,.bool true,.bool true,.bool true,.bool true,.bool true,true⟩ rfl ⟨(fun h9=>by rw[hg1]at h9;cases h9),(fun h9=>by rw[hg2]at h9;cases h9)⟩ (hA _ rfl) (by rw[hKe];intro g hg;cases hg) (fun τ' w' fr _ n x Hv Ij=>?_);rw[hKe]at fr;cases x with
    | cur=>exact curOn [] τ' w' fr n Hv Ij (fun q _=>by simp)
    | cells T l=>exact oF h fr Hv Ij A8
   have inK:∀n x,at? A.bk n=some x->B n->V.β n<C.w0.heap.size->V.β n ∈ C.K:=fun n x Eb Xy hlt'=>by
    obtain⟨_,_,_,h9⟩:=h.bk n x Eb Xy;rcases h9 with h9|h9
    .
     exact h9
    .
     omega
   obtain⟨ka,Jt⟩:∃l,k.args=l:=⟨_,rfl⟩
   cases ka with
   | nil=>
    rw[Jt]at hm;exact plain ⟨by rw[Jt];rfl,by rw[Jt];rfl⟩ (fun I hI=>by rw[Jt];exact rS (G:=G) h Ji hI rfl (fun p hp=>by cases hp) hx hm)
   | cons p ps=>
    rw[Jt]at hm hhead;obtain⟨ca,hca⟩:∃l,c.args.toList=l:=⟨_,rfl⟩
    rw[hca]at hm hx;cases ca with
    | nil=>cases hm| cons x0 xs=>
     have hps:ps.all mO=true:=hhead;have hus':∀q ∈ ps,qG q=true->Us0 G C A S V w/\U=Us (V.ρ 0) C.w0:=fun q hq=>hus0 q (by rw[Jt];simp[hq]);by_cases Xv:mO p=true
     .
      refine plain ⟨by rw[Jt];cases p <;> first|rfl|(cases Xv),by rw[Jt];cases p <;> first|rfl|(cases Xv)⟩ (fun I hI=>?_);rw[Jt,hca];exact rS h Ji hI (by simp[Xv,hps]) (fun q hq=>hus0 q (by rw[Jt];exact hq)) hx hm
     .
      simp only[evs,AS.mats,zC0]at hm;obtain⟨q1,q2,q3,_⟩:=hx x0 A8;have Fs:∀I:Inp,I.fa=V.ρ 0->aCi τ w I ps (xs.map a.eval):=fun I hI=>rS h Ji hI hps hus' (fun y hy=>hx y (by simp[hy])) hm.2;cases p with
      | cur=>
       have Ez:=hm.1;cases hav:A.ev x0 with
       | c y=>
        rw[hav]at Ez q1 q3;cases y with
        | ptr b o=>
         cases o with
         | succ o=>simp[AS.mat]at Ez| zero=>
          have Ec:at? A.bk b=some .cur:=by
           simp only[AS.mat]at Ez;split at Ez
           .
            rename_i e;exact e
           .
            cases Ez
          have Yl:B b:=q3 b A50;obtain⟨b1,b2,b3,_⟩:=h.bk b _ Ec Yl;have hKe:k.K ⟨V.β b,0,V.ρ 0,.bool true,.bool true,.bool true,.bool true,.bool true,.bool true,true⟩=[V.β b]:=by unfold Con.K;rw[Jt];rfl
          refine fin ⟨V.β b,0,V.ρ 0,.bool true,.bool true,.bool true,.bool true,.bool true,.bool true,true⟩ rfl ⟨(fun h9=>by rw[Jt]at h9;cases h9),fun _=>⟨b1,b2,fun g hg=>((h.lo b Ec Yl).2 g hg).1⟩⟩ (by rw[Jt,hca];exact⟨_,_,rfl,q1,Fs _ rfl⟩) (by rw[hKe];intro g hg Gg;rw[List.mem_singleton.1 hg]at Gg ⊢;exact inK b _ Ec Yl Gg) (fun τ' w' fr Vc n x Hv Ij=>?_);rw[hKe]at fr;cases x with
          | cur=>
           have e1:=h.cu n Ij;have e2:=h.cu b Ec;subst e1 e2;exact Vc.cur (by rw[Jt];rfl)
          | cells T l=>exact oF h fr Hv Ij (by
            simp only[List.mem_singleton];exact h.dj n b _ _ Ij Ec Hv Yl (by rintro rfl;rw[Ec]at Ij;cases Ij))
        | _=>simp[AS.mat]at Ez
       | _=>rw[hav]at Ez;simp[AS.mat]at Ez
      | gen=>
       have Ez:=hm.1;obtain⟨hu0,hU⟩:=hus0 .gen (by rw[Jt];simp) rfl;cases hav:A.ev x0 with
       | c y=>
        rw[hav]at Ez q1 q3;cases y with
        | ptr b o=>
         cases o with
         | succ o=>simp[AS.mat]at Ez| zero=>
          have hgen:A.gen b=true:=Ez;have Yl:B b:=q3 b A50;subst hU;obtain⟨I,c',i1,i2,Hk,hBc,i3,hGen,nv,vv,pv,iv,av,Iy,⟨g1,g2,g3,g4,g5⟩,i4⟩:=aPo h hu0 Ji Yl hgen (fun c9 h9 h10=>Ad b c9 hgen Yl h9 h10);have hKe:k.K I=[I.cb,I.gb]:=by unfold Con.K;rw[Jt];rfl
          refine fin I i3 ⟨fun _=>hGen,(fun h9=>by rw[Jt]at h9;cases h9)⟩ (by
           rw[Jt,hca];refine⟨_,_,rfl, ?_,Fs _ i3⟩;show a.eval x0=_
           rw[i1];exact q1) (by
           rw[hKe];intro g hg Gg;rcases zG3.1 hg with rfl|hg
           .
            rw[i2]at Gg ⊢;exact inK c' _ Hk hBc Gg
           .
            rw[List.mem_singleton.1 hg,i1]at Gg ⊢;exact inK b _ Iy Yl Gg) (fun τ' w' fr Vc n x Hv Ij=>?_)
          rw[hKe]at fr;obtain⟨a1,left,cm,a2,a3⟩:=Vc.gen (by rw[Jt];rfl);cases x with
          | cur=>
           have e1:=h.cu n Ij;have e2:=h.cu c' Hk;subst e1 e2;rw[<-i2];exact a1
          | cells T l=>
           by_cases Ba:n=b
           .
            subst Ba;rw[Iy]at Ij;simp only[zG2,Bk.cells.injEq]at Ij;obtain⟨rfl,rfl⟩:=Ij;rw[<-i1];refine⟨_,a3, ?_⟩;exact⟨_,_,rfl,by show Value.pointer _=Value.pointer _;rw[i2],_,_,rfl,i3,_,_,rfl,g1,_,_,rfl,i4,_,_,rfl,g2,_,_,rfl,g3,_,_,rfl,g4,_,_,rfl,g5,_,_,rfl,⟨1,rfl,Int.le_refl _,Int.le_refl _⟩,_,_,rfl,⟨left,rfl,a2.1,a2.2⟩,_,_,rfl,eM V cm,rfl⟩
           .
            refine oF h fr Hv Ij ?_;simp only[zG3,List.not_mem_nil,or_false,not_or];refine⟨?_, ?_⟩
            .
             rw[i2];exact h.dj n c' _ _ Ij Hk Hv hBc (by rintro rfl;rw[Hk]at Ij;cases Ij)
            .
             rw[i1];exact h.dj n b _ _ Ij Iy Hv Yl Ba
        | _=>simp[AS.mat]at Ez
       | _=>rw[hav]at Ez;simp[AS.mat]at Ez
      | _=>exact absurd rfl Xv
  .
   exact aJb h Vg Ji hG h0 Ad hc hf hx cs (fun k Ld=>hk k (by simp[Ld])) hu hn
end
end Eg
end
section
theorem A13{p:Prop}(h:p:=by simp[Op.operands]):p:=h
theorem A54{p:Prop}(h:p:=by simp only[Op.operands,zE1];exact⟨p,hp',rfl⟩):p:=h
namespace Eg
section
variable {C:Cx} {U:Value->Prop} {G:Cfg} {A:AS} {S B X:Nat->Prop} {τ τ':Sm} {V V':Vl} {a:Act} {w w':World} {d:Option Nat} {ty:TypeId} {pos:String} {aft:Array Edge} {gd:Option (Nat × Bool)}
structure Ctx (C:Cx) (U:Value->Prop) (G:Cfg) (A:AS) (S B:Nat->Prop) (V:Vl) (w:World):Prop where
 st:C.st=G.st
 th:TH C.τ0 C.w0
 con:∀k ∈ G.cons,ConOk k
 us:G.us=true->Us0 G C A S V w/\U=Us (V.ρ 0) C.w0
 lt:∀b c,A.gen b=true->B b->at? A.bk c=some .cur->B c->V.β c<V.β b
theorem Ctx.usOk (h:Kn C U A S B X τ V w)(hC:Ctx C U G A S B V w):aUg G U V w:=fun hg b j n c i v e hi hc=>by
 obtain⟨h1,h2⟩:=hC.us hg;rw[h2];exact h1.useW h.fr hC.th b j n c i v e hi hc
theorem aMk {l:List Operand}{p q:AV}(h:evs A l=[p,q]):∃x0 x1,l=[x0,x1]/\A.ev x0=p/\A.ev x1=q:=by
 match l,h with
 | [x0,x1],h=>simp only[evs,zJ2,and_true]at h;exact⟨x0,x1,rfl,h.1,h.2⟩
theorem aK8 {p:AV}(h:A.mat .cur p=true):∃b,p=.c (.ptr b 0)/\at? A.bk b=some .cur:=by
 cases p with
 | c x=>
  cases x with
  | ptr b o=>
   cases o with
   | zero=>
    refine⟨b,rfl, ?_⟩;simp only[AS.mat]at h;split at h
    .
     assumption
    .
     cases h
   | succ o=>simp[AS.mat]at h
  | _=>simp[AS.mat]at h
 | _=>simp[AS.mat]at h
theorem aGt (h:Kn C U A S B X τ V w)(hC:Ctx C U G A S B V w){c:Call}{f:Nat}{u:Out}(hc:c.callee=.value (.func f))(hx:∀x ∈ c.args.toList,Opd A S B X τ V a x)(hu:aE6 G A f (evs A c.args.toList)=some u)(hn:∀q,q<u.ns.length->¬S (A.sy.length+q))(hnX:u.nx=true->¬X A.ni):dA C U A ⟨d,.call c,ty,pos,aft,gd⟩ u S B X τ V a w:=by
 unfold aE6 at hu;split at hu
 .
  cases hu
 .
  rename_i hf;have hf':has f FS=true:=by simpa using hf
  split at hu
  .
   rename_i hb;have Dy:f=29:=by simpa using hb
   subst Dy;split at hu
   .
    rename_i p x exs;obtain⟨x0,x1,el,e0,e1⟩:=aMk exs;have Fj:=hx x0 (by rw[el];simp);have Fi:=hx x1 (by rw[el];simp);split at hu
    .
     rename_i hm;obtain⟨b,rfl,Ec⟩:=aK8 hm;have v0:=Fj.1;have b0:=Fj.2.2.1;rw[e0]at v0 b0;have hB:B b:=b0 b A50;have v1:=Fi.1;have s1:=Fi.2.1;rw[e1]at v1 s1;have v1c:CV.ok V x (a.eval x1):=v1;split at hu
     .
      rename_i s k lo hi hr;split at hu
      .
       rename_i hh;simp only[zC0,zE3]at hh;obtain⟨n,en,h1,h2⟩:=iE h v1c s1 hr;have Wa:a.eval x1=.int .i64 ((ln (V.ρ s):Int)-k):=v1;simp only[zG2]at hu;split at hu
       .
        subst hu;refine rO h hB Ec hc el v0 Wa (by rw[en]at Wa;cases Wa;omega) ⟨rfl,rfl,rfl,rfl,rfl⟩ (fun x Fj Fi _=>⟨V.ι,fun _ _=>rfl,fun τ=>?_⟩);rw[en]at Wa;cases Wa;have:=Fi A0;exact⟨x.toNat,by rw[Int.toNat_of_nonneg Fj],by show _<ln (V.ρ s);omega⟩
       .
        subst hu;have hX:=hnX rfl;refine rO h hB Ec hc el v0 Wa (by rw[en]at Wa;cases Wa;omega) ⟨rfl,rfl,rfl,rfl,rfl⟩ (fun x Fj Fi _=>⟨fun c=>if c=A.ni then x.toNat else V.ι c,fun c hc=>if_neg (by rintro rfl;exact hX hc),fun τ=>?_⟩);rw[en]at Wa;cases Wa;have:=Fi A0;refine⟨?_, ?_⟩
        .
         show Value.int .i64 x=.int .i64 ((if A.ni=A.ni then x.toNat else V.ι A.ni:Nat):Int)
         rw[if_pos rfl,Int.toNat_of_nonneg Fj]
        .
         show(if A.ni=A.ni then x.toNat else V.ι A.ni)+k<ln (V.ρ s)
         rw[if_pos rfl];omega
      .
       cases hu
     .
      rename_i lo hi _ hr;split at hu
      .
       rename_i hh;simp only[zE3]at hh;cases hu;obtain⟨n,en,h1,h2⟩:=iE h v1c s1 hr;refine rO h hB Ec hc el v0 en A0 ⟨rfl,rfl,rfl,rfl,rfl⟩ (fun x Fj Fi Tu=>⟨V.ι,fun _ _=>rfl,fun τ=>⟨x,rfl,Fj, ?_⟩⟩);split
       .
        rename_i h9;simp only[zE3]at h9;rcases Int.lt_or_le 0 n with h8|h8
        .
         have:=Fi h8;omega
        .
         have:=Tu h8;omega
       .
        rename_i h9;simp only[zE3]at h9;have:=Tu A0;omega
      .
       cases hu
     .
      cases hu
    .
     cases hu
   .
    cases hu
  .
   exact aJb h hC.st hC.th hC.con hC.us hC.lt hc hf' hx G.cons hC.con hu hn
theorem aR0 (h:Kn C U A S B X τ V w)(hS:aIp V S)(hC:Ctx C U G A S B V w){o:Oper}{u:Out}(hu:bP G A o=some u)(hp:∀x y z,o.op ≠ .pick x y z)(hx:∀x ∈ o.op.operands.toList,Opd A S B X τ V a x)(hcf:u.cu=true->∀c ∈ A.cf,c.ok V w)(hn:∀q,q<u.ns.length->¬S (A.sy.length+q))(hnX:u.nx=true->¬X A.ni)(Lb:¬B A.bk.length):dA C U A o u S B X τ V a w:=by
 obtain⟨d,op,ty,pos,aft,gd⟩:=o;cases op with
 | move x=>cases hu;exact aKy h (hx x A13)| assign x=>cases hu;exact aDk h (hx x A13)| nilCheck x=>exact wF h (hx x A13) hu| fieldAddr T x f=>exact tY h (hx x A13) hu| load T x=>exact aKz h (Ctx.usOk h hC) (hx x A13) hu hcf hn| store T x y=>exact aGr h hS hC.st (hx x A13) (hx y A13) hu hn| build T ps=>exact aGu h hS (fun p hp'=>hx p.2 A54) hu
 | buildSlice T n ps=>exact rN h (fun p hp'=>hx p.2 A54) hu hn
 | alloc T=>exact yW h hu Lb| box T x=>exact aOe h hS (hx x A13) hu Lb hn| binOp op T x y T'=>exact aGv h (hx x A13) (hx y A13) hu| unOp op T x=>exact aKw h (hx x A13) hu| pick x y z=>exact absurd rfl (hp x y z)| convert T D x=>exact aBf h hC.st (hx x A13) hu hn| extract x i=>exact aBe h (hx x A13) hu| indexAddr T x i=>exact tX h (hx x A13) (hx i A13) hu hnX| slice T x lo hi m=>
  cases lo with
  | none=>
   cases hi with
   | none=>cases hu| some hi=>
    cases m with
    | some _=>cases hu| none=>exact aDj h (hx x A13) (hx hi A13) hu hn
  | some lo=>
   cases hi with
   | some _=>cases hu| none=>
    cases m with
    | some _=>cases hu| none=>exact aGs h (hx x A13) (hx lo A13) hu hn
 | call c=>
  have Eb:∀x ∈ c.args.toList,Opd A S B X τ V a x:=fun x Tt=>hx x (by simp only[Op.operands,Call.operands,Array.toList_append,List.mem_append];exact .inr Tt);obtain⟨cal,Nc⟩:∃y,c.callee=y:=⟨_,rfl⟩
  cases cal with
  | value g=>
   cases g with
   | func f=>
    simp only[bP,Nc]at hu;exact aGt h hC Nc Eb hu hn hnX
   | _=>simp[bP,Nc]at hu
  | builtin b=>
   cases b with
   | len=>exact aOd h hS Nc Eb hu| append=>exact aDl h hC.st Nc Eb hu hn| _=>simp[bP,Nc]at hu
  | _=>simp[bP,Nc]at hu
 | _=>cases hu
end
end Eg
end
section
namespace Eg
structure vH (G:Cfg) (ops:List Oper) (ms:List Nat) (B:AS) (is:List Ri) (i:Nat) (o:Oper) (A:AS) (u:Out) (st:Option Bool) (A':AS) (ri:Ri):Prop where
 edge:lJ i o.after.toList=true
 gbit:oD ms i o.guard=true
 look:zH ops ms is i o=true
 gst:wY ops A is o=some st
 lay:A'=A.lay o.dst u
 no:st=some false->u={ r:=.c .und }/\ri=Ri.of true false u
 yes:st ≠ some false->∃u0,aF6 G ops B A i o=some u0/\(st=none->aQn u0=true)/\u=noNc (wP st) (trim A B.sy.length o u0)/\ri=Ri.of (aQp A o) (wP st) u0
theorem cL {α:Type}{l r:List α}{n:Nat}:at? (l++r) n=if n<l.length then at? l n else at? r (n-l.length):=by
 rw[dM,dM,dM];exact List.getElem?_append
theorem tQ {G:Cfg}{ops:List Oper}{ms:List Nat}{B F:AS}{I:List Ri}:∀(r:List Oper) (i:Nat) (A:AS) (is:List Ri),is.length=i->tR G ops ms B i r A is=some (F,I) →
  ∃(f:Nat->AS) (g:Nat->Out) (st:Nat->Option Bool),f i=A/\f (i+r.length)=F/\I.take i=is/\I.length=i+r.length/\∀k o,r[k]?=some o->∃ri,I[i+k]?=some ri/\vH G ops ms B (I.take (i+k)) (i+k) o (f (i+k)) (g (i+k)) (st (i+k)) (f (i+k+1)) ri
 | [],i,A,is,hl,h=>by
  simp only[tR,zG2,Prod.mk.injEq]at h;obtain⟨rfl,rfl⟩:=h;exact⟨fun _=>A,fun _=>{ r:=.c .und },fun _=>none,rfl,rfl,by rw[<-hl];exact List.take_length,by simp[hl],fun k o hk=>by simp at hk⟩
 | o :: r,i,A,is,hl,h=>by
  have go:∀(u:Out) (st0:Option Bool) (ri0:Ri),tR G ops ms B (i+1) r (A.lay o.dst u) (is++[ri0])=some (F,I)->vH G ops ms B is i o A u st0 (A.lay o.dst u) ri0->∃(f:Nat->AS) (g:Nat->Out) (st:Nat->Option Bool),f i=A/\f (i+(o :: r).length)=F/\I.take i=is/\I.length=i+(o :: r).length/\∀k o',(o :: r)[k]?=some o'->∃ri,I[i+k]?=some ri/\vH G ops ms B (I.take (i+k)) (i+k) o' (f (i+k)) (g (i+k)) (st (i+k)) (f (i+k+1)) ri:=by
   intro u st0 ri0 hr hs;obtain⟨f,g,st,h1,h2,h3,h4,h5⟩:=tQ r (i+1) _ _ (by simp[hl]) hr;have h3':I.take i=is:=by
    have:=congrArg (List.take i) h3;rw[List.take_take,Nat.min_eq_left A0,<-hl,List.take_left']at this
    .
     rw[hl]at this;exact this
    .
     rfl
   refine⟨fun k=>if k=i then A else f k,fun k=>if k=i then u else g k,fun k=>if k=i then st0 else st k,by simp, ?_,h3',by rw[h4,zB1];omega,fun k o' hk=>?_⟩
   .
    show(if i+(r.length+1)=i then A else f (i+(r.length+1)))=F
    rw[if_neg A0,show i+(r.length+1)=i+1+r.length by omega];exact h2
   .
    cases k with
    | zero=>
     simp only[List.getElem?_cons_zero,zG2]at hk;subst hk;refine⟨ri0, ?_, ?_⟩
     .
      have h9:(I.take (i+1))[i]?=some ri0:=by rw[h3,List.getElem?_append_right A0,hl];simp
      rw[List.getElem?_take]at h9;simpa using h9
     .
      simp only[zG1,h3',if_true,if_neg (show ¬i+1=i by omega),h1];exact hs
    | succ k=>
     rw[List.getElem?_cons_succ]at hk;obtain⟨ri,q1,q2⟩:=h5 k o' hk;rw[show i+1+k=i+(k+1) by omega]at q1 q2;refine⟨ri,q1, ?_⟩;simp only[if_neg (show ¬i+(k+1)=i by omega),if_neg (show ¬i+(k+1)+1=i by omega)];exact q2
  simp only[tR]at h;split at h
  .
   rename_i hc;simp only[zC0]at hc;split at h
   .
    rename_i hg;exact go _ (some false) _ h ⟨hc.1.1,hc.1.2,hc.2,hg,rfl,fun _=>⟨rfl,rfl⟩,fun h9=>absurd rfl h9⟩
   .
    rename_i st0 Ae hg;simp only[Option.bind_eq_some_iff]at h;obtain⟨u0,hu,h⟩:=h;split at h
    .
     rename_i hs;simp only[Bool.or_eq_true,Bool.not_eq_true']at hs;refine go _ st0 _ h ⟨hc.1.1,hc.1.2,hc.2,hg,rfl,fun h9=>?_,fun _=>⟨u0,hu,fun h9=>?_,rfl,rfl⟩⟩
     .
      subst h9;exact absurd rfl Ae
     .
      subst h9;exact hs.resolve_left (by simp[wP])
    .
     cases h
   .
    cases h
  .
   cases h
section
variable {C:Cx} {U:Value->Prop} {G:Cfg} {A:AS} {S B X:Nat->Prop} {τ τ':Sm} {V V':Vl} {a:Act} {w w':World} {v:Value}
theorem lC (n:Nat)(o:Oper)(u:Out)(b:Bool):(noNc b (trim A n o u)).ns=u.ns/\(noNc b (trim A n o u)).nb=u.nb/\(noNc b (trim A n o u)).up=u.up/\(noNc b (trim A n o u)).nx=u.nx/\(noNc b (trim A n o u)).nq=u.nq/\(noNc b (trim A n o u)).br=u.br:=by
 unfold noNc trim;split <;> split <;> exact⟨rfl,rfl,rfl,rfl,rfl,rfl⟩
theorem aNh {n:Nat}{o:Oper}{u:Out}(h:u.r.ok τ V v)(b:Bool):(noNc b (trim A n o u)).r.ok τ V v:=by
 have h1:(trim A n o u).r.ok τ V v:=by
  unfold trim;split
  .
   rename_i c x y z e1 e2;rw[e2]at h;show(aF1 A n c z).ok V v
   unfold aF1;split
   .
    obtain⟨t,e,q1,q2⟩:=h;exact⟨t,e,fun ht c hc=>q1 ht c (List.mem_filter.1 hc).1,fun ht c hc=>q2 ht c (List.mem_filter.1 hc).1⟩
   .
    exact h
  .
   exact h
 unfold noNc;split
 .
  exact h1
 .
  exact h1
theorem aKb {n:Nat}{o:Oper}{u:Out}{b:Bool}{c:Cf}(h:c ∈ (noNc b (trim A n o u)).nc):c ∈ u.nc:=by
 unfold noNc at h;split at h
 .
  cases h
 .
  unfold trim at h;split at h
  .
   exact h
  .
   exact h
theorem Res.trim {n:Nat}{o:Oper}{u:Out}(h:Res C U A u S B X τ V w v τ' V' w')(b:Bool):Res C U A (noNc b (trim A n o u)) S B X τ V w v τ' V' w':=by
 obtain⟨e1,e2,e3,e4,e5,e6⟩:=lC (A:=A) n o u b;exact⟨h.fr,h.sub,h.size,h.non,by rw[e5];exact h.qt,by rw[e6];exact h.tg,h.ρ,h.β,h.ι,by rw[e1];exact h.ns,aNh h.r b,by rw[e3];exact h.old,by rw[e3];exact h.up,by rw[e2];exact h.nb,fun c hc=>h.nc c (aKb hc)⟩
end
end Eg
end
section
namespace Eg
theorem yQ {a:Act}{t:Nat}(v:Value)(h:t<a.tmps.size):(a.put (some t) v).eval (.tmp t)=v:=by
 simp[Act.put,Act.eval,h]
theorem rH (a:Act)(d:Option Nat)(v:Value):(a.put d v).tmps.size=a.tmps.size:=by
 cases d <;> simp[Act.put]
theorem jU {a:Act}{d:Option Nat}{v:Value}{t:Nat}(h:d ≠ some t):(a.put d v).eval (.tmp t)=a.eval (.tmp t):=
 Act.eval_put fun q hq e=>h (by cases e;exact hq)
def xW (ops:Array Oper)(a:Act)(o:Oper):Prop:=∀g b,o.guard=some (g,b)->∃og t,ops[g]?=some og/\og.dst=some t/\a.eval (.tmp t)=.bool b
theorem xZ {ops:Array Oper}{a:Act}{o:Oper}:Region.wanted o (yielded ops a.tmps)=true ↔ xW ops a o:=by
 unfold Region.wanted xW;cases hg:o.guard with
 | none=>simp| some p=>
  obtain⟨g,b⟩:=p;simp only[beq_iff_eq,zG2,Prod.mk.injEq,and_imp];constructor
  .
   rintro h _ _ rfl rfl;unfold yielded at h;cases ho:ops[g]? with
   | none=>rw[ho]at h;simp at h| some og=>
    cases hd:og.dst with
    | none=>rw[ho]at h;simp[hd]at h| some t=>
     refine⟨og,t,rfl,hd, ?_⟩;rw[ho]at h;simp only[Option.bind_some,hd]at h;cases ht:a.tmps[t]? with
     | none=>rw[ht]at h;simp at h| some v=>
      rw[ht]at h;simp only[Act.eval,Array.getD_eq_getD_getElem?,ht,zI0];cases v <;> simp_all
  .
   intro h;obtain⟨og,t,h1,h2,h3⟩:=h g b rfl rfl;unfold yielded;simp only[h1,Option.bind_some,h2];simp only[Act.eval,Array.getD_eq_getD_getElem?]at h3;cases ht:a.tmps[t]? with
   | none=>rw[ht]at h3;simp[undef]at h3| some v=>rw[ht]at h3;simp only[zI0]at h3;rw[h3]
theorem uB:∀(l:List Oper) (ms:List Nat),(kW ms l).length=ms.length+l.length
 | [],ms=>by simp[kW]
 | o :: l,ms=>by simp only[kW];rw[uB l];simp;omega
theorem oW:∀(l:List Oper) (ms:List Nat) (k:Nat),k<ms.length->at? (kW ms l) k=at? ms k
 | [],ms,k,_=>rfl| o :: l,ms,k,h=>by
  simp only[kW];rw[oW l _ k A10,cL,if_pos h]
theorem zB:∀(l:List Oper) (ms:List Nat) (q:Nat) (o:Oper),l[q]?=some o->∃ms',(∀k,k<ms.length+q->at? ms' k=at? (kW ms l) k)/\ms'.length=ms.length+q/\at? (kW ms l) (ms.length+q)=some (uD ms' o.after.toList)
 | [],_,_,_,h=>by simp at h
 | o :: l,ms,0,o',h=>by
  simp only[List.getElem?_cons_zero,zG2]at h;subst h;refine⟨ms,fun k hk=>?_,rfl, ?_⟩
  .
   simp only[kW];rw[oW l _ k A10,cL,if_pos A0]
  .
   simp only[kW];rw[oW l _ _ A8,cL,if_neg A0];simp[at?]
 | o :: l,ms,q+1,o',h=>by
  rw[List.getElem?_cons_succ]at h;obtain⟨ms',h1,h2,h3⟩:=zB l (ms++[uD ms o.after.toList]) q o' h;rw[zA1,List.length_singleton,show ms.length+1+q=ms.length+(q+1) by omega]at h1 h2 h3;exact⟨ms',h1,h2,h3⟩
theorem oX {ms:List Nat}{j:Nat}:∀{es:List Edge},(uD ms es).testBit j=true->∃e ∈ es,Region.binds .any e=true/\(e.on=j\/((at? ms e.on).getD 0).testBit j=true)
 | [],h=>by simp[uD]at h
 | e :: l,h=>by
  simp only[uD]at h;split at h
  .
   rename_i hb;rw[Nat.testBit_or,Nat.testBit_or,Bool.or_eq_true,Bool.or_eq_true,Nat.one_shiftLeft,Nat.testBit_two_pow]at h;rcases h with h|h|h
   .
    obtain⟨e',h1,h2⟩:=oX h;exact⟨e',by simp[h1],h2⟩
   .
    exact⟨e,by simp,hb,.inl A57⟩
   .
    exact⟨e,by simp,hb,.inr h⟩
  .
   obtain⟨e',h1,h2⟩:=oX h;exact⟨e',by simp[h1],h2⟩
theorem mX {i:Nat}:∀{es:List Edge},lJ i es=true->∀e ∈ es,Region.binds .any e=true->e.on<i
 | [],_,e,h,_=>by cases h
 | e :: l,h,e',h',hb=>by
  simp only[lJ,zC0,Bool.or_eq_true,Bool.not_eq_true',zE3]at h;rcases zG3.1 h' with rfl|h'
  .
   rcases h.1 with h9|h9
   .
    rw[hb]at h9;cases h9
   .
    exact h9
  .
   exact mX h.2 e' h' hb
theorem uC {l:List Oper}{i j:Nat}{o:Oper}(ho:l[i]?=some o)(he:lJ i o.after.toList=true)(h:bit (kW [] l) i j=true):∃e ∈ o.after.toList,Region.binds .any e=true/\e.on<i/\(e.on=j\/bit (kW [] l) e.on j=true):=by
 obtain⟨ms',h1,h2,h3⟩:=zB l [] i o ho;simp only[zC3,zJ0]at h1 h2 h3;unfold bit at h;rw[h3]at h;obtain⟨e,q1,q2,q3⟩:=oX h;have q4:=mX he e q1 q2;refine⟨e,q1,q2,q4,q3.imp id fun h9=>?_⟩;unfold bit;rw[<-h1 e.on q4];exact h9
theorem zY:∀(l:List Oper) (i k:Nat),k<l.length->at? (xA i l) k=some ((1 <<< (i+k))-1)
 | [],_,_,h=>by simp at h
 | _ :: l,i,0,_=>rfl| _ :: l,i,k+1,h=>by
  simp only[xA,at?];rw[zY l (i+1) k A57,show i+1+k=i+(k+1) by omega]
theorem uQ {l:List Oper}{i j:Nat}(h:bit (xA 0 l) i j=true):j<i:=by
 unfold bit at h;rcases zJ1 i l.length with hi|hi
 .
  rw[zY l 0 i hi,zI0,zJ0,Nat.one_shiftLeft,Nat.testBit_two_pow_sub_one]at h;simpa using h
 .
  have h9:∀(l:List Oper) (q i:Nat),l.length<=i->at? (xA q l) i=none:=fun l=>by
   induction l with
   | nil=>intro q i _;cases i <;> rfl| cons o l ih=>intro q i h9;cases i with
    | zero=>simp at h9| succ i=>exact ih (q+1) i (by simpa using h9)
  rw[h9 l 0 i hi]at h;simp at h
section
variable {G:Cfg} {A:AS} {K:List Bk} {b:Bool}
theorem aNx (x:CV):AS.rng { A with bk:=K,tg:=b } x=A.rng x:=by cases x <;> rfl
theorem aEl (f:Fd)(x:CV):AS.fit { A with bk:=K,tg:=b } f x=A.fit f x:=by
 cases f <;> cases x <;> rfl
theorem aEk:∀(l:List Fd) (r:List CV),AS.fits { A with bk:=K,tg:=b } l r=A.fits l r
 | [],[]=>rfl| [],_ :: _=>rfl| _ :: _,[]=>rfl| f :: l,x :: r=>by simp only[AS.fits];rw[aEl,aEk l r]
theorem aMf (k:Rs)(x:AV):AS.fitE { A with bk:=K,tg:=b } k x=A.fitE k x:=by
 cases k <;> cases x <;> first|rfl|(simp only[AS.fitE,aEk,aEl,aNx])
theorem aH8 (x:Operand):AS.ev { A with bk:=K,tg:=b } x=A.ev x:=by cases x <;> rfl
theorem aDh {o:Oper}(h:aQp A o=true):bP G { A with bk:=K,tg:=b } o=bP G A o:=by
 obtain⟨d,op,ty,pos,aft,gd⟩:=o;cases op <;> simp only[aQp,Bool.false_eq_true]at h
 case store T x y=>
  have e1:AS.ev { A with bk:=K,tg:=b } x=A.ev x:=aH8 x;have e2:AS.ev { A with bk:=K,tg:=b } y=A.ev y:=aH8 y;have e3:∀f v,AS.fit { A with bk:=K,tg:=b } f v=A.fit f v:=aEl;have e4:∀k v,AS.fitE { A with bk:=K,tg:=b } k v=A.fitE k v:=aMf;simp only[bP,e1,e2,e3,e4];cases hx:A.ev x with
  | c z=>
   rw[hx]at h;cases z <;> simp[aL9]at h
   rename_i s k ix p;generalize cells T=n;generalize A.ev y=v;rcases n with _|n
   .
    rfl
   .
    rcases n with _|n
    .
     cases k <;> cases p <;> rfl
    .
     rcases n with _|n
     .
      cases k <;> cases p <;> cases v <;> rfl
     .
      cases k <;> cases p <;> rfl
  | _=>rw[hx]at h;simp[aL9]at h
 case move x=>cases x <;> rfl
 case assign x=>cases x <;> rfl
 case extract x i=>cases x <;> rfl
 case nilCheck x=>cases x <;> rfl
 case fieldAddr T x f=>cases x <;> rfl
 case indexAddr T x i=>cases x <;> cases i <;> rfl
end
end Eg
end
section
theorem QA134{p:Prop}(h:p:=by
 exact⟨q1,fun b hb=>⟨hr.non b A0 (q2 b hb).1,(q2 b hb).2⟩⟩):p:=h
namespace Eg
theorem dB {α:Type}{l:List α}{n:Nat}{x:α}(h:at? l n=some x):n<l.length:=by
 rw[dM]at h;exact(zC1.1 h).1
theorem sQ {α:Type}:∀{l:List α} {n m:Nat} {x y:α},at? (put l n y) m=some x->(m=n/\x=y/\n<l.length)\/(m ≠ n/\at? l m=some x)
 | [],_,_,_,_,h=>by simp[put,at?]at h
 | _ :: l,0,0,x,y,h=>by simp only[put,at?,zG2]at h;exact .inl ⟨rfl,h.symm,by simp⟩
 | _ :: l,0,m+1,x,y,h=>.inr ⟨by omega,h⟩
 | z :: l,n+1,0,x,y,h=>.inr ⟨by omega,h⟩
 | z :: l,n+1,m+1,x,y,h=>by
  simp only[put,at?]at h;rcases sQ h with⟨h1,h2,h3⟩|⟨h1,h2⟩
  .
   exact .inl ⟨by omega,h2,by simpa using h3⟩
  .
   exact .inr ⟨by omega,h2⟩
theorem mN {α:Type}:∀(l:List α) (n:Nat) (y:α),(put l n y).length=l.length
 | [],_,_=>rfl| _ :: _,0,_=>rfl| _ :: l,n+1,y=>by simp only[put,zB1,mN l n y]
def aQx (A:AS)(u:Out):Prop:=∀b l,u.up=some (b,l)->∃T x,at? A.bk b=some (.cells T x)
theorem zJ {A:AS}{d:Option Nat}{u:Out}(hu:aQx A u){n:Nat}{x:Bk}(h:at? (A.lay d u).bk n=some x):
  (n<A.bk.length/\((∃l T x0,u.up=some (n,l)/\at? A.bk n=some (.cells T x0)/\x=.cells T l)\/((∀l,u.up ≠ some (n,l))/\at? A.bk n=some x)))\/(n=A.bk.length/\u.nb=some x):=by
 have Fs:∀(K:List Bk),K.length=A.bk.length->at? (K++u.nb.toList) n=some x->at? K n=some x\/(n=A.bk.length/\u.nb=some x):=by
  intro K hK h;rw[cL]at h;split at h
  .
   exact .inl h
  .
   rename_i hn;cases hb:u.nb with
   | none=>rw[hb]at h;simp[at?]at h| some y=>
    rw[hb]at h;simp only[Option.toList]at h;have:=dB h;simp only[List.length_singleton]at this;rw[show n-K.length=0 by omega]at h;simp only[at?,zG2]at h;exact .inr ⟨by omega,by rw[h]⟩
 cases hup:u.up with
 | none=>
  simp only[AS.lay,hup]at h;rcases Fs _ rfl h with h9|h9
  .
   exact .inl ⟨dB h9,.inr ⟨by simp,h9⟩⟩
  .
   exact .inr h9
 | some p=>
  obtain⟨b,l⟩:=p;obtain⟨T,x0,hb⟩:=hu b l hup;simp only[AS.lay,hup,hb]at h;rcases Fs _ (mN _ _ _) h with h9|h9
  .
   rcases sQ h9 with⟨rfl,rfl,h3⟩|⟨h1,h2⟩
   .
    exact .inl ⟨h3,.inl ⟨l,T,x0,rfl,hb,rfl⟩⟩
   .
    exact .inl ⟨dB h2,.inr ⟨fun l' e=>h1 (by cases e;rfl),h2⟩⟩
  .
   exact .inr h9
section
variable {C:Cx} {U:Value->Prop} {G:Cfg} {A E:AS} {S B X S' B' X':Nat->Prop} {τ τ':Sm} {V V':Vl} {a:Act} {w w':World} {v:Value} {u:Out} {d:Option Nat} {Y:List SF}
theorem Kn.pre (h:Kn C U { A with sy:=Y } S B X τ V w)(hs:∀s f,at? A.sy s=some f->at? Y s=some f):Kn C U A S B X τ V w:=
 ⟨h.fr,fun s f hf=>h.sy s f (hs s f hf),fun s f hf=>h.sc s f (hs s f hf),h.bk,h.bc,h.dj,h.lo,h.tg,h.cu⟩
def Spo (S B X:Nat->Prop)(x:CV):Prop:=(∀s ∈ x.sy,S s)/\(∀n ∈ x.bs,B n)/\(∀c ∈ x.is,X c)
theorem Spo.all {l:List CV}(h:∀x ∈ l,Spo S B X x):(∀s ∈ l.flatMap CV.sy,S s)/\(∀n ∈ l.flatMap CV.bs,B n)/\(∀c ∈ l.flatMap CV.is,X c):=by
 refine⟨fun s hs=>?_,fun s hs=>?_,fun s hs=>?_⟩
 .
  obtain⟨x,h1,h2⟩:=List.mem_flatMap.1 hs;exact(h x h1).1 s h2
 .
  obtain⟨x,h1,h2⟩:=List.mem_flatMap.1 hs;exact(h x h1).2.1 s h2
 .
  obtain⟨x,h1,h2⟩:=List.mem_flatMap.1 hs;exact(h x h1).2.2 s h2
theorem Kn.post (h:Kn C U { A with sy:=Y } S B X τ V w)(hr:Res C U A u S B X τ V w v τ' V' w')(hu:aQx A u)
  (hY:∀q f,q<u.ns.length->at? Y (A.sy.length+q)=some f->at? u.ns q=some f)
  (Is:∀s,S' s->S s\/∃q,q<u.ns.length/\s=A.sy.length+q) (Jz:∀s,S s->S' s)
  (Wu:∀n,B' n->B n\/n=A.bk.length) (Wt:∀n,B n->B' n) (hB3:¬B A.bk.length) (Vd:∀c,X c->X' c)
  (Qi:∀q f,at? u.ns q=some f->∀t ∈ f.sy,S' t)
  (hup:∀b l,u.up=some (b,l)->∀x ∈ l,Spo S' B' X' x)
  (Ba:∀T l,u.nb=some (.cells T l)->∀x ∈ l,Spo S' B' X' x):Kn C U { A.lay d u with sy:=Y } S' B' X' τ' V' w':=by
 have old:∀n x,at? (A.lay d u).bk n=some x->B' n->(∃y,at? A.bk n=some y/\B n/\(x=.cur->y=.cur))\/(n=A.bk.length/\u.nb=some x):=fun n x hx hn=>by
  rcases zJ (d:=d) hu hx with⟨h1,h2⟩|h2
  .
   have Hv:B n:=(Wu n hn).resolve_right A0;rcases h2 with⟨l,T,x0,e1,e2,rfl⟩|⟨_,e2⟩
   .
    exact .inl ⟨_,e2,Hv,fun e=>by cases e⟩
   .
    exact .inl ⟨_,e2,Hv,id⟩
  .
   exact .inr h2
 refine⟨hr.fr,fun s f hf hs=>?_,fun s f hf hs=>?_,fun n x hx hn=>?_,fun n x hx hn=>?_,fun n m x y hx hy hn hm Ae=>?_,fun n hx hn=>?_,fun ht=>?_,fun n hx=>?_⟩
 .
  rcases Is s hs with h1|⟨q,h1,rfl⟩
  .
   rw[hr.ρ s h1];exact SF.on (h.sy s f hf h1) hr.sub fun t ht=>hr.ρ t (h.sc s f hf h1 t ht)
  .
   exact hr.ns q f (hY q f h1 hf)
 .
  rcases Is s hs with h1|⟨q,h1,rfl⟩
  .
   exact fun t ht=>Jz t (h.sc s f hf h1 t ht)
  .
   exact Qi q f (hY q f h1 hf)
 .
  rcases old n x hx hn with⟨y,h1,h2,_⟩|⟨rfl,h2⟩
  .
   obtain⟨_,b2,b3,b4⟩:=h.bk n y h1 h2;refine⟨?_,by rw[hr.β n h2];exact hr.non _ b3 b2,by rw[hr.β n h2];exact Nat.lt_of_lt_of_le b3 hr.size,by rw[hr.β n h2];exact b4⟩;rcases zJ (d:=d) hu hx with⟨_,⟨l,T,x0,e1,e2,rfl⟩|⟨e1,e2⟩⟩|⟨e1,_⟩
   .
    exact hr.up n l T x0 e1 e2 h2
   .
    exact hr.old n x h2 e2 e1
   .
    have:=dB h1;omega
  .
   obtain⟨c1,c2,c3,c4,_⟩:=hr.nb x h2;exact⟨c1,c2,c4,.inr (zF2 h.fr.size c3)⟩
 .
  rcases zJ (d:=d) hu hx with⟨h1,⟨l,T,x0,e1,e2,rfl⟩|⟨e1,e2⟩⟩|⟨rfl,e2⟩
  .
   exact Spo.all (hup n l e1)
  .
   have Hv:B n:=(Wu n hn).resolve_right A0;obtain⟨c1,c2,c3⟩:=h.bc n x e2 Hv;exact⟨fun s hs=>Jz s (c1 s hs),fun m hm=>Wt m (c2 m hm),fun c hc=>Vd c (c3 c hc)⟩
  .
   cases x with
   | cur=>exact absurd rfl (hr.nb _ e2).2.2.2.2| cells T l=>exact Spo.all (Ba T l e2)
 .
  rcases old n x hx hn with⟨y1,h1,h2,_⟩|⟨rfl,h2⟩
  .
   rcases old m y hy hm with⟨y2,h3,h4,_⟩|⟨rfl,h4⟩
   .
    rw[hr.β n h2,hr.β m h4];exact h.dj n m _ _ h1 h3 h2 h4 Ae
   .
    have q1:=(h.bk n y1 h1 h2).2.2.1;have q2:=(hr.nb y h4).2.2.1;rw[hr.β n h2];omega
  .
   rcases old m y hy hm with⟨y2,h3,h4,_⟩|⟨rfl,h4⟩
   .
    have q1:=(h.bk m y2 h3 h4).2.2.1;have q2:=(hr.nb x h2).2.2.1;rw[hr.β m h4];omega
   .
    exact absurd rfl Ae
 .
  rcases old n .cur hx hn with⟨y,h1,h2,h3⟩|⟨rfl,h2⟩
  .
   have Kp:at? A.bk n=some .cur:=by rw[h1,h3 rfl]
   obtain⟨q1,q2⟩:=h.lo n Kp h2;have q3:=(h.bk n _ Kp h2).2.2.1;rw[hr.β n h2];exact QA134
  .
   exact absurd rfl (hr.nb _ h2).2.2.2.2
 .
  have Xr:(A.tg && !u.br)=true:=ht;simp only[zC0,Bool.not_eq_true']at Xr;exact hr.tg Xr.2 (h.tg Xr.1)
 .
  rcases zJ (d:=d) hu hx with⟨h1,⟨l,T,x0,e1,e2,e3⟩|⟨e1,e2⟩⟩|⟨rfl,e2⟩
  .
   cases e3
  .
   exact h.cu n e2
  .
   exact absurd rfl (hr.nb _ e2).2.2.2.2
end
end Eg
end
section
theorem QA119{p:Prop}(h:p:=by
 obtain⟨o,ho⟩:=mQ hk
 rw[h.lay ho]
 rfl):p:=h
namespace Eg
theorem jB {t:Nat}:∀{l:List Oper} {i:Nat},jQ t i l=none->∀o ∈ l,o.dst ≠ some t
 | [],_,_,o,h=>by cases h
 | o :: l,i,h,o',h'=>by
  simp only[jQ]at h;cases hd:o.dst with
  | none=>
   rw[hd]at h;rcases zG3.1 h' with rfl|h'
   .
    rw[hd];simp
   .
    exact jB h o' h'
  | some d=>
   rw[hd]at h;simp only at h;split at h
   .
    cases h
   .
    rename_i Ae;rcases zG3.1 h' with rfl|h'
    .
     rw[hd];intro e;cases e;simp at Ae
    .
     exact jB h o' h'
theorem oG {t:Nat}:∀{l:List Oper} {i j:Nat},jQ t i l=some j->i<=j/\∃o,l[j-i]?=some o/\o.dst=some t
 | [],_,_,h=>by simp[jQ]at h
 | o :: l,i,j,h=>by
  simp only[jQ]at h;have Fs:jQ t (i+1) l=some j->i<=j/\∃o',(o :: l)[j-i]?=some o'/\o'.dst=some t:=fun h=>by
   obtain⟨h1,o',h2,h3⟩:=oG h;refine⟨by omega,o', ?_,h3⟩;rw[show j-i=(j-(i+1))+1 by omega,List.getElem?_cons_succ];exact h2
  cases hd:o.dst with
  | none=>rw[hd]at h;exact Fs h| some d=>
   rw[hd]at h;simp only at h;split at h
   .
    rename_i e;cases h;refine⟨zB0 _,o,by simp, ?_⟩;rw[hd];simpa using e
   .
    exact Fs h
theorem kT {n:Nat}:∀{l:List Oper},aCe n l=true->∀{i:Nat} {o:Oper} {d:Nat},l[i]?=some o->o.dst=some d->d<n/\∀j o',i<j->l[j]?=some o'->o'.dst ≠ some d
 | [],_,i,o,d,h,_=>by simp at h
 | x :: l,hc,i,o,d,h,hd=>by
  simp only[aCe,zC0]at hc;cases i with
  | zero=>
   simp only[List.getElem?_cons_zero,zG2]at h;subst h;have h1:=hc.1;rw[hd]at h1;simp only[zC0,zE3,Option.isNone_iff_eq_none]at h1;refine⟨h1.1,fun j o' hj ho'=>?_⟩;cases j with
   | zero=>omega| succ j=>
    rw[List.getElem?_cons_succ]at ho';exact jB h1.2 o' (zA3 ho')
  | succ i=>
   rw[List.getElem?_cons_succ]at h;obtain⟨h1,h2⟩:=kT hc.2 h hd;refine⟨h1,fun j o' hj ho'=>?_⟩;cases j with
   | zero=>omega| succ j=>
    rw[List.getElem?_cons_succ]at ho';exact h2 j o' A0 ho'
theorem rL {ms:List Nat}{m:Nat}{rm:Ri}:∀{l:List Ri} {i:Nat},aOa ms m rm i l=true->∀{k:Nat} {r:Ri},l[k]?=some r->i+k ≠ m->(rm.nq=true->r.cu=true->bit ms m (i+k)=true)/\((rm.br=true\/rm.sp=true)->r.nk=false->bit ms m (i+k)=true\/bit ms (i+k) m=true)
 | [],_,_,k,r,h,_=>by simp at h
 | x :: l,i,hc,k,r,h,Ae=>by
  simp only[aOa,zC0]at hc;cases k with
  | zero=>
   simp only[List.getElem?_cons_zero,zG2]at h;subst h;have h1:=hc.1;simp only[zG1]at Ae ⊢;simp only[Bool.or_eq_true,beq_iff_eq,Ae,false_or,zC0,Bool.not_eq_true']at h1;refine⟨fun a b=>?_,fun a b=>?_⟩
   .
    rcases h1.1 with h9|h9
    .
     rw[a,b]at h9;cases h9
    .
     exact h9
   .
    rcases h1.2 with ((h9|h9)|h9)|h9
    .
     rcases a with a|a <;> rw[a]at h9 <;> simp at h9
    .
     exact .inl h9
    .
     exact .inr h9
    .
     rw[b]at h9;cases h9
  | succ k=>
   rw[List.getElem?_cons_succ]at h;have:=rL hc.2 h A0;rw[show i+1+k=i+(k+1) by omega]at this;exact this
theorem jE {ms:List Nat}{is:List Ri}:∀{l:List Ri} {i:Nat},aBc ms is i l=true->∀{k:Nat} {r:Ri},l[k]?=some r->(r.sp=true->r.nk=false)/\aOa ms (i+k) r 0 is=true
 | [],_,_,k,r,h=>by simp at h
 | x :: l,i,hc,k,r,h=>by
  simp only[aBc,zC0]at hc;cases k with
  | zero=>
   simp only[List.getElem?_cons_zero,zG2]at h;subst h;exact⟨fun h9=>by have:=hc.1.1;rw[h9]at this;simpa using this,hc.1.2⟩
  | succ k=>
   rw[List.getElem?_cons_succ]at h;have:=jE hc.2 h;rw[show i+1+k=i+(k+1) by omega]at this;exact this
theorem jZ {α:Type}{t t':Nat}(h:t ≠ t'):∀{l:List (Nat × α)},bH t (del t' l)=bH t l
 | []=>rfl| (k,x) :: l=>by
  simp only[del];split
  .
   rename_i e;have e:k=t':=by simpa using e
   rw[jZ h];simp only[bH];rw[if_neg A10]
  .
   simp only[bH];rw[jZ h]
theorem sS:∀{l:List Oper},aNa l=true->∀{j:Nat} {o:Oper} {T:TypeId},l[j]?=some o->o.op=.alloc T->o.guard=none/\∃z ds,bH T TZ=some (z,ds)
 | [],_,_,_,_,h,_=>by simp at h
 | x :: l,hc,j,o,T,h,ho=>by
  simp only[aNa,zC0]at hc;cases j with
  | zero=>
   simp only[List.getElem?_cons_zero,zG2]at h;subst h;have h1:=hc.1;rw[ho]at h1;simp only[zC0,Option.isNone_iff_eq_none]at h1;obtain⟨p,hp⟩:=Option.isSome_iff_exists.1 h1.1;exact⟨h1.2,p.1,p.2,hp⟩
  | succ j=>
   rw[List.getElem?_cons_succ]at h;exact sS hc.2 h ho
structure dW (G:Cfg) (A:AS) (ops:Array Oper) (ms:List Nat) (I:List Ri) (f:Nat->AS) (g:Nat->Out) (st:Nat->Option Bool):Prop where
 f0:f 0={ A with nc:=[],bk:=A.bk++pre ops.toList }
 step:∀k o,ops[k]?=some o->∃ri,I[k]?=some ri/\vH G ops.toList ms A (I.take k) k o (f k) (g k) (st k) (f (k+1)) ri
 ord:aBc ms I 0 I=true
 dst:aCe G.nt ops.toList=true
 low:∀i j,bit ms i j=true->j<i
 al:aNa ops.toList=true
section
variable {G:Cfg} {A:AS} {ops:Array Oper} {ms:List Nat} {I:List Ri} {f:Nat->AS} {g:Nat->Out} {st:Nat->Option Bool}
theorem dW.lay (h:dW G A ops ms I f g st){k:Nat}{o:Oper}(ho:ops[k]?=some o):f (k+1)=(f k).lay o.dst (g k):=by
 obtain⟨ri,_,h1⟩:=h.step k o ho;exact h1.lay
theorem mQ {k:Nat}(hk:k<ops.size):∃o,ops[k]?=some o:=⟨ops[k],by simp[hk]⟩
theorem cF {k:Nat}{o:Oper}(h:ops[k]?=some o):ops.toList[k]?=some o:=by simpa using h
theorem dW.sy1 (h:dW G A ops ms I f g st){k:Nat}(hk:k<ops.size):(f (k+1)).sy=(f k).sy++(g k).ns:=by
 exact QA119
theorem dW.syN (h:dW G A ops ms I f g st):∀{k n:Nat},k<=n->n<=ops.size->∃r,(f n).sy=(f k).sy++r
 | k,n,Ca,hn=>by
  induction n with
  | zero=>exact⟨[],by rw[show k=0 by omega];simp⟩
  | succ n ih=>
   rcases Nat.lt_or_eq_of_le Ca with h1|h1
   .
    obtain⟨r,hr⟩:=ih A0 A0;exact⟨r++(g n).ns,by rw[h.sy1 A0,hr,zD0]⟩
   .
    exact⟨[],by rw[h1];simp⟩
theorem dW.syIn (h:dW G A ops ms I f g st){k s:Nat}{x:SF}(hk:k<=ops.size)(hs:at? (f k).sy s=some x):at? (f ops.size).sy s=some x:=by
 obtain⟨r,hr⟩:=h.syN hk (zB0 _);rw[hr,cL,if_pos (dB hs)];exact hs
theorem dW.syNew (h:dW G A ops ms I f g st){k q:Nat}{x:SF}(hk:k<ops.size)(hq:q<(g k).ns.length)(hs:at? (f ops.size).sy ((f k).sy.length+q)=some x):at? (g k).ns q=some x:=by
 obtain⟨r,hr⟩:=h.syN (k:=k+1) A0 (zB0 _);rw[hr,h.sy1 hk,cL,if_pos A10,cL,if_neg A0,Nat.add_sub_cancel_left]at hs;exact hs
theorem dW.syLe (h:dW G A ops ms I f g st){k n:Nat}(Ca:k<=n)(hn:n<=ops.size):(f k).sy.length<=(f n).sy.length:=by
 obtain⟨r,hr⟩:=h.syN Ca hn;rw[hr];simp
theorem dW.cf (h:dW G A ops ms I f g st):∀{k:Nat},k<=ops.size->(f k).cf=A.cf
 | 0,_=>by rw[h.f0]
 | k+1,hk=>by
  obtain⟨o,ho⟩:=mQ (ops:=ops) (k:=k) A0;rw[h.lay ho];exact h.cf (k:=k) A0
theorem dW.slot0 (h:dW G A ops ms I f g st){t:Nat}:∀{k:Nat},k<=ops.size->(∀j o,j<k->ops[j]?=some o->o.dst ≠ some t)->bH t (f k).sl=bH t A.sl
 | 0,_,_=>by rw[h.f0]
 | k+1,hk,hn=>by
  obtain⟨o,ho⟩:=mQ (ops:=ops) (k:=k) A0;rw[h.lay ho,<-h.slot0 (k:=k) A0 (fun j o' hj=>hn j o' A0)];have:=hn k o A0 ho;simp only[AS.lay];cases hd:o.dst with
  | none=>rfl| some d=>
   rw[hd]at this;have Ae:t ≠ d:=fun e=>this A82;simp only[bH];rw[if_neg A10,jZ Ae]
theorem dW.slot1 (h:dW G A ops ms I f g st){t j:Nat}{o:Oper}(ho:ops[j]?=some o)(hd:o.dst=some t):∀{k:Nat},k<=ops.size->j<k->bH t (f k).sl=some (g j).r
 | 0,_,hj=>by omega
 | k+1,hk,hj=>by
  obtain⟨o',ho'⟩:=mQ (ops:=ops) (k:=k) A0;rw[h.lay ho'];rcases Nat.lt_or_eq_of_le (Nat.le_of_lt_succ hj) with h1|h1
  .
   have Ae:=(kT h.dst (cF ho) hd).2 k o' h1 (cF ho');rw[<-h.slot1 ho hd (k:=k) A0 h1];simp only[AS.lay];cases hd':o'.dst with
   | none=>rfl| some d=>
    rw[hd']at Ae;have Ae:t ≠ d:=fun e=>Ae A82;simp only[bH];rw[if_neg A10,jZ Ae]
  .
   subst h1;rw[ho]at ho';cases ho';simp only[AS.lay,hd,bH,beq_self_eq_true,if_true]
theorem dW.uniq (h:dW G A ops ms I f g st){i j:Nat}{o o':Oper}{t:Nat}(ho:ops[i]?=some o)(ho':ops[j]?=some o')(hd:o.dst=some t)(hd':o'.dst=some t):i=j:=by
 rcases Nat.lt_trichotomy i j with h1|h1|h1
 .
  exact absurd hd' ((kT h.dst (cF ho) hd).2 j o' h1 (cF ho'))
 .
  exact h1
 .
  exact absurd hd ((kT h.dst (cF ho') hd').2 i o h1 (cF ho))
end
end Eg
end
section
namespace Eg
def aK4 (x:CV):Bool:=match x with
 | .top=>true| .nil=>true| .tv _=>true| .int _ _=>true| _=>false
theorem aQ6:TZ.all (fun p=>p.2.1.all aK4)=true:=by decide
theorem pN {α:Type}{n:Nat}{x:α}:∀{l:List (Nat × α)},bH n l=some x->(n,x) ∈ l
 | [],h=>by cases h
 | (k,y) :: l,h=>by
  simp only[bH]at h;split at h
  .
   rename_i e;cases h;have e:k=n:=by simpa using e
   subst e;simp
  .
   exact List.mem_cons_of_mem _ (pN h)
theorem aK3 {l:List CV}(h:l.all aK4=true):l.flatMap CV.sy=[]/\l.flatMap CV.bs=[]/\l.flatMap CV.is=[]:=by
 simp only[zF3]at h;refine⟨?_, ?_, ?_⟩ <;>
 .
  simp only[List.flatMap_eq_nil_iff];intro x hx;have:=h x hx;cases x <;> first|rfl|(simp[aK4]at this)
theorem aNg {T:Nat}{z:List CV}{ds:List Nat}(h:bH T TZ=some (z,ds)):z.flatMap CV.sy=[]/\z.flatMap CV.bs=[]/\z.flatMap CV.is=[]:=
 aK3 (zF3.1 aQ6 _ (pN h))
section
variable {C:Cx} {U:Value->Prop} {G:Cfg} {A:AS} {S B X:Nat->Prop} {τ:Sm} {V:Vl} {a:Act} {w:World} {d:Option Nat} {ty:TypeId} {pos:String} {aft:Array Edge} {gd:Option (Nat × Bool)}
structure aVu (C:Cx) (U:Value->Prop) (A:AS) (S B X:Nat->Prop) (p:Nat) (τ:Sm) (V:Vl) (w:World) (τ':Sm) (V':Vl) (w':World):Prop where
 kn:Kn C U A S (fun n=>B n\/n=p) X τ' V' w'
 sub:Sub τ τ'
 qt:∀b s,τ b=some s->s.k ≠ .bt->w'.heap[b]?=w.heap[b]?
 ρ:∀s,S s->V'.ρ s=V.ρ s
 β:∀n,B n->V'.β n=V.β n
 ι:∀c,X c->V'.ι c=V.ι c
 up:w.heap.size<=V'.β p
 tg:Tg τ->Tg τ'
theorem aCh (h:Kn C U A S B X τ V w){T p:Nat}{z:List CV}{ds:List Nat}(hz:bH T TZ=some (z,ds))(hp:at? A.bk p=some (.cells T z))(Lb:¬B p)(hB:∀n,B n->n<A.bk.length)(Q:Exit->Act->World->Prop):
  (⟨d,.alloc T,ty,pos,aft,gd⟩:Oper).wp Tryz.prog a w (fun a' w'=>∃τ' V',a'=a.put d (.pointer (some ⟨V'.β p,0,none⟩))/\aVu C U A S B X p τ V w τ' V' w') Q:=by
 have hu:bP ⟨true,true,[],[],[],[],0⟩ A ⟨d,.alloc T,ty,pos,aft,gd⟩=some { r:=.c (.ptr A.bk.length 0),nb:=some (.cells T z) }:=by simp only[bP,hz]
 refine Oper.wp_mono ?_ (yW h hu (fun h9=>absurd (hB _ h9) (Nat.lt_irrefl _)) Q);rintro a' w' ⟨v,τ',V',rfl,hr⟩;obtain⟨n1,n2,n3,n4,_⟩:=hr.nb _ rfl;obtain⟨z1,z2,z3⟩:=aNg hz
 let V2:Vl:={ V' with β:=fun n=>if n=p then V'.β A.bk.length else V'.β n }
 have hβp:V2.β p=V'.β A.bk.length:=if_pos rfl;have hβ:∀n,B n->V2.β n=V.β n:=fun n hn=>by
  have Ae:n ≠ p:=fun e=>Lb (e ▸ hn);exact(if_neg Ae).trans (hr.β n hn)
 have hb1:∀n x,at? A.bk n=some x->B n->x.ok V2 w' (V2.β n)/\τ' (V2.β n)=none/\V2.β n<w'.heap.size/\(V2.β n ∈ C.K\/C.w0.heap.size<=V2.β n):=fun n x hx hn=>by
  obtain⟨_,b2,b3,b4⟩:=h.bk n x hx hn;obtain⟨c1,c2,c3⟩:=h.bc n x hx hn;have hk:=hr.old n x hn hx A8;rw[hr.β n hn]at hk;rw[hβ n hn];refine⟨Bk.on hk (fun s _=>rfl) (fun m hm=>(hβ m (c2 m hm)).trans (hr.β m (c2 m hm)).symm) (fun c _=>rfl),hr.non _ b3 b2,Nat.lt_of_lt_of_le b3 hr.size,b4⟩
 have hb2:(Bk.cells T z).ok V2 w' (V2.β p)/\τ' (V2.β p)=none/\V2.β p<w'.heap.size/\(V2.β p ∈ C.K\/C.w0.heap.size<=V2.β p):=by
  rw[hβp];exact⟨Bk.on n1 (fun s hs=>rfl) (fun m hm=>by simp only[Bk.bs,z2]at hm;cases hm) (fun c _=>rfl),n2,n4,.inr (zF2 h.fr.size n3)⟩
 have Fx:∀n,at? A.bk n=some .cur->(B n\/n=p)->B n:=fun n hx hn=>hn.resolve_right (by rintro rfl;rw[hp]at hx;cases hx);refine⟨τ',V2, ?_,⟨⟨hr.fr,fun s f hf hs=>?_,h.sc,fun n x hx hn=>?_,fun n x hx hn=>?_,fun n m x y hx hy hn hm Ae=>?_,fun n hx hn=>?_,fun ht=>hr.tg rfl (h.tg ht),h.cu⟩,hr.sub,hr.qt rfl,hr.ρ,hβ,hr.ι,by rw[hβp];exact n3,hr.tg rfl⟩⟩
 .
  show a.put d v=_
  rw[hβp,show v=_ from hr.r]
 .
  show f.ok C U τ' V2 (V'.ρ s)
  rw[hr.ρ s hs];exact SF.on (h.sy s f hf hs) hr.sub fun t ht=>hr.ρ t (h.sc s f hf hs t ht)
 .
  rcases hn with hn|rfl
  .
   exact hb1 n x hx hn
  .
   rw[hp]at hx;cases hx;exact hb2
 .
  rcases hn with hn|rfl
  .
   obtain⟨c1,c2,c3⟩:=h.bc n x hx hn;exact⟨c1,fun m hm=>.inl (c2 m hm),c3⟩
  .
   rw[hp]at hx;cases hx;refine⟨fun s hs=>?_,fun s hs=>?_,fun s hs=>?_⟩
   .
    simp only[Bk.sy,z1]at hs;cases hs
   .
    simp only[Bk.bs,z2]at hs;cases hs
   .
    simp only[Bk.is,z3]at hs;cases hs
 .
  rcases hn with hn|rfl
  .
   rcases hm with hm|rfl
   .
    rw[hβ n hn,hβ m hm];exact h.dj n m x y hx hy hn hm Ae
   .
    have:=(h.bk n x hx hn).2.2.1;rw[hβ n hn,hβp];omega
  .
   rcases hm with hm|rfl
   .
    have:=(h.bk m y hy hm).2.2.1;rw[hβ m hm,hβp];omega
   .
    exact absurd rfl Ae
 .
  have Hv:=Fx n hx hn;obtain⟨q1,q2⟩:=h.lo n hx Hv;have q3:=(h.bk n _ hx Hv).2.2.1;rw[hβ n Hv];exact QA134
end
end Eg
end
section
theorem A58{p:Prop}(h:p:=by cases h):p:=h
theorem A60{p:Prop}(h:p:=by rw[hst];simp):p:=h
namespace Eg
def lL (S B X:Nat->Prop)(x:AV):Prop:=(∀s ∈ x.sy,S s)/\(∀n ∈ x.bs,B n)/\(∀c ∈ x.is,X c)
theorem aFk (v:Value):(aFl v).sy=[]/\(aFl v).bs=[]/\(aFl v).is=[]:=by
 unfold aFl;split
 .
  exact⟨rfl,rfl,rfl⟩
 .
  split <;> exact⟨rfl,rfl,rfl⟩
 .
  exact⟨rfl,rfl,rfl⟩
 .
  split <;> exact⟨rfl,rfl,rfl⟩
 .
  exact⟨rfl,rfl,rfl⟩
 .
  exact⟨rfl,rfl,rfl⟩
theorem aFi (S B X:Nat->Prop)(v:Value):lL S B X (aQd v):=by
 unfold aQd;split
 .
  rename_i cs;refine⟨fun s hs=>?_,fun s hs=>?_,fun s hs=>?_⟩;all_goals
   obtain⟨x,h1,h2⟩:=List.mem_flatMap.1 hs;obtain⟨y,_,rfl⟩:=zE1.1 h1;obtain⟨q1,q2,q3⟩:=aFk y;first|(rw[q1]at h2;cases h2)|(rw[q2]at h2;cases h2)|(rw[q3]at h2;cases h2)
 .
  obtain⟨q1,q2,q3⟩:=aFk v;refine⟨fun s hs=>?_,fun s hs=>?_,fun s hs=>?_⟩
  .
   simp only[AV.sy,q1]at hs;cases hs
  .
   simp only[AV.bs,q2]at hs;cases hs
  .
   simp only[AV.is,q3]at hs;cases hs
section
variable {C:Cx} {U:Value->Prop} {G:Cfg} {A:AS} {ops:Array Oper} {ms:List Nat} {I:List Ri} {f:Nat->AS} {g:Nat->Out} {st:Nat->Option Bool}
structure Sl (A:AS) (ops:Array Oper) (g:Nat->Out) (st:Nat->Option Bool) (a0:Act) (L R S B X:Nat->Prop) (τ:Sm) (V:Vl) (a:Act):Prop where
 yes:∀j o t,ops[j]?=some o->o.dst=some t->R j->(g j).r.ok τ V (a.eval (.tmp t))/\lL S B X (g j).r
 no:∀j o t,ops[j]?=some o->o.dst=some t->L j->¬R j->a.eval (.tmp t)=undef
 old:∀t,(∀j o,ops[j]?=some o->o.dst=some t->¬L j)->a.eval (.tmp t)=a0.eval (.tmp t)
 ent:∀t,(A.ev (.tmp t)).ok τ V (a0.eval (.tmp t))/\lL S B X (A.ev (.tmp t))
 want:∀j o,ops[j]?=some o->L j->(R j ↔ xW ops a o)
 tt:∀j o,ops[j]?=some o->L j->st j=some true->R j
 ff:∀j o,ops[j]?=some o->L j->st j=some false->¬R j
theorem aNy {is:List Ri}{k j:Nat}{ri:Ri}(h1:I[j]?=some ri)(hj:j<k):at? (I.take k) j=some ri:=by
 rw[dM,List.getElem?_take,if_pos hj];exact h1
theorem yH (h:dW G A ops ms I f g st){a0 a:Act}{L R S B X:Nat->Prop}{τ:Sm}{V:Vl}(hs:Sl A ops g st a0 L R S B X τ V a){i:Nat}{o:Oper}(ho:ops[i]?=some o)(hr:∀j,bit ms i j=true->L j)(Ab:∀j,L j->bit ms j i=false){pk:Option (Nat × Bool)}(hw:xW ops a o)(hpk:∀c b,pk=some (c,b)->a.eval (.tmp c)=.bool b){t:Nat}(hk:yJ ops.toList ms (I.take i) i o.guard pk t=true):Opd (f i) S B X τ V a (.tmp t):=by
 have hi:i<ops.size:=(zI3.1 ho).1;have ev:∀x,bH t (f i).sl=x->(f i).ev (.tmp t)=x.getD (.c .top):=fun x e=>by show(bH t (f i).sl).getD _=_;rw[e]
 have old:(∀(j:Nat) (o':Oper),j<i->ops[j]?=some o'->o'.dst ≠ some t)->(∀(j:Nat) (o':Oper),ops[j]?=some o'->o'.dst=some t->¬L j)->Opd (f i) S B X τ V a (.tmp t):=fun h1 h2=>by
  have e1:(f i).ev (.tmp t)=A.ev (.tmp t):=ev _ (h.slot0 A0 h1);obtain⟨q1,q2,q3,q4⟩:=hs.ent t;unfold Opd;rw[e1,hs.old t h2];exact⟨q1,q2,q3,q4⟩
 unfold yJ at hk;cases hwr:jQ t 0 ops.toList with
 | none=>
  have hn:=jB hwr;have Xy:∀(j:Nat) (o':Oper),ops[j]?=some o'->o'.dst ≠ some t:=fun j o' ho'=>hn o' (zA3 (cF ho'));exact old (fun j o' _ ho'=>Xy j o' ho') (fun j o' ho' hd=>absurd hd (Xy j o' ho'))
 | some j=>
  obtain⟨_,oj,Jf,hdj⟩:=oG hwr;have Ic:ops[j]?=some oj:=by simpa using Jf
  rw[hwr]at hk;simp only at hk;split at hk
  .
   rename_i Ad;have Ad:j<i:=by simpa using Ad
   simp only[zC0]at hk;have hL:=hr j hk.1;have e1:(f i).ev (.tmp t)=(g j).r:=ev _ (h.slot1 Ic hdj A0 Ad);obtain⟨ri,Cu,Bo⟩:=h.step j oj Ic;have yes:R j->Opd (f i) S B X τ V a (.tmp t):=fun hR=>by
    obtain⟨q1,q2,q3,q4⟩:=hs.yes j oj t Ic hdj hR;unfold Opd;rw[e1];exact⟨q1,q2,q3,q4⟩
   have Of:=hk.2;rw[aNy (is:=I) Cu Ad,dM,cF Ic]at Of;simp only[Bool.or_eq_true,Bool.not_eq_true']at Of;rcases Of with (h9|h9)|h9
   .
    cases hst:st j with
    | none=>
     obtain⟨u0,_,_,_,hri2⟩:=Bo.yes A60;rw[hri2,hst]at h9;cases h9
    | some b=>
     cases b with
     | true=>exact yes (hs.tt j oj Ic hL hst)| false=>
      obtain⟨hu,_⟩:=Bo.no hst;have e2:=hs.no j oj t Ic hdj hL (hs.ff j oj Ic hL hst);unfold Opd;rw[e1,hu,e2];exact⟨rfl,fun s h=> A58,fun s h=> A58,fun s h=> A58⟩
   .
    refine yes ((hs.want j oj Ic hL).2 fun g' b' hg'=>hw g' b' ?_);rw[hg']at h9;cases hgo:o.guard with
    | none=>rw[hgo]at h9;cases h9| some p=>
     rw[hgo]at h9;obtain⟨p1,p2⟩:=p;simp only[gEq,zC0,beq_iff_eq]at h9;rw[h9.1,h9.2]
   .
    refine yes ((hs.want j oj Ic hL).2 fun g' b' hg'=>?_);rw[hg']at h9;cases hpk':pk with
    | none=>rw[hpk']at h9;cases h9| some p=>
     rw[hpk']at h9;obtain⟨c,b⟩:=p;simp only[zC0,beq_iff_eq]at h9;obtain⟨h8,h7⟩:=h9;rw[dM]at h7;cases hog:ops.toList[g']? with
     | none=>rw[hog]at h7;cases h7| some og=>
      rw[hog]at h7;simp only at h7;cases hd:og.dst with
      | none=>rw[hd]at h7;cases h7| some t'=>
       rw[hd]at h7;simp only[oEq,beq_iff_eq]at h7;subst h7;exact⟨og,t',by simpa using hog,hd,by rw[hpk _ _ hpk',h8]⟩
  .
   rename_i Ad;simp only[zC0,zE3]at hk;have Ef:¬L j:=fun hL=>by have:=Ab j hL;rw[hk.2]at this;cases this
   exact old (fun j' o' Gs ho' hd=>by have:=h.uniq ho' Ic hd hdj;omega) (fun j' o' ho' hd=>by rw[h.uniq ho' Ic hd hdj];exact Ef)
end
end Eg
end
section
theorem A14{p:Prop}(h:p:=by cases h9):p:=h
theorem QA115{p:Prop}(h:p:=by
 simp only[zG2]at hg
 rw[<-hg]
 exact⟨(fun h9=>by cases h9),(fun h9=>by cases h9)⟩):p:=h
namespace Eg
section
variable {G:Cfg} {A:AS} {ops:Array Oper} {ms:List Nat} {I:List Ri} {f:Nat->AS} {g:Nat->Out} {st:Nat->Option Bool}
theorem lU (h:dW G A ops ms I f g st){a0 a:Act}{L R S B X:Nat->Prop}{τ:Sm}{V:Vl}(hs:Sl A ops g st a0 L R S B X τ V a){i:Nat}{o:Oper}(ho:ops[i]?=some o)(hr:∀j,bit ms i j=true->L j):(st i=some true->xW ops a o)/\(st i=some false->¬xW ops a o):=by
 have hi:i<ops.size:=(zI3.1 ho).1;obtain⟨ri,_,Bo⟩:=h.step i o ho;have hg:=Bo.gst;have hb:=Bo.gbit;unfold wY at hg;cases hgo:o.guard with
 | none=>
  rw[hgo]at hg;simp only[zG2]at hg;refine⟨fun _ g' b' h9=>?_,fun h9=>?_⟩
  .
   rw[hgo]at h9;cases h9
  .
   rw[<-hg]at h9;cases h9
 | some p=>
  obtain⟨j,b⟩:=p;rw[hgo]at hg hb;simp only[oD,zC0,zE3]at hb;have hL:=hr j hb.2;obtain⟨oj,Jf⟩:=mQ (ops:=ops) (k:=j) A0;obtain⟨rj,Ia,hsj⟩:=h.step j oj Jf;simp only at hg;rw[aNy (is:=I) Ia hb.1,dM,cF Jf]at hg;simp only at hg;cases hd:oj.dst with
  | none=>rw[hd]at hg;cases hg| some t=>
   rw[hd]at hg;simp only at hg;rw[h.slot1 Jf hd (k:=i) A0 hb.1]at hg;have wiff:xW ops a o ↔ a.eval (.tmp t)=.bool b:=by
    constructor
    .
     intro hw;obtain⟨og,t',q1,q2,q3⟩:=hw j b hgo;rw[Jf]at q1;cases q1;rw[hd]at q2;cases q2;exact q3
    .
     intro e g' b' h9;rw[hgo]at h9;cases h9;exact⟨oj,t,Jf,hd,e⟩
   have un:rj.un=false->st j=some true\/st j=some false:=fun h9=>by
    cases hst:st j with
    | none=>
     obtain⟨u0,_,_,_,hri2⟩:=hsj.yes A60;rw[hri2,hst]at h9;cases h9
    | some b=>cases b <;> simp
   split at hg
   .
    rename_i b2 e;split at hg
    .
     exact QA115
    .
     rename_i Ho;have hv:a.eval (.tmp t)=.bool b2:=by
      rcases un (by simpa using Ho) with h9|h9
      .
       have:=(hs.yes j oj t Jf hd (hs.tt j oj Jf hL h9)).1;have e':(g j).r=.c (.tv b2):=by simpa using e
       rw[e']at this;exact this
      .
       have e':(g j).r=.c (.tv b2):=by simpa using e
       rw[(hsj.no h9).1]at e';cases e'
     simp only[zG2]at hg;rw[wiff,hv,<-hg];refine⟨fun h9=>?_,fun h9=>?_⟩
     .
      simp only[zG2,beq_iff_eq]at h9;rw[h9]
     .
      simp only[zG2,beq_eq_false_iff_ne]at h9;intro e9;cases e9;exact h9 rfl
   .
    exact QA115
   .
    rename_i e;split at hg
    .
     cases hg
    .
     rename_i Ho;have e':(g j).r=.c .und:=by simpa using e
     have hv:a.eval (.tmp t)=undef:=by
      rcases un (by simpa using Ho) with h9|h9
      .
       have:=(hs.yes j oj t Jf hd (hs.tt j oj Jf hL h9)).1;rw[e']at this;exact this
      .
       exact hs.no j oj t Jf hd hL (hs.ff j oj Jf hL h9)
     simp only[zG2]at hg;rw[wiff,hv,<-hg];exact⟨fun h9=> A14,fun _ e9=>by simp[undef]at e9⟩
   .
    cases hg
end
end Eg
end
section
theorem QA58{p:Prop}(h:p:=by
 obtain⟨u0,_,_,e1,e2⟩:=h2.yes A60
 obtain⟨q1,q2,q3,q4,q5,q6⟩:=lC (A:=f k) A.sy.length o u0 (wP (st k))
 rw[e1,q2,q3,q5,q6,e2,hst]
 exact⟨rfl,rfl,rfl,by simp[Ri.of,wP]⟩):p:=h
theorem QA114{p:Prop}(h:p:=by
 rcases zJ1 i i' with h9|h9
 .
  exact h9
 .
  exact absurd (.inr rfl) (h2 i ri h9 Cu hs)):p:=h
namespace Eg
section
variable {G:Cfg} {A:AS} {ops:Array Oper} {ms:List Nat} {I:List Ri} {f:Nat->AS} {g:Nat->Out} {st:Nat->Option Bool}
theorem dW.row (h:dW G A ops ms I f g st){k:Nat}{o:Oper}{ri:Ri}(ho:ops[k]?=some o)(Cu:I[k]?=some ri):ri.sp=((g k).up.isSome || (g k).nb.isSome)/\ri.br=(g k).br/\ri.nq=(g k).nq/\(ri.un=true ↔ st k=none):=by
 obtain⟨ri',h1,h2⟩:=h.step k o ho;rw[Cu]at h1;cases h1;cases hst:st k with
 | none=>
  exact QA58
 | some b=>
  cases b with
  | false=>
   obtain⟨e1,e2⟩:=h2.no hst;rw[e2,e1];exact⟨rfl,rfl,rfl,by simp[Ri.of]⟩
  | true=>
   exact QA58
theorem dW.bk1 (h:dW G A ops ms I f g st){k:Nat}{o:Oper}{ri:Ri}(ho:ops[k]?=some o)(Cu:I[k]?=some ri)(hs:ri.sp=false):(f (k+1)).bk=(f k).bk:=by
 obtain⟨h1,_⟩:=h.row ho Cu;rw[hs]at h1;have h2:=h1.symm;simp only[Bool.or_eq_false_iff,Option.isSome_eq_false_iff,Option.isNone_iff_eq_none]at h2;rw[h.lay ho];simp only[AS.lay,h2.1,h2.2,Option.toList,List.append_nil]
theorem dW.tg1 (h:dW G A ops ms I f g st){k:Nat}{o:Oper}{ri:Ri}(ho:ops[k]?=some o)(Cu:I[k]?=some ri):(f (k+1)).tg=((f k).tg && !ri.br):=by
 obtain⟨_,h1,_⟩:=h.row ho Cu;rw[h.lay ho,h1];rfl
theorem dW.ri (h:dW G A ops ms I f g st){k:Nat}(hk:k<ops.size):∃o ri,ops[k]?=some o/\I[k]?=some ri:=by
 obtain⟨o,ho⟩:=mQ hk;obtain⟨ri,h1,_⟩:=h.step k o ho;exact⟨o,ri,ho,h1⟩
theorem dW.bkN (h:dW G A ops ms I f g st){k:Nat}:∀{n:Nat},k<=n->n<=ops.size->(∀m ri,k<=m->m<n->I[m]?=some ri->ri.sp=false)->(f n).bk=(f k).bk
 | 0,hk,_,_=>by rw[show k=0 by omega]
 | n+1,hk,hn,hs=>by
  rcases Nat.lt_or_eq_of_le hk with h1|h1
  .
   obtain⟨o,ri,q1,q2⟩:=h.ri (k:=n) A0;rw[h.bk1 q1 q2 (hs n ri A0 A0 q2)];exact h.bkN A0 A0 (fun m ri a b=>hs m ri a A0)
  .
   rw[h1]
theorem dW.tgN (h:dW G A ops ms I f g st){k:Nat}:∀{n:Nat},k<=n->n<=ops.size->(∀m ri,k<=m->m<n->I[m]?=some ri->ri.br=false)->(f n).tg=(f k).tg
 | 0,hk,_,_=>by rw[show k=0 by omega]
 | n+1,hk,hn,hs=>by
  rcases Nat.lt_or_eq_of_le hk with h1|h1
  .
   obtain⟨o,ri,q1,q2⟩:=h.ri (k:=n) A0;rw[h.tg1 q1 q2,hs n ri A0 A0 q2,Bool.not_false,Bool.and_true];exact h.tgN A0 A0 (fun m ri a b=>hs m ri a A0)
  .
   rw[h1]
theorem dW.tgF (h:dW G A ops ms I f g st){k:Nat}{ri:Ri}(Cu:I[k]?=some ri)(hb:ri.br=true):∀{n:Nat},k<n->n<=ops.size->(f n).tg=false
 | 0,hk,_=>by omega
 | n+1,hk,hn=>by
  obtain⟨o,ri',q1,q2⟩:=h.ri (k:=n) A0;rw[h.tg1 q1 q2];rcases Nat.lt_or_eq_of_le (Nat.le_of_lt_succ hk) with h1|h1
  .
   rw[h.tgF Cu hb h1 A0];rfl
  .
   subst h1;rw[Cu]at q2;cases q2;rw[hb,Bool.not_true,Bool.and_false]
structure At (ops:Array Oper) (I:List Ri) (f:Nat->AS) (L:Nat->Prop) (K:List Bk) (b:Bool):Prop where
 bk:∀i,i<=ops.size->(∀m ri,m<i->I[m]?=some ri->ri.sp=true->L m)->(∀m ri,i<=m->I[m]?=some ri->ri.sp=true->¬L m)->K=(f i).bk
 tg:∀i,i<=ops.size->(∀m ri,m<i->I[m]?=some ri->ri.br=true->L m)->(∀m ri,i<=m->I[m]?=some ri->ri.br=true->¬L m)->b=(f i).tg
theorem At.ready (h:dW G A ops ms I f g st){L:Nat->Prop}{K:List Bk}{b:Bool}(hA:At ops I f L K b){i:Nat}{ri:Ri}(hi:i<ops.size)(Cu:I[i]?=some ri)(hnk:ri.nk=false)(hr:∀j,bit ms i j=true->L j)(Ef:¬L i)(Ab:∀j,L j->bit ms j i=false):K=(f i).bk/\b=(f i).tg:=by
 have Cc:∀m rm,I[m]?=some rm->(rm.br=true\/rm.sp=true)->m ≠ i->bit ms m i=true\/bit ms i m=true:=fun m rm hm hb Ae=>by
  obtain⟨_,h1⟩:=jE h.ord hm;rw[zJ0]at h1;have:=(rL h1 Cu A0).2 hb hnk;rw[zJ0]at this;exact this
 have lo:∀m rm,m<i->I[m]?=some rm->(rm.br=true\/rm.sp=true)->L m:=fun m rm Ad hm hb=>by
  rcases Cc m rm hm hb A0 with h1|h1
  .
   have:=h.low m i h1;omega
  .
   exact hr m h1
 have hi':∀m rm,i<=m->I[m]?=some rm->(rm.br=true\/rm.sp=true)->¬L m:=fun m rm Ce hm hb hL=>by
  rcases Nat.lt_or_eq_of_le Ce with h2|h2
  .
   rcases Cc m rm hm hb A0 with h1|h1
   .
    have:=Ab m hL;rw[h1]at this;cases this
   .
    have:=h.low i m h1;omega
  .
   subst h2;exact Ef hL
 exact⟨hA.bk i A0 (fun m rm a b c=>lo m rm a b (.inr c)) (fun m rm a b c=>hi' m rm a b (.inr c)),hA.tg i A0 (fun m rm a b c=>lo m rm a b (.inl c)) (fun m rm a b c=>hi' m rm a b (.inl c))⟩
theorem At.next (h:dW G A ops ms I f g st){L:Nat->Prop}{K:List Bk}{b:Bool}(hA:At ops I f L K b){i:Nat}{o:Oper}{ri:Ri}(ho:ops[i]?=some o)(Cu:I[i]?=some ri)(hr:∀j,bit ms i j=true->L j)(Ef:¬L i)(Ab:∀j,L j->bit ms j i=false):At ops I f (fun j=>L j\/j=i) (AS.lay { f i with bk:=K,tg:=b } o.dst (g i)).bk (b && !ri.br):=by
 have hi:i<ops.size:=(zI3.1 ho).1;obtain⟨r1,r2,_⟩:=h.row ho Cu;refine⟨fun i' hi' h1 h2=>?_,fun i' hi' h1 h2=>?_⟩
 .
  cases hs:ri.sp with
  | false=>
   rw[hs]at r1;have r3:=r1.symm;simp only[Bool.or_eq_false_iff,Option.isSome_eq_false_iff,Option.isNone_iff_eq_none]at r3;have e:(AS.lay { f i with bk:=K,tg:=b } o.dst (g i)).bk=K:=by simp only[AS.lay,r3.1,r3.2,Option.toList,List.append_nil]
   rw[e];refine hA.bk i' hi' (fun m rm a b c=>(h1 m rm a b c).resolve_right ?_) (fun m rm a b c hL=>h2 m rm a b c (.inl hL));rintro rfl;rw[Cu]at b;cases b;rw[hs]at c;cases c
  | true=>
   obtain⟨e1,e2⟩:=At.ready h hA hi Cu ((jE h.ord Cu).1 hs) hr Ef Ab;subst e1 e2;have Ad:i<i':=by
    exact QA114
   show((f i).lay o.dst (g i)).bk=_
   rw[<-h.lay ho];refine(h.bkN A0 hi' fun m rm a b hm=>?_).symm;cases hsm:rm.sp with
   | false=>rfl| true=>
    have hL:L m:=(h1 m rm b hm hsm).resolve_right A0;have q1:=(jE h.ord Cu).2;rw[zJ0]at q1;have q2:=(rL q1 hm A0).2 (.inr hs) ((jE h.ord hm).1 hsm);rw[zJ0]at q2;rcases q2 with q2|q2
    .
     have:=h.low i m q2;omega
    .
     have:=Ab m hL;rw[q2]at this;cases this
 .
  cases hs:ri.br with
  | false=>
   rw[Bool.not_false,Bool.and_true];refine hA.tg i' hi' (fun m rm a b c=>(h1 m rm a b c).resolve_right ?_) (fun m rm a b c hL=>h2 m rm a b c (.inl hL));rintro rfl;rw[Cu]at b;cases b;rw[hs]at c;cases c
  | true=>
   have Ad:i<i':=by
    exact QA114
   rw[Bool.not_true,Bool.and_false,h.tgF Cu hs Ad hi']
end
end Eg
end
section
theorem QA122{p:Prop}(h:p:=by
 rcases h with h|⟨j,h1,h2⟩
 .
  exact .inl h
 .
  exact .inr ⟨j,hR j h1,h2⟩):p:=h
namespace Eg
section
variable {G:Cfg} {A:AS} {ops:Array Oper} {ms:List Nat} {I:List Ri} {f:Nat->AS} {g:Nat->Out} {st:Nat->Option Bool}
def Sb (A:AS)(f:Nat->AS)(R:Nat->Prop)(s:Nat):Prop:=s<A.sy.length\/∃j,R j/\(f j).sy.length<=s/\s<(f (j+1)).sy.length
def Xb (A:AS)(f:Nat->AS)(R:Nat->Prop)(c:Nat):Prop:=c<A.ni\/∃j,R j/\(f j).ni<=c/\c<(f (j+1)).ni
def Bb (A:AS)(ops:Array Oper)(R:Nat->Prop)(K:List Bk)(n:Nat):Prop:=n<K.length/\∀j o T,ops[j]?=some o->o.op=.alloc T->n=A.bk.length+nAl j ops.toList->R j
theorem dW.ni1 (h:dW G A ops ms I f g st){k:Nat}(hk:k<ops.size):(f (k+1)).ni=if (g k).nx then (f k).ni+1 else (f k).ni:=by
 exact QA119
theorem dW.niLe (h:dW G A ops ms I f g st){k:Nat}:∀{n:Nat},k<=n->n<=ops.size->(f k).ni<=(f n).ni
 | 0,hk,_=>by rw[show k=0 by omega];exact zB0 _
 | n+1,hk,hn=>by
  rcases Nat.lt_or_eq_of_le hk with h1|h1
  .
   have h2:=h.niLe (k:=k) (n:=n) A0 A0;rw[h.ni1 A0];split <;> omega
  .
   rw[h1];exact zB0 _
theorem aQi (h:dW G A ops ms I f g st){R:Nat->Prop}(hR:∀j,R j->j<ops.size){i q:Nat}(hi:i<ops.size)(hn:¬R i)(hq:q<(g i).ns.length):¬Sb A f R ((f i).sy.length+q):=by
 have e:(f (i+1)).sy.length=(f i).sy.length+(g i).ns.length:=by rw[h.sy1 hi];simp
 rintro (h1|⟨j,h1,h2,h3⟩)
 .
  have:=h.syLe (k:=0) (n:=i) A0 A0;rw[h.f0]at this;have h4:A.sy.length<=(f i).sy.length:=this;omega
 .
  have hj:=hR j h1;rcases Nat.lt_trichotomy j i with h4|h4|h4
  .
   have:=h.syLe (k:=j+1) (n:=i) A0 A0;omega
  .
   subst h4;exact hn h1
  .
   have:=h.syLe (k:=i+1) (n:=j) A0 A0;omega
theorem aQe (h:dW G A ops ms I f g st){R:Nat->Prop}(hR:∀j,R j->j<ops.size){i:Nat}(hi:i<ops.size)(hn:¬R i)(hx:(g i).nx=true):¬Xb A f R (f i).ni:=by
 have e:(f (i+1)).ni=(f i).ni+1:=by rw[h.ni1 hi,hx];rfl
 rintro (h1|⟨j,h1,h2,h3⟩)
 .
  have:=h.niLe (k:=0) (n:=i) A0 A0;rw[h.f0]at this;have h4:A.ni<=(f i).ni:=this;omega
 .
  have hj:=hR j h1;rcases Nat.lt_trichotomy j i with h4|h4|h4
  .
   have:=h.niLe (k:=j+1) (n:=i) A0 A0;omega
  .
   subst h4;exact hn h1
  .
   have:=h.niLe (k:=i+1) (n:=j) A0 A0;omega
theorem aQj {R:Nat->Prop}{i s:Nat}(h:Sb A f (fun j=>R j\/j=i) s)(he:(f (i+1)).sy.length=(f i).sy.length+(g i).ns.length):Sb A f R s\/∃q,q<(g i).ns.length/\s=(f i).sy.length+q:=by
 rcases h with h|⟨j,h1|rfl,h2,h3⟩
 .
  exact .inl (.inl h)
 .
  exact .inl (.inr ⟨j,h1,h2,h3⟩)
 .
  exact .inr ⟨s-(f j).sy.length,by omega,by omega⟩
theorem aFn {R R':Nat->Prop}{s:Nat}(h:Sb A f R s)(hR:∀j,R j->R' j):Sb A f R' s:=by
 exact QA122
theorem aFm {R R':Nat->Prop}{s:Nat}(h:Xb A f R s)(hR:∀j,R j->R' j):Xb A f R' s:=by
 exact QA122
end
theorem aJc {o:Oper}{T:TypeId}(ho:o.op=.alloc T):∀(l:List Oper) (i j:Nat),l[i]?=some o->i<j->nAl i l<nAl j l:=by
 intro l;induction l with
 | nil=>intro i j h;simp at h| cons x l ih=>
  intro i j h hj;obtain⟨j,rfl⟩:∃k,j=k+1:=⟨j-1,by omega⟩
  cases i with
  | zero=>
   simp only[List.getElem?_cons_zero,zG2]at h;subst h;simp only[nAl,ho];omega
  | succ i=>
   rw[List.getElem?_cons_succ]at h;have:=ih i j h A0;simp only[nAl];split <;> omega
theorem aK6 {l:List Oper}{i j:Nat}{o o':Oper}{T T':TypeId}(h:l[i]?=some o)(h':l[j]?=some o')(ho:o.op=.alloc T)(ho':o'.op=.alloc T')(e:nAl i l=nAl j l):i=j:=by
 rcases Nat.lt_trichotomy i j with h1|h1|h1
 .
  have:=aJc ho l i j h h1;omega
 .
  exact h1
 .
  have:=aJc ho' l j i h' h1;omega
theorem yR:∀{l:List Oper} {i:Nat} {o:Oper} {T:TypeId} {z:List CV} {ds:List Nat},l[i]?=some o->o.op=.alloc T->bH T TZ=some (z,ds)->at? (pre l) (nAl i l)=some (.cells T z)
 | [],_,_,_,_,_,h,_,_=>by simp at h
 | x :: l,0,o,T,z,ds,h,ho,hz=>by
  simp only[List.getElem?_cons_zero,zG2]at h;subst h;simp only[pre,ho,hz,nAl,at?]
 | x :: l,i+1,o,T,z,ds,h,ho,hz=>by
  rw[List.getElem?_cons_succ]at h;have ih:=yR h ho hz;simp only[nAl,pre];split
  .
   rename_i T' e;split <;> exact ih
  .
   exact ih
end Eg
end
section
namespace Eg
section
variable {C:Cx} {U:Value->Prop} {G:Cfg} {A A':AS} {S B X S' B' X':Nat->Prop} {τ τ':Sm} {V V':Vl} {a:Act} {w w':World}
theorem Kn.like (h:Kn C U A S B X τ V w)(h1:A'.sy=A.sy)(h2:A'.bk=A.bk)(h3:A'.tg=A.tg):Kn C U A' S B X τ V w:=by
 obtain⟨a1,a2,a3,a4,a5,a6,a7⟩:=A;obtain⟨b1,b2,b3,b4,b5,b6,b7⟩:=A';simp only at h1 h2 h3;subst h1 h2 h3;exact⟨h.fr,h.sy,h.sc,h.bk,h.bc,h.dj,h.lo,h.tg,h.cu⟩
theorem Kn.syIn (h:Kn C U A S B X τ V w)(hS:∀s,S s->s<A.sy.length):aIp V S:=fun s hs=>by
 obtain⟨f,hf⟩:∃f,at? A.sy s=some f:=by rw[dM];exact⟨_,zA0 (hS s hs)⟩
 rcases (h.sy s f hf hs).1 with⟨e,_⟩|⟨b,j,c,s',e,_⟩
 .
  exact⟨_,_,_,e⟩
 .
  exact⟨_,_,_,e⟩
theorem Kn.low (h:Kn C U A S B X τ V w){c b:Nat}{x:Bk}(hc:at? A.bk c=some .cur)(hB:B c)(hx:at? A.bk b=some x)(hb:B b)(Ae:b ≠ c):V.β c<V.β b:=by
 obtain⟨h1,h2⟩:=h.lo c hc hB;have h3:=(h.bk b x hx hb).2.2.2;have h4:=h.dj b c x _ hx hc hb hB Ae;have h5:V.β c<=V.β b:=by
  rcases zJ1 (V.β b) (V.β c) with h9|h9
  .
   rcases h3 with h3|h3
   .
    exact absurd h3 (h2 _ h9).2
   .
    omega
  .
   exact h9
 omega
structure UsE (C:Cx) (U:Value->Prop) (A:AS) (V:Vl):Prop where
 two:2<=A.sy.length
 st:C.st=true
 fa:SVb C.τ0 (.rc 4) 0 2 (V.ρ 0)
 us:SVb C.τ0 (.rc 0) 0 2 (V.ρ 1)
 use:∀b o n c i v,V.ρ 1=.slice (some ⟨b,o,none⟩) n c->i<n->C.w0.cell? ⟨b,o+i,none⟩=some v->Us (V.ρ 0) C.w0 v
 u:U=Us (V.ρ 0) C.w0
theorem UsE.on (h:UsE C U A V)(hA:A.sy.length<=A'.sy.length)(hρ:∀s,s<A.sy.length->V'.ρ s=V.ρ s):UsE C U A' V':=by
 have h0:=hρ 0 (by have:=h.two;omega);have h1:=hρ 1 (by have:=h.two;omega);refine⟨zF2 h.two hA,h.st,by rw[h0];exact h.fa,by rw[h1];exact h.us, ?_,by rw[h0];exact h.u⟩;rw[h0,h1];exact h.use
structure aNd (C:Cx) (G:Cfg):Prop where
 st:C.st=G.st
 th:TH C.τ0 C.w0
 con:∀k ∈ G.cons,ConOk k
theorem aP3 {E:AS}(hE:aNd C G)(hU:G.us=true->UsE C U E V)(h:Kn C U A S B X τ V w)(hS:∀s,s<E.sy.length->S s):Ctx C U G A S B V w:=by
 refine⟨hE.st,hE.th,hE.con,fun hg=>?_,fun b c hg hb hc hB=>?_⟩
 .
  have h1:=hU hg;have:=h1.two;exact⟨⟨h1.st,hS 0 A0,hS 1 A0,h1.fa,h1.us,h1.use⟩,h1.u⟩
 .
  unfold AS.gen at hg;split at hg
  .
   rename_i hx;exact h.low hc hB hx hb (fun e=>by subst e;rw[hx]at hc;cases hc)
  .
   cases hg
end
section
variable {C:Cx} {U:Value->Prop} {G:Cfg} {A:AS} {ops:Array Oper} {ms:List Nat} {I:List Ri} {f:Nat->AS} {g:Nat->Out} {st:Nat->Option Bool}
structure Inv (C:Cx) (U:Value->Prop) (G:Cfg) (A:AS) (ops:Array Oper) (ms:List Nat) (I:List Ri) (f:Nat->AS) (g:Nat->Out) (st:Nat->Option Bool) (a0:Act) (V0:Vl) (τ0:Sm) (L R:Nat->Prop) (K:List Bk) (b:Bool) (τ:Sm) (V:Vl) (a:Act) (w:World):Prop where
 kn:Kn C U { f ops.size with bk:=K,tg:=b } (Sb A f R) (Bb A ops R K) (Xb A f R) τ V w
 at_:At ops I f L K b
 sl:Sl A ops g st a0 L R (Sb A f R) (Bb A ops R K) (Xb A f R) τ V a
 rl:∀j,R j->L j
 ls:∀j,L j->j<ops.size
 cl:∀j k,L j->bit ms j k=true->L k
 nt:a.tmps.size=a0.tmps.size
 df:a.defers=a0.defers
 tq:C.st=true->Tg C.τ0->Tg τ
 ρ0:∀s,s<A.sy.length->V.ρ s=V0.ρ s
 β0:∀n,n<A.bk.length->V.β n=V0.β n
 ι0:∀c,c<A.ni->V.ι c=V0.ι c
 un:∀j o T z ds,ops[j]?=some o->o.op=.alloc T->bH T TZ=some (z,ds)->¬L j->at? K (A.bk.length+nAl j ops.toList)=some (.cells T z)
 kl:A.bk.length<=K.length
 sub:Sub τ0 τ
 cf:(∀j ri,L j->I[j]?=some ri->ri.nq=false)->(∀c ∈ A.cf,c.ok V w)/\∀j,R j->∀c ∈ (g j).nc,c.ok V w
 nc:∀j,R j->∀c ∈ (g j).nc,Sb A f R c.s/\Sb A f R c.r/\∀x ∈ c.ix.is,Xb A f R x
structure aIt (A F:AS) (g:Nat->Out) (m:Nat):Prop where
 k:∀c,(c ∈ A.cf\/∃j,j<m/\c ∈ (g j).nc)->F.kd c.s c.k=true/\c.k ≠ .bt
 o:∀c ∈ A.cf,c.s<A.sy.length/\c.r<A.sy.length/\∀x ∈ c.ix.is,x<A.ni
theorem Cf.on {F:AS}{S B X:Nat->Prop}{τ:Sm}{V V':Vl}{w w':World}{c:Cf}(h:Kn C U F S B X τ V w)(hk:F.kd c.s c.k=true)(hb:c.k ≠ .bt)(hs:S c.s)(hr:S c.r)(hx:∀x ∈ c.ix.is,X x)(hq:∀b s,τ b=some s->s.k ≠ .bt->w'.heap[b]?=w.heap[b]?)(hρ:∀s,S s->V'.ρ s=V.ρ s)(hι:∀c,X c->V'.ι c=V.ι c)(hc:c.ok V w):c.ok V' w':=by
 intro b j n q i e hi hix hu;rw[hρ _ hs]at e;unfold AS.kd at hk;split at hk
 .
  rename_i sf hf;have Ld:=Rs.eq_eq hk;obtain⟨h1,_⟩:=h.sy _ _ hf hs;rw[Ld,e]at h1;have Dy:∃s,τ b=some s/\s.k ≠ .bt:=by
   rcases h1 with⟨h9,_⟩|⟨b',j',c',s,h9,hτ,Ju,_⟩
   .
    cases h9
   .
    simp only[Value.slice.injEq,zG2,Addr.mk.injEq]at h9;obtain⟨⟨rfl,_⟩,_⟩:=h9;exact⟨s,hτ,by rw[Ju];exact hb⟩
  obtain⟨s,hτ,Hy⟩:=Dy;rw[hρ _ hr];exact(World.cell?_of_block (hq b s hτ Hy)).trans (hc b j n q i e hi (Ix.on hix fun x Tt=>(hι x (hx x Tt)).symm) hu)
 .
  cases hk
theorem nT (h:dW G A ops ms I f g st){i j:Nat}{o oj:Oper}(ho:ops[i]?=some o)(Jf:ops[j]?=some oj)(hb:bit ms j i=false)(a:Act)(v:Value):xW ops (a.put o.dst v) oj ↔ xW ops a oj:=by
 obtain⟨ri,_,hs⟩:=h.step j oj Jf;have hg:=hs.gbit;have ev:∀g' b' og t,oj.guard=some (g',b')->ops[g']?=some og->og.dst=some t->(a.put o.dst v).eval (.tmp t)=a.eval (.tmp t):=fun g' b' og t e1 e2 e3=>by
  rw[e1]at hg;simp only[oD,zC0]at hg;refine jU fun hd=>?_;have:=h.uniq ho e2 hd e3;subst this;rw[hg.2]at hb;cases hb
 constructor
 .
  intro hw g' b' e;obtain⟨og,t,q1,q2,q3⟩:=hw g' b' e;exact⟨og,t,q1,q2,by rw[<-ev g' b' og t e q1 q2];exact q3⟩
 .
  intro hw g' b' e;obtain⟨og,t,q1,q2,q3⟩:=hw g' b' e;exact⟨og,t,q1,q2,by rw[ev g' b' og t e q1 q2];exact q3⟩
end
end Eg
end
section
theorem QA96{p:Prop}(h:p:=by
 rw[jU (fun hd=>ht i o ho hd (.inr rfl))]
 exact hs.old t fun j o' ho' hd hL=>ht j o' ho' hd (.inl hL)):p:=h
theorem QA112{p:Prop}(h:p:=by
 exact⟨fun s hs=>iS s (q1 s hs),fun s hs=>iB s (q2 s hs),fun s hs=>iX s (q3 s hs)⟩):p:=h
namespace Eg
theorem aC3 (a:Act)(d:Option Nat)(v:Value):(a.put d v).defers=a.defers:=by cases d <;> rfl
theorem qZ {A:AS}{us:Bool}{f:Nat}{xs:List AV}{u:Out}:∀{cs:List Con},nA A true us f xs cs=some u->u.br=false
 | [],h=>by cases h
 | c :: cs,h=>by
  simp only[nA]at h;split at h
  .
   rename_i hh;simp only[zC0,Bool.not_true,Bool.or_false]at hh;cases h;show(!c.st)=false
   rw[hh.1.1.1.1.2];rfl
  .
   exact qZ h
theorem aIi {G:Cfg}{A:AS}{f:Nat}{xs:List AV}{u:Out}(hG:G.st=true)(h:aE6 G A f xs=some u):u.br=false:=by
 unfold aE6 at h
 (repeat' split at h) <;> first|cases h;done|(cases h;rfl)|skip
 all_goals rw[hG]at h;exact qZ h
theorem aDg {G:Cfg}{A:AS}{o:Oper}{u:Out}(hG:G.st=true)(h:bP G A o=some u):u.br=false:=by
 obtain⟨d,op,ty,pos,aft,gd⟩:=o;cases op <;> simp only[bP]at h
 all_goals
  (repeat' split at h) <;> first|cases h;done|(cases h;rfl)|(simp only[zF0]at h;obtain⟨_,_,rfl⟩:=h;rfl)|skip
 all_goals first
  | (rename_i hh;cases h;simp only[hG,zC0,Bool.not_true,Bool.false_or,Bool.not_eq_true']at hh;exact hh.1.2)| exact aIi hG h
section
variable {C:Cx} {U:Value->Prop} {G:Cfg} {A:AS} {ops:Array Oper} {ms:List Nat} {I:List Ri} {f:Nat->AS} {g:Nat->Out} {st:Nat->Option Bool} {a0 a:Act} {L R S B X S' B' X':Nat->Prop} {τ τ':Sm} {V V':Vl} {i:Nat} {o:Oper}
theorem dW.self (h:dW G A ops ms I f g st):bit ms i i=false:=by
 cases hb:bit ms i i with
 | false=>rfl| true=>exact absurd (h.low i i hb) (Nat.lt_irrefl _)
theorem lL.mono {x:AV}(h:lL S B X x)(hS:∀s,S s->S' s)(hB:∀s,B s->B' s)(hX:∀s,X s->X' s):lL S' B' X' x:=⟨fun s hs=>hS s (h.1 s hs),fun s hs=>hB s (h.2.1 s hs),fun s hs=>hX s (h.2.2 s hs)⟩
theorem Sl.pass (h:dW G A ops ms I f g st)(hs:Sl A ops g st a0 L R S B X τ V a)(Qg:∀j,R j->L j)(ho:ops[i]?=some o)(Ef:¬L i)(Ab:∀j,L j->bit ms j i=false)(hr:∀j,bit ms i j=true->L j)(hw:¬xW ops a o)(Ht:G.nt<=a.tmps.size):Sl A ops g st a0 (fun j=>L j\/j=i) R S B X τ V (a.put o.dst undef):=by
 have Kv:∀j o' t,ops[j]?=some o'->o'.dst=some t->j ≠ i->(a.put o.dst undef).eval (.tmp t)=a.eval (.tmp t):=fun j o' t ho' hd Ae=>jU fun hd'=>Ae (h.uniq ho' ho hd hd');refine⟨fun j o' t ho' hd hR=>?_,fun j o' t ho' hd hL hR=>?_,fun t ht=>?_,hs.ent,fun j o' ho' hL=>?_,fun j o' ho' hL hst=>?_,fun j o' ho' hL hst=>?_⟩
 .
  rw[Kv j o' t ho' hd (fun e=>Ef (e ▸ Qg j hR))];exact hs.yes j o' t ho' hd hR
 .
  rcases hL with hL|rfl
  .
   rw[Kv j o' t ho' hd (fun e=>Ef (e ▸ hL))];exact hs.no j o' t ho' hd hL hR
  .
   rw[ho]at ho';cases ho';rw[hd];exact yQ _ (Nat.lt_of_lt_of_le (kT h.dst (cF ho) hd).1 Ht)
 .
  exact QA96
 .
  rcases hL with hL|rfl
  .
   rw[nT h ho ho' (Ab j hL)];exact hs.want j o' ho' hL
  .
   rw[nT h ho ho' h.self];rw[ho]at ho';cases ho';exact⟨fun h9=>absurd (Qg j h9) Ef,fun h9=>absurd h9 hw⟩
 .
  rcases hL with hL|rfl
  .
   exact hs.tt j o' ho' hL hst
  .
   exact absurd ((lU h hs ho hr).1 hst) hw
 .
  rcases hL with hL|rfl
  .
   exact hs.ff j o' ho' hL hst
  .
   exact fun h9=>Ef (Qg j h9)
theorem Sl.take (h:dW G A ops ms I f g st)(hs:Sl A ops g st a0 L R S B X τ V a)(Qg:∀j,R j->L j)(ho:ops[i]?=some o)(Ef:¬L i)(Ab:∀j,L j->bit ms j i=false)(hr:∀j,bit ms i j=true->L j)(hw:xW ops a o)(Ht:G.nt<=a.tmps.size){v:Value}
  (Gd:Sub τ τ') (hρ:∀s,S s->V'.ρ s=V.ρ s) (hβ:∀n,B n->V'.β n=V.β n) (hι:∀c,X c->V'.ι c=V.ι c) (hS:∀s,S s->S' s) (hB:∀s,B s->B' s) (hX:∀s,X s->X' s) (hv:(g i).r.ok τ' V' v) (hsp:lL S' B' X' (g i).r):Sl A ops g st a0 (fun j=>L j\/j=i) (fun j=>R j\/j=i) S' B' X' τ' V' (a.put o.dst v):=by
 have Kv:∀j o' t,ops[j]?=some o'->o'.dst=some t->j ≠ i->(a.put o.dst v).eval (.tmp t)=a.eval (.tmp t):=fun j o' t ho' hd Ae=>jU fun hd'=>Ae (h.uniq ho' ho hd hd');have on:∀x u,AV.ok τ V x u->lL S B X x->AV.ok τ' V' x u:=fun x u h1 h2=>AV.on h1 Gd (fun s h9=>hρ s (h2.1 s h9)) (fun s h9=>hβ s (h2.2.1 s h9)) (fun s h9=>hι s (h2.2.2 s h9));refine⟨fun j o' t ho' hd hR=>?_,fun j o' t ho' hd hL hR=>?_,fun t ht=>?_,fun t=>?_,fun j o' ho' hL=>?_,fun j o' ho' hL hst=>?_,fun j o' ho' hL hst=>?_⟩
 .
  rcases hR with hR|rfl
  .
   rw[Kv j o' t ho' hd (fun e=>Ef (e ▸ Qg j hR))];obtain⟨q1,q2⟩:=hs.yes j o' t ho' hd hR;exact⟨on _ _ q1 q2,q2.mono hS hB hX⟩
  .
   rw[ho]at ho';cases ho';rw[hd,yQ _ (Nat.lt_of_lt_of_le (kT h.dst (cF ho) hd).1 Ht)];exact⟨hv,hsp⟩
 .
  rcases hL with hL|rfl
  .
   rw[Kv j o' t ho' hd (fun e=>Ef (e ▸ hL))];exact hs.no j o' t ho' hd hL (fun h9=>hR (.inl h9))
  .
   exact absurd (.inr rfl) hR
 .
  exact QA96
 .
  obtain⟨q1,q2⟩:=hs.ent t;exact⟨on _ _ q1 q2,q2.mono hS hB hX⟩
 .
  rcases hL with hL|rfl
  .
   rw[nT h ho ho' (Ab j hL),<-hs.want j o' ho' hL];exact⟨fun h9=>h9.resolve_right (fun e=>Ef (e ▸ hL)),.inl⟩
  .
   rw[nT h ho ho' h.self];rw[ho]at ho';cases ho';exact⟨fun _=>hw,fun _=>.inr rfl⟩
 .
  rcases hL with hL|rfl
  .
   exact .inl (hs.tt j o' ho' hL hst)
  .
   exact .inr rfl
 .
  rcases hL with hL|rfl
  .
   rintro (h9|rfl)
   .
    exact hs.ff j o' ho' hL hst h9
   .
    exact Ef hL
  .
   exact absurd hw ((lU h hs ho hr).2 hst)
end
theorem aEc {n:Nat}:∀{l:List Nat},has n l=true->n ∈ l
 | [],h=>by cases h
 | k :: l,h=>by
  simp only[has,Bool.or_eq_true,beq_iff_eq]at h;rcases h with rfl|h
  .
   simp
  .
   exact List.mem_cons_of_mem _ (aEc h)
theorem aD5 {b n h s:Nat}{l:List Nat}(hh:inB b n h l s=true):s<b\/s ∈ l\/(n<=s/\s<h):=by
 simp only[inB,Bool.or_eq_true,zC0,zE3]at hh;rcases hh with (h1|h1)|h1
 .
  exact .inl h1
 .
  exact .inr (.inl (aEc h1))
 .
  exact .inr (.inr h1)
theorem aAe {A:AS}{s:Nat}:∀{l:List Operand},s ∈ aQt A l->∃x ∈ l,s ∈ (A.ev x).sy
 | [],h=>by cases h
 | x :: l,h=>by
  rcases List.mem_append.1 h with h|h
  .
   exact⟨x,by simp,h⟩
  .
   obtain⟨y,h1,h2⟩:=aAe h;exact⟨y,by simp[h1],h2⟩
theorem aAg {A:AS}{s:Nat}:∀{l:List Operand},s ∈ aQv A l->∃x ∈ l,s ∈ (A.ev x).bs
 | [],h=>by cases h
 | x :: l,h=>by
  rcases List.mem_append.1 h with h|h
  .
   exact⟨x,by simp,h⟩
  .
   obtain⟨y,h1,h2⟩:=aAg h;exact⟨y,by simp[h1],h2⟩
theorem aAf {A:AS}{s:Nat}:∀{l:List Operand},s ∈ aQu A l->∃x ∈ l,s ∈ (A.ev x).is
 | [],h=>by cases h
 | x :: l,h=>by
  rcases List.mem_append.1 h with h|h
  .
   exact⟨x,by simp,h⟩
  .
   obtain⟨y,h1,h2⟩:=aAf h;exact⟨y,by simp[h1],h2⟩
structure xX (A:AS) (u:Out) (S B X:Nat->Prop):Prop where
 up:aQx A u
 ub:∀b l,u.up=some (b,l)->B b
 r:lL S B X u.r
 ul:∀b l,u.up=some (b,l)->∀x ∈ l,Spo S B X x
 nb:∀T l,u.nb=some (.cells T l)->∀x ∈ l,Spo S B X x
 ns:∀f ∈ u.ns,∀t ∈ f.sy,S t
 nc:∀c ∈ u.nc,S c.s/\S c.r/\∀x ∈ c.ix.is,X x
theorem aNn {E A:AS}{o:Oper}{u:Out}(h:spk E A o u=true){S B X:Nat->Prop}(hx:∀x ∈ looks o,(∀s ∈ (A.ev x).sy,S s)/\(∀n ∈ (A.ev x).bs,B n)/\(∀c ∈ (A.ev x).is,X c))
  (Br:∀s,s<E.sy.length->S s) (Gv:∀s,s<E.bk.length->B s) (hX0:∀s,s<E.ni->X s)
  (Is:∀s,A.sy.length<=s->s<A.sy.length+u.ns.length->S s) (Wu:∀s,A.bk.length<=s->s<A.bk.length+u.nb.toList.length->B s) (hX1:u.nx=true->X A.ni):xX A u S B X:=by
 have iS:∀s,inB E.sy.length A.sy.length (A.sy.length+u.ns.length) (aQt A (looks o)) s=true->S s:=fun s hs=>by
  rcases aD5 hs with h1|h1|⟨h1,h2⟩
  .
   exact Br s h1
  .
   obtain⟨x,q1,q2⟩:=aAe h1;exact(hx x q1).1 s q2
  .
   exact Is s h1 h2
 have iB:∀s,inB E.bk.length A.bk.length (A.bk.length+u.nb.toList.length) (aQv A (looks o)) s=true->B s:=fun s hs=>by
  rcases aD5 hs with h1|h1|⟨h1,h2⟩
  .
   exact Gv s h1
  .
   obtain⟨x,q1,q2⟩:=aAg h1;exact(hx x q1).2.1 s q2
  .
   exact Wu s h1 h2
 have iX:∀s,inB E.ni A.ni (if u.nx then A.ni+1 else A.ni) (aQu A (looks o)) s=true->X s:=fun s hs=>by
  rcases aD5 hs with h1|h1|⟨h1,h2⟩
  .
   exact hX0 s h1
  .
   obtain⟨x,q1,q2⟩:=aAf h1;exact(hx x q1).2.2 s q2
  .
   split at h2
   .
    rename_i hn;rw[show s=A.ni by omega];exact hX1 hn
   .
    omega
 simp only[spk,zC0,zF3]at h;obtain⟨⟨⟨⟨⟨⟨⟨h00,h0⟩,h1⟩,h2⟩,h3⟩,h4⟩,h5⟩,h6⟩:=h;refine⟨fun b l e=>?_,fun b l e=>iB b (by rw[e]at h00;exact h00),⟨fun s hs=>iS s (h1 s hs),fun s hs=>iB s (h2 s hs),fun s hs=>iX s (h3 s hs)⟩,fun b l e x Tt=>?_,fun T l e x Tt=>?_,fun f hf t ht=>iS t (h5 f hf t ht),fun c hc=>?_⟩
 .
  unfold aTw at h0;rw[e]at h0;simp only at h0;split at h0
  .
   rename_i T y e2;exact⟨T,y,e2⟩
  .
   cases h0
 .
  obtain⟨⟨q1,q2⟩,q3⟩:=h4 x (List.mem_append_left _ (by rw[e];exact Tt));exact QA112
 .
  obtain⟨⟨q1,q2⟩,q3⟩:=h4 x (List.mem_append_right _ (by rw[e];exact Tt));exact QA112
 .
  obtain⟨⟨q1,q2⟩,q3⟩:=h6 c hc;exact⟨iS _ q1,iS _ q2,fun s hs=>iX s (q3 s hs)⟩
theorem xX.noNc {A:AS}{u:Out}{S B X:Nat->Prop}(h:xX A u S B X)(b:Bool):xX A (noNc b u) S B X:=by
 unfold Eg.noNc;split
 .
  exact⟨h.up,h.ub,h.r,h.ul,h.nb,h.ns,fun c hc=>by cases hc⟩
 .
  exact h
end Eg
end
section
theorem QA63{p:Prop}(h:p:=by
 cases hb:bit ms j i with
 | false=>rfl
 | true=>exact absurd (hv.cl j i hj hb) Ef):p:=h
theorem QA66{p:Prop}(h:p:=by
 rcases hj with hj|rfl
 .
  exact .inl (hv.cl j k hj hk)
 .
  exact .inl (hr k hk)):p:=h
theorem QA90{p:Prop}(h:p:=by
 rcases hj with hj|rfl
 .
  exact hv.ls j hj
 .
  exact hi):p:=h
theorem QA105{p:Prop}(h:p:=by
 rcases h with h|⟨j,h1|rfl,h2,h3⟩
 .
  exact .inl h
 .
  exact .inr ⟨j,h1,h2,h3⟩
 .
  omega):p:=h
namespace Eg
theorem aKc {A:AS}{K:List Bk}{b:Bool}(n:Nat)(o:Oper)(u:Out):trim { A with bk:=K,tg:=b } n o u=trim A n o u:=by
 unfold trim;split
 .
  rename_i c x y z e1 e2;simp only[aF1,aH8]
 .
  rfl
theorem Opd.bk {A:AS}{K:List Bk}{b:Bool}{S B X:Nat->Prop}{τ:Sm}{V:Vl}{a:Act}{x:Operand}(h:Opd A S B X τ V a x):Opd { A with bk:=K,tg:=b } S B X τ V a x:=by
 unfold Opd at *;rw[aH8];exact h
section
variable {C:Cx} {U:Value->Prop} {G:Cfg} {A:AS} {ops:Array Oper} {ms:List Nat} {I:List Ri} {f:Nat->AS} {g:Nat->Out} {st:Nat->Option Bool} {a0 a:Act} {L R:Nat->Prop} {τ0 τ:Sm} {V0 V:Vl} {K:List Bk} {b:Bool} {w:World} {i:Nat} {o:Oper} {ri:Ri}
theorem aM2 {R:Nat->Prop}(he:(f (i+1)).sy.length=(f i).sy.length):Sb A f (fun j=>R j\/j=i)=Sb A f R:=by
 funext s;refine propext ⟨fun h=>?_,fun h=>aFn h fun j h9=>.inl h9⟩;exact QA105
theorem aM1 {R:Nat->Prop}(he:(f (i+1)).ni=(f i).ni):Xb A f (fun j=>R j\/j=i)=Xb A f R:=by
 funext s;refine propext ⟨fun h=>?_,fun h=>aFm h fun j h9=>.inl h9⟩;exact QA105
theorem Inv.pass (h:dW G A ops ms I f g st)(hv:Inv C U G A ops ms I f g st a0 V0 τ0 L R K b τ V a w)(Ht:G.nt<=a0.tmps.size)(ho:ops[i]?=some o)(Ef:¬L i)(hr:∀j,bit ms i j=true->L j)(hw:¬xW ops a o):Inv C U G A ops ms I f g st a0 V0 τ0 (fun j=>L j\/j=i) R K b τ V (a.put o.dst undef) w:=by
 have hi:i<ops.size:=(zI3.1 ho).1;have Ab:∀j,L j->bit ms j i=false:=fun j hj=>by
  exact QA63
 obtain⟨ri,Cu,Bo⟩:=h.step i o ho;have Ud:G.nt<=a.tmps.size:=by rw[hv.nt];exact Ht
 have hsp:(g i).up=none/\(g i).nb=none/\(g i).br=false:=by
  cases hst:st i with
  | none=>
   obtain⟨u0,hu,Ho,hg,hri'⟩:=Bo.yes A60;have h1:=Ho hst;obtain⟨q1,q2,q3,q4,q5,q6⟩:=lC (A:=f i) A.sy.length o u0 (wP (st i));simp only[aQn,zC0,Option.isNone_iff_eq_none,Bool.not_eq_true']at h1;rw[hg,q2,q3,q6];exact⟨h1.1.1.1,h1.1.1.2,h1.1.2⟩
  | some b=>
   cases b with
   | true=>exact absurd ((lU h hv.sl ho hr).1 hst) hw| false=>rw[(Bo.no hst).1];exact⟨rfl,rfl,rfl⟩
 have Ws:=At.next h hv.at_ ho Cu hr Ef Ab
 have e1:(AS.lay { f i with bk:=K,tg:=b } o.dst (g i)).bk=K:=by simp only[AS.lay,hsp.1,hsp.2.1,Option.toList,List.append_nil]
 rw[e1,(h.row ho Cu).2.1,hsp.2.2,Bool.not_false,Bool.and_true]at Ws;refine⟨hv.kn,Ws,hv.sl.pass h hv.rl ho Ef Ab hr hw Ud,fun j hj=>.inl (hv.rl j hj),fun j hj=>?_,fun j k hj hk=>?_,by rw[rH];exact hv.nt,by rw[aC3];exact hv.df,hv.tq,hv.ρ0,hv.β0,hv.ι0,fun j o' T z ds q1 q2 q3 q4=>hv.un j o' T z ds q1 q2 q3 (fun h9=>q4 (.inl h9)),hv.kl,hv.sub,fun h9=>hv.cf fun j rj q1 q2=>h9 j rj (.inl q1) q2,hv.nc⟩
 .
  exact QA90
 .
  exact QA66
theorem Inv.alloc (h:dW G A ops ms I f g st)(Ni:aIt A (f ops.size) g ops.size)(hv:Inv C U G A ops ms I f g st a0 V0 τ0 L R K b τ V a w)(Ht:G.nt<=a0.tmps.size)(ho:ops[i]?=some o)(Ef:¬L i)(hr:∀j,bit ms i j=true->L j)(hw:xW ops a o){T:TypeId}(hT:o.op=.alloc T)(Q:Exit->Act->World->Prop):
  o.wp Tryz.prog a w (fun a' w'=>∃R' K' b' τ' V',Inv C U G A ops ms I f g st a0 V0 τ0 (fun j=>L j\/j=i) R' K' b' τ' V' a' w') Q:=by
 have hi:i<ops.size:=(zI3.1 ho).1;have Ab:∀j,L j->bit ms j i=false:=fun j hj=>by
  exact QA63
 obtain⟨ri,Cu,Bo⟩:=h.step i o ho;have Ud:G.nt<=a.tmps.size:=by rw[hv.nt];exact Ht
 obtain⟨u0,hu,_,hg,_⟩:=Bo.yes fun e=>(lU h hv.sl ho hr).2 e hw;have hz:∃z ds,bH T TZ=some (z,ds)/\u0={ r:=.c (.ptr (A.bk.length+nAl i ops.toList) 0) }:=by
  unfold aF6 at hu;rw[hT]at hu;simp only at hu;split at hu
  .
   rename_i p e1 e2;cases hu;exact⟨p.1,p.2,e1,rfl⟩
  .
   cases hu
 obtain⟨z,ds,hz,rfl⟩:=hz;have Ul:g i={ r:=.c (.ptr (A.bk.length+nAl i ops.toList) 0) }:=by
  rw[hg];unfold noNc trim;simp only[hT];split <;> rfl
 have e1:(AS.lay { f i with bk:=K,tg:=b } o.dst (g i)).bk=K:=by rw[Ul];simp only[AS.lay,Option.toList,List.append_nil]
 have Ws:=At.next h hv.at_ ho Cu hr Ef Ab;rw[e1,(h.row ho Cu).2.1,Ul,Bool.not_false,Bool.and_true]at Ws
 have Js:ri.nq=false:=by rw[(h.row ho Cu).2.2.1,Ul]
 have hp:=hv.un i o T z ds ho hT hz Ef;have eS:Sb A f (fun j=>R j\/j=i)=Sb A f R:=aM2 (by rw[h.sy1 hi,Ul];simp);have eX:Xb A f (fun j=>R j\/j=i)=Xb A f R:=aM1 (by rw[h.ni1 hi,Ul];rfl);have eB:Bb A ops (fun j=>R j\/j=i) K=fun n=>Bb A ops R K n\/n=A.bk.length+nAl i ops.toList:=by
  funext n;refine propext ⟨fun h9=>?_,fun h9=>?_⟩
  .
   by_cases e:n=A.bk.length+nAl i ops.toList
   .
    exact .inr e
   .
    refine .inl ⟨h9.1,fun j o' T' q1 q2 q3=>(h9.2 j o' T' q1 q2 q3).resolve_right fun e9=>?_⟩;subst e9;exact e q3
  .
   rcases h9 with h9|rfl
   .
    exact⟨h9.1,fun j o' T' q1 q2 q3=>.inl (h9.2 j o' T' q1 q2 q3)⟩
   .
    exact⟨dB hp,fun j o' T' q1 q2 q3=>.inr (aK6 (cF q1) (cF ho) q2 hT A0)⟩
 have Lb:¬Bb A ops R K (A.bk.length+nAl i ops.toList):=fun h9=>Ef (hv.rl i (h9.2 i o T ho hT rfl));have hBlt:∀n,Bb A ops R K n->n<({ f ops.size with bk:=K,tg:=b }:AS).bk.length:=fun n hn=>hn.1;obtain⟨d,op,ty,pos,aft,gd⟩:=o;simp only at hT;subst hT;refine Oper.wp_mono ?_ (aCh hv.kn hz hp Lb hBlt Q);rintro a' w' ⟨τ',V',rfl,hb⟩;have hn0:∀n,n<A.bk.length->Bb A ops R K n:=fun n hn=>⟨Nat.lt_of_lt_of_le hn hv.kl,fun j o' T' q1 q2 q3=>by omega⟩;refine⟨fun j=>R j\/j=i,K,b,τ',V',⟨?_,Ws, ?_,fun j hj=>hj.imp (hv.rl j) id,fun j hj=>?_,fun j k hj hk=>?_,by rw[rH];exact hv.nt,by rw[aC3];exact hv.df,fun q1 q2=>hb.tg (hv.tq q1 q2),fun s hs=>(hb.ρ s (.inl hs)).trans (hv.ρ0 s hs),fun n hn=>(hb.β n (hn0 n hn)).trans (hv.β0 n hn),fun c hc=>(hb.ι c (.inl hc)).trans (hv.ι0 c hc),fun j o' T' z' Mg q1 q2 q3 q4=>hv.un j o' T' z' Mg q1 q2 q3 (fun h9=>q4 (.inl h9)),hv.kl,hv.sub.trans hb.sub,fun h9=>?_, ?_⟩⟩
 .
  rw[eS,eX,eB];exact hb.kn
 .
  rw[eS,eX,eB];refine hv.sl.take h hv.rl ho Ef Ab hr hw Ud hb.sub hb.ρ hb.β hb.ι (fun _ h9=>h9) (fun _ h9=>.inl h9) (fun _ h9=>h9) ?_ ?_
  .
   rw[Ul];exact rfl
  .
   rw[Ul];exact⟨fun s hs=>(by cases hs),fun n hn=>(by simp only[AV.bs,CV.bs,List.mem_singleton]at hn;exact .inr hn),fun s hs=>(by cases hs)⟩
 .
  exact QA90
 .
  exact QA66
 .
  obtain⟨c1,c2⟩:=hv.cf fun j rj q1 q2=>h9 j rj (.inl q1) q2;have kd:∀c,({ f ops.size with bk:=K,tg:=b }:AS).kd c=(f ops.size).kd c:=fun c=>rfl;refine⟨fun c hc=>?_,fun j hj c hc=>?_⟩
  .
   obtain⟨k1,k2⟩:=Ni.k c (.inl hc);obtain⟨o1,o2,o3⟩:=Ni.o c hc;exact Cf.on hv.kn k1 k2 (.inl o1) (.inl o2) (fun x hx=>.inl (o3 x hx)) hb.qt hb.ρ hb.ι (c1 c hc)
  .
   rcases hj with hj|rfl
   .
    obtain⟨k1,k2⟩:=Ni.k c (.inr ⟨j,hv.ls j (hv.rl j hj),hc⟩);obtain⟨o1,o2,o3⟩:=hv.nc j hj c hc;exact Cf.on hv.kn k1 k2 o1 o2 o3 hb.qt hb.ρ hb.ι (c2 j hj c hc)
   .
    rw[Ul]at hc;cases hc
 .
  rw[eS,eX];intro j hj c hc;rcases hj with hj|rfl
  .
   exact hv.nc j hj c hc
  .
   rw[Ul]at hc;cases hc
end
end Eg
end
section
theorem A78{p:Prop}(h:p:=by have:=hRs j h1;omega):p:=h
namespace Eg
section
variable {C:Cx} {U:Value->Prop} {G:Cfg} {A:AS} {ops:Array Oper} {ms:List Nat} {I:List Ri} {f:Nat->AS} {g:Nat->Out} {st:Nat->Option Bool} {a0 a:Act} {L R:Nat->Prop} {τ0 τ:Sm} {V0 V:Vl} {K:List Bk} {b:Bool} {w:World} {i:Nat} {o:Oper} {ri:Ri}
theorem aDs {E:AS}{d:Option Nat}{u:Out}:(E.lay d u).bk.length=E.bk.length+u.nb.toList.length:=by
 unfold AS.lay;simp only[zA1];split
 .
  split
  .
   rw[mN]
  .
   rfl
 .
  rfl
theorem vF {α:Type}{y:α}:∀{l:List α} {n m:Nat},m ≠ n->at? (put l n y) m=at? l m
 | [],_,_,_=>rfl| _ :: l,0,0,h=>absurd rfl h| _ :: l,0,m+1,h=>rfl| z :: l,n+1,0,h=>rfl| z :: l,n+1,m+1,h=>by
  simp only[put,at?];exact vF A0
theorem dW.bkLe (h:dW G A ops ms I f g st){k:Nat}:∀{n:Nat},k<=n->n<=ops.size->(f k).bk.length<=(f n).bk.length
 | 0,hk,_=>by rw[show k=0 by omega];exact zB0 _
 | n+1,hk,hn=>by
  rcases Nat.lt_or_eq_of_le hk with h1|h1
  .
   have h2:=h.bkLe (k:=k) (n:=n) A0 A0;obtain⟨o,ho⟩:=mQ (ops:=ops) (k:=n) A0;rw[h.lay ho,aDs];omega
  .
   rw[h1];exact zB0 _
theorem kI {ops:List Oper}{is:List Ri}{gd:Option (Nat × Bool)}:∀{l:List Operand},yU ops ms is i gd l=true->∀x ∈ l,aDf ops ms is i gd none x=true
 | [],_,x,h=>by cases h
 | y :: l,h,x,hx=>by
  simp only[yU,zC0]at h;rcases zG3.1 hx with rfl|hx
  .
   exact h.1
  .
   exact kI h.2 x hx
theorem tW (h:dW G A ops ms I f g st){S B X:Nat->Prop}(hs:Sl A ops g st a0 L R S B X τ V a)(ho:ops[i]?=some o)(hr:∀j,bit ms i j=true->L j)(Ab:∀j,L j->bit ms j i=false){pk:Option (Nat × Bool)}(hw:xW ops a o)(hpk:∀c b,pk=some (c,b)->a.eval (.tmp c)=.bool b){x:Operand}(hk:aDf ops.toList ms (I.take i) i o.guard pk x=true):Opd (f i) S B X τ V a x:=by
 cases x with
 | tmp t=>exact yH h hs ho hr Ab hw hpk hk| const v=>
  obtain⟨q1,q2,q3⟩:=aFi S B X v;exact⟨aFh τ V v,q1,q2,q3⟩
 | _=>exact⟨trivial,fun s h=> A58,fun s h=> A58,fun s h=> A58⟩
theorem Inv.other (h:dW G A ops ms I f g st)(hE:aNd C G)(hU:G.us=true->UsE C U A V0)(Ni:aIt A (f ops.size) g ops.size)(hv:Inv C U G A ops ms I f g st a0 V0 τ0 L R K b τ V a w)(Ht:G.nt<=a0.tmps.size)(ho:ops[i]?=some o)(Ef:¬L i)(hr:∀j,bit ms i j=true->L j)(hw:xW ops a o)(hT:∀T,o.op ≠ .alloc T)(Q:Exit->Act->World->Prop):
  o.wp Tryz.prog a w (fun a' w'=>∃R' K' b' τ' V',Inv C U G A ops ms I f g st a0 V0 τ0 (fun j=>L j\/j=i) R' K' b' τ' V' a' w') Q:=by
 have hi:i<ops.size:=(zI3.1 ho).1;have Ab:∀j,L j->bit ms j i=false:=fun j hj=>by
  exact QA63
 obtain⟨ri,Cu,Bo⟩:=h.step i o ho;have Ud:G.nt<=a.tmps.size:=by rw[hv.nt];exact Ht
 obtain⟨u0,hu,_,hg,hri'⟩:=Bo.yes fun e=>(lU h hv.sl ho hr).2 e hw;have Ik:bP G (f i) o=some u0/\spk A (f i) o (trim (f i) A.sy.length o u0)=true:=by
  unfold aF6 at hu;split at hu
  .
   rename_i T e;exact absurd e (hT T)
  .
   simp only[Option.bind_eq_some_iff]at hu;obtain⟨u1,q1,q2⟩:=hu;split at q2
   .
    rename_i q3;cases q2;exact⟨q1,q3⟩
   .
    cases q2
 obtain⟨Tx,hspk⟩:=Ik;have Tz:ri.nk=false->K=(f i).bk/\b=(f i).tg:=fun h9=>At.ready h hv.at_ hi Cu h9 hr Ef Ab;have hsp:(g i).up.isSome=true\/(g i).nb.isSome=true->K=(f i).bk/\b=(f i).tg:=fun h9=>by
  refine Tz ((jE h.ord Cu).1 ?_);rw[(h.row ho Cu).1];rcases h9 with h9|h9 <;> rw[h9] <;> simp
 have hu2:bP G { f i with bk:=K,tg:=b } o=some u0:=by
  cases hnk:ri.nk with
  | true=>
   rw[hri']at hnk;rw[aDh hnk];exact Tx
  | false=>
   obtain⟨e1,e2⟩:=Tz hnk;rw[e1,e2];exact Tx
 obtain⟨t1,t2,t3,t4,t5,t6⟩:=lC (A:=f i) A.sy.length o u0 (wP (st i));rw[<-hg]at t1 t2 t3 t4 t5 t6;have kn1:Kn C U { ({ f i with bk:=K,tg:=b }:AS) with sy:=(f ops.size).sy } (Sb A f R) (Bb A ops R K) (Xb A f R) τ V w:=hv.kn.like rfl rfl rfl;have kn2:Kn C U { f i with bk:=K,tg:=b } (Sb A f R) (Bb A ops R K) (Xb A f R) τ V w:=kn1.pre fun s x hx=>h.syIn A0 hx;have hRs:∀j,R j->j<ops.size:=fun j hj=>hv.ls j (hv.rl j hj);have hnR:¬R i:=fun h9=>Ef (hv.rl i h9);have hSlt:∀s,Sb A f R s->s<(f ops.size).sy.length:=fun s hs=>by
  rcases hs with hs|⟨j,h1,h2,h3⟩
  .
   have:=h.syLe (k:=0) (n:=ops.size) A0 (zB0 _);rw[h.f0]at this;exact Nat.lt_of_lt_of_le hs this
  .
   have:=h.syLe (k:=j+1) (n:=ops.size) A78 (zB0 _);omega
 have hSyIn:=hv.kn.syIn hSlt;have hC:Ctx C U G { f i with bk:=K,tg:=b } (Sb A f R) (Bb A ops R K) V w:=aP3 (E:=A) hE (fun hg=>(hU hg).on (zB0 _) hv.ρ0) kn2 fun s hs=>.inl hs;have hn:∀q,q<u0.ns.length->¬Sb A f R ((f i).sy.length+q):=fun q hq=>aQi h hRs hi hnR (by rw[t1];exact hq);have hnX:u0.nx=true->¬Xb A f R (f i).ni:=fun hx=>aQe h hRs hi hnR (by rw[t4];exact hx);have Lb:¬Bb A ops R K K.length:=fun h9=>Nat.lt_irrefl _ h9.1;have hcf:u0.cu=true->∀c ∈ A.cf,c.ok V w:=fun Yg=>by
  refine(hv.cf fun m rm hm hrm=>?_).1;cases hq:rm.nq with
  | false=>rfl| true=>
   obtain⟨_,h1⟩:=jE h.ord hrm;rw[zJ0]at h1;have Ae:0+i ≠ m:=fun e=>Ef (by rw[show i=m by omega];exact hm);have h2:=(rL h1 Cu Ae).1 hq (by rw[hri'];exact Yg);rw[zJ0]at h2;rw[Ab m hm]at h2;cases h2
 have Cw:=Bo.look;have Lc:∀x ∈ looks o,Opd (f i) (Sb A f R) (Bb A ops R K) (Xb A f R) τ V a x:=by
  intro x hx;unfold looks at hx;unfold zH at Cw;cases hop:o.op with
  | pick c y z=>
   rw[hop]at hx Cw;simp only[List.mem_singleton]at hx;subst hx;cases x with
   | tmp t=>
    simp only[zC0]at Cw;exact yH h hv.sl ho hr Ab hw (pk:=none) (fun c b e=>by cases e) Cw.1.1
   | _=>
    simp only at Cw;exact tW h hv.sl ho hr Ab hw (pk:=none) (fun c b e=>by cases e) (kI Cw _ A13)
  | _=>
   rw[hop]at hx Cw;exact tW h hv.sl ho hr Ab hw (pk:=none) (fun c b e=>by cases e) (kI Cw x hx)
 have ok:dA C U { f i with bk:=K,tg:=b } o u0 (Sb A f R) (Bb A ops R K) (Xb A f R) τ V a w:=by
  by_cases hp:∃x y z,o.op=.pick x y z
  .
   obtain⟨c,y,z,hp⟩:=hp;have hc:Opd (f i) (Sb A f R) (Bb A ops R K) (Xb A f R) τ V a c:=Lc c (by unfold looks;rw[hp];simp);have Xe:(∀q,a.eval c=.bool q->Opd (f i) (Sb A f R) (Bb A ops R K) (Xb A f R) τ V a (if q then y else z)):=by
    intro q hq;unfold zH at Cw;rw[hp]at Cw;cases c with
    | tmp t=>
     simp only[zC0]at Cw;cases q with
     | true=>exact tW h hv.sl ho hr Ab hw (pk:=some (t,true)) (fun c b e=>by cases e;exact hq) Cw.1.2
     | false=>exact tW h hv.sl ho hr Ab hw (pk:=some (t,false)) (fun c b e=>by cases e;exact hq) Cw.2
    | _=>
     simp only at Cw;exact tW h hv.sl ho hr Ab hw (pk:=none) (fun c b e=>by cases e) (kI Cw _ (by cases q <;> simp[Op.operands]))
   obtain⟨d,op,ty,pos,aft,gd⟩:=o;simp only at hp;subst hp;exact aKx kn2 hc.bk (fun e=>(Xe true e).bk) (fun e=>(Xe false e).bk) hu2
  .
   have hp':∀x y z,o.op ≠ .pick x y z:=fun x y z e=>hp ⟨x,y,z,e⟩;have elk:looks o=o.op.operands.toList:=by
    unfold looks;split
    .
     rename_i c y z e;exact absurd e (hp' c y z)
    .
     rfl
   refine aR0 kn2 hSyIn hC hu2 hp' (fun x hx=>(Lc x (by rw[elk];exact hx)).bk) (fun Yg c hc=>?_) hn hnX Lb;have:c ∈ (f i).cf:=hc;rw[h.cf A0]at this;exact hcf Yg c this
 refine Oper.wp_mono ?_ (ok Q);rintro a' w' ⟨v,τ',V',rfl,Bz⟩;have Bz:=Bz.trim (n:=A.sy.length) (o:=o) (wP (st i));rw[aKc,<-hg]at Bz;have Ws:=At.next h hv.at_ ho Cu hr Ef Ab
 have Ah:(AS.lay { f i with bk:=K,tg:=b } o.dst (g i)).bk.length=K.length+(g i).nb.toList.length:=aDs;have esy:(f (i+1)).sy.length=(f i).sy.length+(g i).ns.length:=by rw[h.sy1 hi];simp
 have Br:∀s,s<A.sy.length->Sb A f (fun j=>R j\/j=i) s:=fun s hs=>.inl hs;have Jz:∀s,Sb A f R s->Sb A f (fun j=>R j\/j=i) s:=fun s hs=>aFn hs fun j h9=>.inl h9;have Vd:∀s,Xb A f R s->Xb A f (fun j=>R j\/j=i) s:=fun s hs=>aFm hs fun j h9=>.inl h9;have Wt:∀n,Bb A ops R K n->Bb A ops (fun j=>R j\/j=i) (AS.lay { f i with bk:=K,tg:=b } o.dst (g i)).bk n:=fun n hn=>⟨by rw[Ah];have:=hn.1;omega,fun j o' T' q1 q2 q3=>.inl (hn.2 j o' T' q1 q2 q3)⟩;have Gv:∀n,n<A.bk.length->Bb A ops R K n:=fun n hn=>⟨Nat.lt_of_lt_of_le hn hv.kl,fun j o' T' q1 q2 q3=>by omega⟩;have Wu:∀n,Bb A ops (fun j=>R j\/j=i) (AS.lay { f i with bk:=K,tg:=b } o.dst (g i)).bk n->Bb A ops R K n\/n=K.length:=fun n hn=>by
  rcases zJ1 n K.length with h9|h9
  .
   refine .inl ⟨h9,fun j o' T' q1 q2 q3=>(hn.2 j o' T' q1 q2 q3).resolve_right fun e=>?_⟩;subst e;rw[ho]at q1;cases q1;exact hT _ q2
  .
   have:=hn.1;rw[Ah]at this;have h8:(g i).nb.toList.length<=1:=by cases (g i).nb <;> simp
   exact .inr A0
 have hnbB:∀n,(f i).bk.length<=n->n<(f i).bk.length+(g i).nb.toList.length->Bb A ops (fun j=>R j\/j=i) (AS.lay { f i with bk:=K,tg:=b } o.dst (g i)).bk n:=fun n h1 h2=>by
  have hsome:(g i).nb.isSome=true:=by
   cases e:(g i).nb with
   | none=>rw[e]at h2;simp at h2;omega| some x=>rfl
  obtain⟨e1,_⟩:=hsp (.inr hsome);refine⟨by rw[Ah,e1];exact h2,fun j o' T' q1 q2 q3=>?_⟩;obtain⟨_,z,ds,hz⟩:=sS h.al (cF q1) q2;have h3:=dB (yR (cF q1) q2 hz);have h4:=h.bkLe (k:=0) (n:=i) A0 A0;rw[h.f0]at h4;simp only[zA1]at h4;omega
 have spo:xX (f i) (g i) (Sb A f (fun j=>R j\/j=i)) (Bb A ops (fun j=>R j\/j=i) (AS.lay { f i with bk:=K,tg:=b } o.dst (g i)).bk) (Xb A f (fun j=>R j\/j=i)):=by
  rw[show xX (f i) (g i)=xX (f i) (noNc (wP (st i)) (trim (f i) A.sy.length o u0)) from congrArg _ hg];obtain⟨p1,p2,p3,p4,p5,p6⟩:=lC (A:=f i) A.sy.length o u0 false;have p0:noNc false (trim (f i) A.sy.length o u0)=trim (f i) A.sy.length o u0:=rfl;rw[p0]at p1 p2 p3 p4 p5 p6;refine(aNn hspk (fun x hx=>?_) Br (fun n hn=>Wt n (Gv n hn)) (fun c hc=>Or.inl hc) (fun s h1 h2=>?_) (fun n h1 h2=>?_) (fun hx=>?_)).noNc _
  .
   obtain⟨_,q2,q3,q4⟩:=Lc x hx;exact⟨fun s hs=>Jz s (q2 s hs),fun s hs=>Wt s (q3 s hs),fun s hs=>Vd s (q4 s hs)⟩
  .
   rw[p1,<-t1]at h2;exact .inr ⟨i,.inr rfl,h1,by omega⟩
  .
   rw[p2,<-t2]at h2;exact hnbB n h1 h2
  .
   refine .inr ⟨i,.inr rfl,zB0 _, ?_⟩;rw[p4,<-t4]at hx;rw[h.ni1 hi,hx];exact Nat.lt_succ_self _
 have hupIn:aQx { f i with bk:=K,tg:=b } (g i):=fun n l e=>by
  obtain⟨e1,e2⟩:=hsp (.inl A76);obtain⟨T,x,h9⟩:=spo.up n l e;exact⟨T,x,by rw[e1];exact h9⟩
 have kn3:=kn1.post (d:=o.dst) Bz hupIn (S':=Sb A f (fun j=>R j\/j=i)) (B':=Bb A ops (fun j=>R j\/j=i) (AS.lay { f i with bk:=K,tg:=b } o.dst (g i)).bk) (X':=Xb A f (fun j=>R j\/j=i))
  (fun q x hq hx=>h.syNew hi hq hx) (fun s hs=>aQj hs esy) Jz Wu Wt Lb Vd (fun q x hq t ht=>spo.ns x (by rw[dM]at hq;exact zA3 hq) t ht) spo.ul spo.nb
 refine⟨fun j=>R j\/j=i,(AS.lay { f i with bk:=K,tg:=b } o.dst (g i)).bk,b && !ri.br,τ',V',⟨?_,Ws, ?_,fun j hj=>hj.imp (hv.rl j) id,fun j hj=>?_,fun j k hj hk=>?_,by rw[rH];exact hv.nt,by rw[aC3];exact hv.df,fun q1 q2=>Bz.tg (by rw[t6];exact aDg (hE.st ▸ q1) Tx) (hv.tq q1 q2),fun s hs=>(Bz.ρ s (.inl hs)).trans (hv.ρ0 s hs),fun n hn=>(Bz.β n (Gv n hn)).trans (hv.β0 n hn),fun c hc=>(Bz.ι c (.inl hc)).trans (hv.ι0 c hc),fun j o' T' z' Mg q1 q2 q3 q4=>?_,by rw[Ah];have:=hv.kl;omega,hv.sub.trans Bz.sub,fun h9=>?_,fun j hj c hc=>?_⟩⟩
 .
  exact kn3.like rfl rfl (by rw[(h.row ho Cu).2.1];rfl)
 .
  exact hv.sl.take h hv.rl ho Ef Ab hr hw Ud Bz.sub Bz.ρ Bz.β Bz.ι Jz Wt Vd Bz.r spo.r
 .
  exact QA90
 .
  exact QA66
 .
  have Wi:¬L j:=fun h9=>q4 (.inl h9);have h1:=hv.un j o' T' z' Mg q1 q2 q3 Wi;cases hup:(g i).up with
  | none=>
   simp only[AS.lay,hup];rw[cL,if_pos (dB h1)];exact h1
  | some p=>
   obtain⟨n,l⟩:=p;obtain⟨T,x,hx⟩:=hupIn n l hup;have Eb:at? K n=some (.cells T x):=hx;have Ae:n ≠ A.bk.length+nAl j ops.toList:=fun e=>by
    rcases (spo.ub n l hup).2 j o' T' q1 q2 e with h9|h9
    .
     exact Wi (hv.rl j h9)
    .
     exact q4 (.inr h9)
   simp only[AS.lay,hup,hx];rw[cL,if_pos (by rw[mN];exact dB h1)];exact(vF (Ne.symm Ae)).trans h1
 .
  obtain⟨c1,c2⟩:=hv.cf fun j rj q1 q2=>h9 j rj (.inl q1) q2;have hq:=Bz.qt (by rw[<-(h.row ho Cu).2.2.1];exact h9 i ri (.inr rfl) Cu);refine⟨fun c hc=>?_,fun j hj c hc=>?_⟩
  .
   obtain⟨k1,k2⟩:=Ni.k c (.inl hc);obtain⟨o1,o2,o3⟩:=Ni.o c hc;exact Cf.on hv.kn k1 k2 (.inl o1) (.inl o2) (fun x hx=>.inl (o3 x hx)) hq Bz.ρ Bz.ι (c1 c hc)
  .
   rcases hj with hj|rfl
   .
    obtain⟨k1,k2⟩:=Ni.k c (.inr ⟨j,hv.ls j (hv.rl j hj),hc⟩);obtain⟨o1,o2,o3⟩:=hv.nc j hj c hc;exact Cf.on hv.kn k1 k2 o1 o2 o3 hq Bz.ρ Bz.ι (c2 j hj c hc)
   .
    exact Bz.nc c hc
 .
  rcases hj with hj|rfl
  .
   obtain⟨o1,o2,o3⟩:=hv.nc j hj c hc;exact⟨Jz _ o1,Jz _ o2,fun x hx=>Vd x (o3 x hx)⟩
  .
   exact spo.nc c hc
end
end Eg
end
end Go.Proofs.YtcbhdhmhidpdgaaGreatDoor

import Derived.Test.YtffphdacgblaoaaGreatDoorEgA
import Derived.Deep.Upon
namespace Go.Proofs.YtffphdacgblaoaaGreatDoor
open Go.RowKit
set_option linter.unusedVariables false
set_option linter.unusedSimpArgs false
theorem Q70{p:Prop}(h:p:=by rw[hsame.2.2.2];exact zB0 _):p:=h
theorem U86{p:Prop}(h:p:=by
 rcases List.mem_append.1 hu with hu|hu
 .
  exact h2 us hu
 .
  rw[List.mem_singleton.1 hu];exact a2):p:=h
namespace Eg
theorem bK (b:Nat):∀(vs:List Value) (o:Nat) (w:World) (k:Nat),k ≠ b->(w.setCells b o vs).heap[k]?=w.heap[k]?
 | [],_,_,_,_=>rfl
 | v :: r,o,w,k,h=>by rw[World.setCells,bK b r (o+1) _ k h,heap_setCell_other w ⟨b,o,none⟩ k v h]
theorem gC (b:Nat):∀(vs:List Value) (o:Nat) (w:World),(w.setCells b o vs).os=w.os/\(w.setCells b o vs).tape=w.tape/\(w.setCells b o vs).output=w.output/\(w.setCells b o vs).heap.size=w.heap.size
 | [],_,_=>⟨rfl,rfl,rfl,rfl⟩
 | v :: r,o,w=>by
  have h:=gC b r (o+1) (w.setCell ⟨b,o,none⟩ v);have h0:=(zD2 0 w).setCell (p:=⟨b,o,none⟩) (zD1 _) v;rw[World.setCells];exact⟨h.1.trans h0.os,h.2.1.trans h0.tape,h.2.2.1.trans h0.output,h.2.2.2.trans Q9⟩
theorem jH (b:Nat)(T:TypeId):∀(vs:List Value) (o:Nat) (w:World) (cs:Array Value),w.heap[b]?=some (.cells cs T (0,0))->∃cs',(w.setCells b o vs).heap[b]?=some (.cells cs' T (0,0))/\cs'.size=cs.size
 | [],_,w,cs,h=>⟨cs,h,rfl⟩
 | v :: r,o,w,cs,h=>by
  have h1:=heap_setCell_same w b o cs T v h;obtain⟨cs',a,c⟩:=jH b T r (o+1) _ _ h1;exact⟨cs',a,c.trans Q9⟩
theorem nU {w:World}{b i:Nat}{cs:Array Value}{T:TypeId}{fl:Nat × Nat}(h:w.heap[b]?=some (.cells cs T fl))(hi:i<cs.size):(w.cell? ⟨b,i,none⟩).isSome=true:=by
 rw[cell_of_row w b i _ _ fl h]
 simp[hi]
structure Cx where
 st:Bool
 K:List Nat
 τ0:Sm
 w0:World
structure Fr (C:Cx) (τ:Sm) (w:World):Prop where
 th:TH τ w
 sub:Sub C.τ0 τ
 os:w.os=C.w0.os
 tape:w.tape=C.w0.tape
 output:w.output=C.w0.output
 size:C.w0.heap.size<=w.heap.size
 non:∀b,b<C.w0.heap.size->C.τ0 b=none->τ b=none
 blk:∀b,b<C.w0.heap.size->C.τ0 b=none->b ∉ C.K->w.heap[b]?=C.w0.heap[b]?
 str:C.st=true->∀b,b<C.w0.heap.size->C.τ0 b ≠ none->τ b=C.τ0 b/\w.heap[b]?=C.w0.heap[b]?
structure Mv (C:Cx) (K:List Nat) (τ:Sm) (w:World) (τ':Sm) (w':World):Prop where
 fr:Fr C τ' w'
 sub:Sub τ τ'
 size:w.heap.size<=w'.heap.size
 non:∀b,b<w.heap.size->τ b=none->τ' b=none
 blk:∀b,b<w.heap.size->τ b=none->b ∉ K->w'.heap[b]?=w.heap[b]?
 tg:Tg τ->Tg τ'
theorem Fr.step {C:Cx}{τ τ':Sm}{w w':World}(h:Fr C τ w)(K:List Nat)(th:TH τ' w')(sub:Sub τ τ')(os:w'.os=w.os)(tape:w'.tape=w.tape)(out:w'.output=w.output)(size:w.heap.size<=w'.heap.size)
  (non:∀b,b<w.heap.size->τ b=none->τ' b=none) (blk:∀b,b<w.heap.size->τ b=none->b ∉ K->w'.heap[b]?=w.heap[b]?)
  (typed:C.st=true->∀b,b<C.w0.heap.size->τ b ≠ none->τ' b=τ b/\w'.heap[b]?=w.heap[b]?) (hK:∀b ∈ K,b<C.w0.heap.size->b ∈ C.K) (tg:Tg τ->Tg τ'):Mv C K τ w τ' w':=
 ⟨⟨th,h.sub.trans sub,os.trans h.os,tape.trans h.tape,out.trans h.output,zF2 h.size size,fun b hb hn=>non b (Nat.lt_of_lt_of_le hb h.size) (h.non b hb hn),
  fun b hb hn hk=>(blk b (Nat.lt_of_lt_of_le hb h.size) (h.non b hb hn) (fun hm=>hk (hK b hm hb))).trans (h.blk b hb hn hk),
  fun hst b hb hn=>by
   obtain⟨e1,e2⟩:=h.str hst b hb hn
   obtain⟨e3,e4⟩:=typed hst b hb (by rw[e1];exact hn)
   exact⟨e3.trans e1,e4.trans e2⟩⟩,sub,size,non,blk,tg⟩
theorem Fr.refl {st:Bool}{K:List Nat}{τ:Sm}{w:World}(h:TH τ w):Fr ⟨st,K,τ,w⟩ τ w:=⟨h,Sub.refl _,rfl,rfl,rfl,zB0 _,fun _ _ h=>h,fun _ _ _ _=>rfl,fun _ _ _ _=>⟨rfl,rfl⟩⟩
theorem Fr.below {C:Cx}{τ:Sm}{w w':World}(h:Fr C τ w)(hb:Below w.heap.size w w'):Mv C [] τ w τ w':=
 h.step [] (h.th.on fun b s e=>hb.block b (h.th.lt e)) (Sub.refl _) hb.os hb.tape hb.output hb.size (fun _ _ h=>h) (fun b Aj _ _=>hb.block b Aj) (fun _ b Aj _=>⟨rfl,hb.block b (Nat.lt_of_lt_of_le Aj h.size)⟩) (fun _ h=>by cases h) (fun h=>h)
theorem Fr.alloc {C:Cx}{τ:Sm}{w:World}(h:Fr C τ w)(o:Obj):Mv C [] τ w τ (w.alloc o):=h.below ((zD2 _ _).alloc (zB0 _) o)
theorem Fr.same {C:Cx}{τ:Sm}{w:World}(h:Fr C τ w):Mv C [] τ w τ w:=h.below (zD2 _ _)
theorem Mv.trans {C:Cx}{K:List Nat}{τ τ' τ2:Sm}{w w' w2:World}(h:Mv C K τ w τ' w')(h':Mv C K τ' w' τ2 w2):Mv C K τ w τ2 w2:=
 ⟨h'.fr,h.sub.trans h'.sub,zF2 h.size h'.size,fun b hb hn=>h'.non b (Nat.lt_of_lt_of_le hb h.size) (h.non b hb hn),
  fun b hb hn hk=>(h'.blk b (Nat.lt_of_lt_of_le hb h.size) (h.non b hb hn) hk).trans (h.blk b hb hn hk),fun ht=>h'.tg (h.tg ht)⟩
theorem Mv.wide {C:Cx}{K:List Nat}{τ τ':Sm}{w w':World}(h:Mv C [] τ w τ' w'):Mv C K τ w τ' w':=⟨h.fr,h.sub,h.size,h.non,fun b hb hn _=>h.blk b hb hn Q9,h.tg⟩
theorem Tg.upd {τ:Sm}{g:Nat}{s:So}(h:Tg τ)(hs:s.q=false):Tg (upd τ g s):=fun b s0 hb=>by
 by_cases e:b=g
 .
  subst e;rw[oB]at hb;cases hb;exact hs
 .
  rw[iH e]at hb;exact h b s0 hb
theorem Fr.row {C:Cx}{τ:Sm}{w:World}(h:Fr C τ w){k:Rs}{xss:List (List Value)}{m:Nat}(hm:xss.length=m)(hx:∀us ∈ xss,EV τ false k us)(hc:m<=1000):
  ∃τ',Mv C [] τ w τ' (w.alloc (.cells xss.flatten.toArray k.ty (0,0)))/\SV τ' k m (.slice (some ⟨w.heap.size,0,none⟩) m m)/\Sub τ τ':=by
 have h1:=h.alloc (.cells xss.flatten.toArray k.ty (0,0))
 have hn:τ w.heap.size=none:=h.th.fresh (zB0 _)
 have hs:=wP (s:=⟨k,false,m,m⟩) hn;have hb:=Blk.new w k.ty xss.flatten
 refine⟨upd τ w.heap.size ⟨k,false,m,m⟩,h.step [] (h.th.upd hs (fun b Aw Aj=>?_) (aLc hb rfl hm (fun us hu=>(hx us hu).sub hs) Q17)) hs rfl rfl rfl h1.size (fun b Aj hbn=>(iH Q0).trans hbn) (fun b Aj hbn _=>h1.blk b Aj hbn Q9) (fun _ b Aj hbn=>?_) (fun _ h=>by cases h) (fun ht=>ht.upd rfl), ?_,hs⟩
 .
  exact(((zD2 w.heap.size w).alloc (zB0 _) _).block b Aj)
 .
  have:=h.size
  exact⟨iH Q0,((zD2 w.heap.size w).alloc (zB0 _) _).block b Q0⟩
 .
  exact .inr ⟨_,0,m,_,by rw[Nat.zero_mul],oB _ _ _,rfl,by simp,zB0 _,by simp⟩
theorem Fr.app {C:Cx}{τ:Sm}{w:World}(hF:Fr C τ w){k:Rs}{n m:Nat}{v x:Value}(h:SV τ k n v)(hx:SV τ k m x)(hTg:Tg τ\/k.same)(hk:k ≠ .bt\/∀a n' c',v=.slice a n' c'->c'=0)(hown:C.st=true->∀g,v.ownBlock=some g->C.w0.heap.size<=g)
  {t ty bytes:Nat} {z:Value} (info:(Tryz.prog.info? k.ty).map (fun i=>(i.zero,i.size,i.bytes))=some (some z,k.k,bytes)) (ht:Tryz.prog.underlying t=some (.slice k.ty)) (hzs:z.cells.size=k.k) (hby:bytes<=1000) (hmk:n+m<=1000):
  ∃v' τ' w',(Builtin.append_ #[t,t] ty #[v,x]).run Tryz.prog w=.ok v' w'/\Mv C [] τ w τ' w'/\SV τ' k (n+m) v'/\(∀g,v'.ownBlock=some g->v.ownBlock=some g\/w.heap.size<=g)/\∀b,b<w.heap.size->some b ≠ v.ownBlock->w'.heap[b]?=w.heap[b]?:=by
 obtain⟨i0,hi,hz0,hz1,hz2⟩:=info_parts info;have hT:=hF.th;have hk0:=k.k0
 rcases zG0 m with rfl|hm0
 .
  obtain⟨av,cv,rfl,hle,_⟩:=h.sh hT
  have hs:Src Tryz.prog i0.size t x 0 [] w:=by
   obtain⟨ax,cx,rfl,_⟩:=hx.sh hT
   cases ax with
   | none=>exact Src.ofNil w ht cx
   | some ax=>exact Src.ofSlice w ht ax 0 cx [] Q9 Q9 Q9
  exact⟨_,τ,w,run_append_nothing w t t ty k.ty i0 ht hi av n cv hle x hs,hF.same,h,fun g hg=>.inl hg,fun _ _ _=>rfl⟩
 obtain⟨bx,jx,cx,sx,rfl,_,_,hsx,_,_,_,hel0⟩:=hx.get hT hm0
 have hel:∀i,i<m->∃vs,EV τ false k vs/\∀z u,vs[z]?=some u->w.cell? ⟨bx,(jx+i)*k.k+z,none⟩=some u:=fun i hi=>by
  obtain⟨vs,h1,h2⟩:=hel0 i hi;refine⟨vs, ?_,h2⟩
  rcases hTg with hq|hq
  .
   rw[hq bx sx hsx]at h1;exact h1
  .
   exact h1.tight hq
 obtain⟨xss,hm,hxe,hxc⟩:∃xss:List (List Value),xss.length=m/\(∀us ∈ xss,EV τ false k us)/\∀i u,xss.flatten[i]?=some u->w.cell? ⟨bx,jx*k.k+i,none⟩=some u:=by
  have key:∀q,q<=m->∃xss:List (List Value),xss.length=q/\(∀us ∈ xss,EV τ false k us)/\∀i u,xss.flatten[i]?=some u->w.cell? ⟨bx,jx*k.k+i,none⟩=some u:=by
   intro q
   induction q with
   | zero=>intro _;exact⟨[],rfl,(fun _ h=>by cases h),(fun i v h=>by simp at h)⟩
   | succ q ih=>
    intro hq;obtain⟨xss,h1,h2,h3⟩:=ih Q0;obtain⟨vs,a2,a3⟩:=hel q Q0
    refine⟨xss++[vs],by simp[h1],fun us hu=>?_,fun i u hv=>?_⟩
    .
     exact U86
    .
     have hl:=lJ xss fun us hu=>(h2 us hu).length
     rw[List.flatten_append]at hv
     by_cases hi:i<xss.flatten.length
     .
      rw[List.getElem?_append_left hi]at hv;exact h3 i u hv
     .
      rw[List.getElem?_append_right Q0]at hv
      have:=a3 (i-xss.flatten.length) u (by simpa using hv)
      rw[h1]at hl
      have e:jx*k.k+i=(jx+q)*k.k+(i-xss.flatten.length):=by rw[Nat.add_mul];omega
      rw[e];exact this
  exact key m (zB0 _)
 have Ak:=lJ xss fun us hu=>(hxe us hu).length
 rw[hm]at Ak
 have hone:∀u ∈ xss.flatten,u.oneCell'=true:=fun u hu=>by
  obtain⟨us,h1,h2⟩:=List.mem_flatten.1 hu;exact(hxe us h1).one u h2
 have hnews:∀j u,xss.flatten[j]?=some u->w.cell? ((⟨bx,jx*k.k,none⟩:Addr).add j)=some u:=fun j u hu=>by rw[Addr.add_lit];exact hxc j u hu
 have hbytes:(n+m)*bytes<=140737488355328:=by
  have:(n+m)*bytes<=1000*1000:=Nat.mul_le_mul hmk hby
  omega
 have h63:n+m<=maxLen:=by unfold maxLen;omega
 have grown:∀(v':Value) (w':World) (yss:List (List Value)),yss.length=n->(∀us ∈ yss,EV τ false k us)->w'.ownsRow w.heap.size k.ty k.k v' (n+m) (yss.flatten++xss.flatten)->w.grownBy w' none →
   ∃τ',Mv C [] τ w τ' w'/\SV τ' k (n+m) v'/\(∀g,v'.ownBlock=some g->v.ownBlock=some g\/w.heap.size<=g)/\∀b,b<w.heap.size->some b ≠ v.ownBlock->w'.heap[b]?=w.heap[b]?:=by
  intro v' w' yss hy1 hy2 ho hg
  rcases ho.2 with⟨_,h0⟩|⟨g,cap,cur,rfl,hb,hgh,hc1,hc2,hc3,hc4⟩
  .
   omega
  .
   have hn:τ g=none:=hT.fresh hb
   have hs:=wP (s:=⟨k,false,n+m,cap⟩) hn;have Am:=hF.size
   refine⟨upd τ g ⟨k,false,n+m,cap⟩,hF.step [] (hT.upd hs (fun b hb' Aj=>hg.block b Aj Q9) ⟨⟨cur,(0,0),hgh,fun _=>rfl,hc3⟩,hc1,hc2,fun i hi'=>?_⟩) hs hg.os hg.tape hg.output hg.size (fun b Aj hbn=>(iH Q0).trans hbn) (fun b Aj _ _=>hg.block b Aj Q9) (fun _ b Aj _=>⟨iH Q0,hg.block b Q0 Q9⟩) (fun _ h=>by cases h) (fun ht=>ht.upd rfl),.inr ⟨g,0,cap,_,by rw[Nat.zero_mul],oB _ _ _,rfl,by simp,hc1,by simp⟩,(fun g' hg'=>by cases hg';exact .inr hb),fun b Aj _=>hg.block b Aj Q9⟩
   have hi2:i<(yss++xss).length:=by rw[zA1,hy1,hm];exact hi'
   have Ah:∀us ∈ yss++xss,EV τ false k us:=fun us hu=>by
    rcases List.mem_append.1 hu with hu|hu
    .
     exact hy2 us hu
    .
     exact hxe us hu
   refine⟨(yss++xss)[i],(Ah _ (List.getElem_mem hi2)).length,(Ah _ (List.getElem_mem hi2)).sub hs,fun j u hu=>?_⟩
   have e:=oZ (yss++xss) i _ j u (fun us hu=>(Ah us hu).length) (zA0 hi2) hu
   rw[List.flatten_append,<-hc4,List.getElem?_take]at e;rw[cell_of_row w' g _ _ _ (0,0) hgh]
   split at e
   .
    simpa using e
   .
    cases e
 rcases h with⟨rfl,rfl⟩|⟨b,j,cv,s,rfl,hb,h1,h3,h4,h5⟩
 .
  obtain⟨v',w',hr,a1,a2,a3⟩:=run_append_own (P:=Tryz.prog) w w.heap.size t ty k.ty i0 z k.k bytes ht hi hz0 hz1 hz2 hzs hk0 (.slice none 0 0) 0 [] (World.ownsRow_nil w _ k.ty k.k) ⟨bx,jx*k.k,none⟩ m cx xss.flatten Ak hnews hone Q0 Q0 (zB0 _)
  obtain⟨τ',b1,b2,b3⟩:=grown v' w' [] rfl (fun _ h=>by cases h) (by simpa using a1) (by simpa [Value.ownBlock] using a2)
  exact⟨v',τ',w',hr,b1,b2,b3⟩
 .
  subst h1;have hR:=hT b s hb;obtain⟨cs,fl,hbl,hfl,Am⟩:=hR.blk;have hsize:=hF.size
  by_cases hroom:n+m<=cv
  .
   obtain rfl:=hfl (hk.resolve_right (fun hc=>by have:=hc _ _ _ rfl;omega))
   have Aj:∀i,i<xss.flatten.length->j*s.k.k+n*s.k.k+i<cs.size:=fun i hi'=>by
    rw[Am]
    have:(j+(n+m))*s.k.k<=s.c*s.k.k:=Nat.mul_le_mul_right _ Q0
    rw[Ak]at hi';rw[Nat.add_mul,Nat.add_mul]at this
    omega
   have hr:=run_append_room_cells (P:=Tryz.prog) w t ty s.k.ty i0 ht hi b (j*s.k.k) n cv ⟨bx,jx*s.k.k,none⟩ m cx xss.flatten (by rw[hz1];exact Ak) hnews hone hroom (fun i hi'=>by rw[hz1];exact nU hbl (Aj i hi')) (fun i hi'=>frozen_of_row w b _ _ _ hbl)
   rw[hz1]at hr
   have hin:=World.cell?_setCells_in b xss.flatten (j*s.k.k+n*s.k.k) w (fun i hi'=>nU hbl (Aj i hi'))
   have hs:=aHk (u:=max s.u (j+(n+m))) hb (Nat.le_max_left _ _);have hsame:=gC b xss.flatten (j*s.k.k+n*s.k.k) w;obtain⟨cs',hb',hsz'⟩:=jH b s.k.ty xss.flatten (j*s.k.k+n*s.k.k) w cs hbl
   have Aw:∀g,τ g=none->g ≠ b:=by rintro g hg rfl;rw[hb]at hg;cases hg
   refine⟨_,upd τ b { s with u:=max s.u (j+(n+m)) },_,hr,hF.step [] (hT.upd hs (fun k' hk' hlt'=>bK b _ _ w k' hk') ⟨⟨cs',(0,0),hb',fun _=>rfl,hsz'.trans Am⟩, ?_,hR.c,fun i hi'=>?_⟩) hs hsame.1 hsame.2.1 hsame.2.2.1 Q70 (fun g Aj hgn=>(iH (Aw g hgn)).trans hgn) (fun g Aj hgn _=>bK b _ _ w g (Aw g hgn)) (fun hst g Aj _=>?_) (fun _ h=>by cases h) (fun ht=>ht.upd (ht b s hb)),.inr ⟨b,j,cv,_,rfl,oB _ _ _,rfl,Nat.le_max_right _ _,hroom,h5⟩,(fun g hg=>.inl hg),fun g Aj hne9=>bK b _ _ w g (fun e=>hne9 (by rw[e];rfl))⟩
   .
    exact Nat.max_le.2 ⟨hR.u,zF2 (Nat.add_le_add_left hroom j) h5⟩
   .
    change i<max s.u (j+(n+m)) at hi'
    by_cases hnew:j+n<=i/\i<j+(n+m)
    .
     have hi2:i-(j+n)<xss.length:=Q0;have hmem:=List.getElem_mem hi2
     refine⟨xss[i-(j+n)],(hxe _ hmem).length,((hxe _ hmem).sub hs).loose,fun q u hu=>?_⟩
     have e:=oZ xss (i-(j+n)) _ q u (fun us hu=>(hxe us hu).length) (zA0 hi2) hu
     obtain⟨hq,e2⟩:=zC1.1 e
     have:=hin _ hq
     rw[e2]at this
     have hh:i*s.k.k=(j+n)*s.k.k+(i-(j+n))*s.k.k:=by rw[<-Nat.add_mul,Nat.add_sub_cancel' hnew.1]
     have h9:j*s.k.k+n*s.k.k+((i-(j+n))*s.k.k+q)=i*s.k.k+q:=by rw[hh,Nat.add_mul];omega
     rw[h9]at this;exact this
    .
     have hold:i<s.u:=by
      rcases zJ3 i s.u with h|h
      .
       exact h
      .
       exfalso
       rcases zJ3 i (j+(n+m)) with h'|h'
       .
        exact hnew ⟨by omega,h'⟩
       .
        have:=Nat.max_le.2 ⟨h,h'⟩;omega
     obtain⟨vs,v1,v2,v3⟩:=hR.el i hold
     refine⟨vs,v1,v2.sub hs,fun q u hu=>?_⟩
     have hq:=(zC1.1 hu).1
     show(w.setCells b (j*s.k.k+n*s.k.k) xss.flatten).cell? ⟨b,i*s.k.k+q,none⟩=some u
     rw[World.cell?_setCells_out b _ _ w _ (fun _ _=>?_)]
     .
      exact v3 q u hu
     .
      show i*s.k.k+q<j*s.k.k+n*s.k.k\/j*s.k.k+n*s.k.k+xss.flatten.length<=i*s.k.k+q
      rw[Ak,<-Nat.add_mul,<-Nat.add_mul]
      rcases zJ3 i (j+n) with h'|h'
      .
       left
       have:(i+1)*s.k.k<=(j+n)*s.k.k:=Nat.mul_le_mul_right _ Q0
       rw[Nat.add_mul]at this
       omega
      .
       right
       have:(j+n+m)*s.k.k<=i*s.k.k:=Nat.mul_le_mul_right _ Q0
       omega
   .
    have hgb:g ≠ b:=by rintro rfl;have:=hown hst g rfl;omega
    exact⟨iH hgb,bK b _ _ w g hgb⟩
  .
   rcases zG0 n with rfl|hn0
   .
    obtain⟨v',w',hr,a1,a2⟩:=run_append_arg_grows (P:=Tryz.prog) w t ty s.k.ty i0 z s.k.k bytes ht hi hz0 hz1 hz2 hzs hk0 ⟨b,j*s.k.k,none⟩ 0 cv [] Q9 (fun i u hu=>by simp at hu) ⟨bx,jx*s.k.k,none⟩ m cx xss.flatten Ak hnews Q0 h63 hbytes
    obtain⟨τ',b1,b2,b3⟩:=grown v' w' [] rfl (fun _ h=>by cases h) (by simpa using a1) a2
    exact⟨v',τ',w',hr,b1,b2,b3⟩
   .
    obtain⟨_,_,_,_,e9,_,_,_,_,_,_,hel2⟩:=SV.get (n:=n) hT (.inr ⟨b,j,cv,s,rfl,hb,rfl,h3,h4,h5⟩) hn0;have hj9:j*s.k.k=j*s.k.k:=rfl
    obtain⟨yss,y1,y2,y3⟩:∃yss:List (List Value),yss.length=n/\(∀us ∈ yss,EV τ false s.k us)/\∀i u,yss.flatten[i]?=some u->w.cell? ⟨b,j*s.k.k+i,none⟩=some u:=by
     have key:∀q,q<=n->∃yss:List (List Value),yss.length=q/\(∀us ∈ yss,EV τ false s.k us)/\∀i u,yss.flatten[i]?=some u->w.cell? ⟨b,j*s.k.k+i,none⟩=some u:=by
      intro q
      induction q with
      | zero=>intro _;exact⟨[],rfl,(fun _ h=>by cases h),(fun i v h=>by simp at h)⟩
      | succ q ih=>
       intro hq;obtain⟨yss,h1,h2,h3'⟩:=ih Q0;obtain⟨vs,a1,a20,a3⟩:=hR.el (j+q) Q0
       have a2:EV τ false s.k vs:=by
        rcases hTg with hq|hq
        .
         rw[hq b s hb]at a20;exact a20
        .
         exact a20.tight hq
       refine⟨yss++[vs],by simp[h1],fun us hu=>?_,fun i u hv=>?_⟩
       .
        exact U86
       .
        have hl:=lJ yss fun us hu=>(h2 us hu).length
        rw[List.flatten_append]at hv
        by_cases hi:i<yss.flatten.length
        .
         rw[List.getElem?_append_left hi]at hv;exact h3' i u hv
        .
         rw[List.getElem?_append_right Q0]at hv
         have:=a3 (i-yss.flatten.length) u (by simpa using hv)
         rw[h1]at hl
         have e:j*s.k.k+i=(j+q)*s.k.k+(i-yss.flatten.length):=by rw[Nat.add_mul];omega
         rw[e];exact this
     exact key n (zB0 _)
    have hyl:=lJ yss fun us hu=>(y2 us hu).length
    rw[y1]at hyl
    obtain⟨v',w',hr,a1,a2⟩:=run_append_arg_grows (P:=Tryz.prog) w t ty s.k.ty i0 z s.k.k bytes ht hi hz0 hz1 hz2 hzs hk0 ⟨b,j*s.k.k,none⟩ n cv yss.flatten hyl (fun i u hu=>by rw[Addr.add_lit];exact y3 i u hu) ⟨bx,jx*s.k.k,none⟩ m cx xss.flatten Ak hnews Q0 h63 hbytes
    obtain⟨τ',b1,b2,b3⟩:=grown v' w' yss y1 y2 a1 a2;exact⟨v',τ',w',hr,b1,b2,b3⟩
end Eg
theorem Q28{p:Prop}(h:p:=by rw[List.flatMap_cons];exact List.mem_append_right _ hm):p:=h
theorem Q30{p:Prop}(h:p:=by rw[List.flatMap_cons];exact List.mem_append_left _ hm):p:=h
theorem Q50{p:Prop}(h:p:=by simp[CV.sy]):p:=h
namespace Eg
structure Ct where
 s:Nat
 k:Nat
 gt:Bool
 deriving DecidableEq
inductive Ix where
 | u|k (n:Nat)|v (c:Nat)
 deriving DecidableEq
inductive CV where
 | top
 | und
 | int (lo hi:Int)
 | len (s k:Nat)
 | idx (s k:Nat)
 | byte
 | tv (b:Bool)
 | bl (t f:List Ct)
 | str
 | sl (s:Nat)
 | nil
 | ptr (b o:Nat)
 | elp (s:Nat) (k:Rs) (ix:Ix) (o:Nat)
 deriving DecidableEq
inductive AV where
 | c (x:CV)
 | rc (t:Nat)
 | agg (l:List CV)
 | tup (t:Nat) (x:CV)
 deriving DecidableEq
structure SF where
 k:Rs
 lo:Nat
 hi:Nat
 own:Bool
 un:Bool:=false
 c0:Bool:=false
 abv:Option Nat:=none
 deriving DecidableEq
inductive Bk where
 | cur
 | cells (T:TypeId) (l:List CV)
 deriving DecidableEq
def ln:Value->Nat
 | .slice _ n _=>n
 | _=>0
structure Vl where
 ρ:Nat->Value
 β:Nat->Nat
 ι:Nat->Nat
def Ct.ok (V:Vl)(c:Ct):Prop:=if c.gt then c.k<ln (V.ρ c.s) else ln (V.ρ c.s)<=c.k
def Ix.ok (V:Vl)(i:Nat):Ix->Prop
 | .u=>True
 | .k n=>i=n
 | .v c=>i=V.ι c
def CV.ok (V:Vl):CV->Value->Prop
 | .top,_=>True
 | .und,v=>v=undef
 | .int lo hi,v=>∃x,v=.int .i64 x/\lo<=x/\x<=hi
 | .len s k,v=>v=.int .i64 ((ln (V.ρ s):Int)-k)
 | .idx s k,v=>∃x:Nat,v=.int .i64 x/\x+k<ln (V.ρ s)
 | .byte,v=>∃x,v=.int .u8 x/\0<=x/\x<=255
 | .tv b,v=>v=.bool b
 | .bl t f,v=>∃b,v=.bool b/\(b=true->∀c ∈ t,c.ok V)/\(b=false->∀c ∈ f,c.ok V)
 | .str,v=>∃s,v=.string s/\s.size<=4
 | .sl s,v=>v=V.ρ s
 | .nil,v=>v=.slice none 0 0
 | .ptr b o,v=>v=.pointer (some ⟨V.β b,o,none⟩)
 | .elp s k ix o,v=>∃b j n c i,V.ρ s=.slice (some ⟨b,j*k.k,none⟩) n c/\i<n/\v=.pointer (some ⟨b,(j+i)*k.k+o,none⟩)/\ix.ok V i
def iD (V:Vl):List CV->List Value->Prop
 | [],vs=>vs=[]
 | x :: l,vs=>∃v us,vs=v :: us/\x.ok V v/\iD V l us
def AV.ok (τ:Sm)(V:Vl):AV->Value->Prop
 | .c x,v=>x.ok V v
 | .rc t,v=>∃vs,v=.agg vs.toArray/\RV τ (Dt t).2 vs
 | .agg l,v=>∃vs,v=.agg vs.toArray/\iD V l vs
 | .tup t x,v=>∃vs u,v=.tuple #[.agg vs.toArray,u]/\RV τ (Dt t).2 vs/\x.ok V u
def SF.ok (C:Cx)(U:Value->Prop)(τ:Sm)(V:Vl)(f:SF)(v:Value):Prop:=
 SV τ f.k (ln v) v/\f.lo<=ln v/\ln v<=f.hi/\(f.own=true->C.st=true->∀g,v.ownBlock=some g->C.w0.heap.size<=g)/\(f.un=true->U v)/\(f.c0=true->∀a n c,v=.slice a n c->c=0)/\(∀s,f.abv=some s->ln (V.ρ s)<ln v)
def Bk.ok (V:Vl)(w:World)(g:Nat):Bk->Prop
 | .cur=>Cur w g
 | .cells T l=>∃vs,Blk w g T vs/\iD V l vs
structure Cf where
 s:Nat
 k:Rs
 ix:Ix
 p:Nat
 r:Nat
def Cf.ok (V:Vl)(w:World)(c:Cf):Prop:=∀b j n q i,V.ρ c.s=.slice (some ⟨b,j*c.k.k,none⟩) n q->i<n->c.ix.ok V i->c.ix ≠ .u->w.cell? ⟨b,(j+i)*c.k.k+c.p,none⟩=some (V.ρ c.r)
def Ct.sy (c:Ct):Nat:=c.s
def CV.sy:CV->List Nat
 | .len s _=>[s]
 | .idx s _=>[s]
 | .bl t f=>t.map Ct.s++f.map Ct.s
 | .sl s=>[s]
 | .elp s _ _ _=>[s]
 | _=>[]
def Ix.is:Ix->List Nat
 | .v c=>[c]
 | _=>[]
def CV.is:CV->List Nat
 | .elp _ _ ix _=>ix.is
 | _=>[]
def CV.bs:CV->List Nat
 | .ptr b _=>[b]
 | _=>[]
def AV.sy:AV->List Nat
 | .c x=>x.sy
 | .rc _=>[]
 | .agg l=>l.flatMap CV.sy
 | .tup _ x=>x.sy
def AV.bs:AV->List Nat
 | .c x=>x.bs
 | .rc _=>[]
 | .agg l=>l.flatMap CV.bs
 | .tup _ x=>x.bs
def AV.is:AV->List Nat
 | .c x=>x.is
 | .rc _=>[]
 | .agg l=>l.flatMap CV.is
 | .tup _ x=>x.is
def Bk.sy:Bk->List Nat
 | .cur=>[]
 | .cells _ l=>l.flatMap CV.sy
def Bk.bs:Bk->List Nat
 | .cur=>[]
 | .cells _ l=>l.flatMap CV.bs
def Bk.is:Bk->List Nat
 | .cur=>[]
 | .cells _ l=>l.flatMap CV.is
def SF.sy (f:SF):List Nat:=f.abv.toList
def Cf.sy (c:Cf):List Nat:=[c.s,c.r]
theorem Ct.on {V V':Vl}{c:Ct}(h:c.ok V)(hs:V'.ρ c.s=V.ρ c.s):c.ok V':=by
 unfold Ct.ok at *;rw[hs];exact h
theorem Ix.on {V V':Vl}{i:Nat}{x:Ix}(h:x.ok V i)(hs:∀c ∈ x.is,V'.ι c=V.ι c):x.ok V' i:=by
 cases x with
 | v c=>simp only[Ix.ok]at h ⊢;rw[hs c (by simp[Ix.is])];exact h
 | _=>exact h
theorem CV.on {V V':Vl}{x:CV}{v:Value}(h:x.ok V v)(hs:∀s ∈ x.sy,V'.ρ s=V.ρ s)(hb:∀b ∈ x.bs,V'.β b=V.β b)(hi:∀c ∈ x.is,V'.ι c=V.ι c):x.ok V' v:=by
 cases x with
 | len s k=>simp only[CV.ok]at h ⊢;rw[hs s Q50];exact h
 | idx s k=>simp only[CV.ok]at h ⊢;rw[hs s Q50];exact h
 | bl t f=>
  obtain⟨b,e,h1,h2⟩:=h
  exact⟨b,e,fun hb c hc=>Ct.on (h1 hb c hc) (hs _ (List.mem_append_left _ (List.mem_map_of_mem hc))),fun hb c hc=>Ct.on (h2 hb c hc) (hs _ (List.mem_append_right _ (List.mem_map_of_mem hc)))⟩
 | sl s=>simp only[CV.ok]at h ⊢;rw[hs s Q50];exact h
 | ptr b o=>simp only[CV.ok]at h ⊢;rw[hb b (by simp[CV.bs])];exact h
 | elp s k ix o=>
  obtain⟨b,j,n,c,i,h1,h2,h3,h4⟩:=h;exact⟨b,j,n,c,i,(hs s Q50).trans h1,h2,h3,Ix.on h4 hi⟩
 | _=>exact h
theorem iD.on {V V':Vl}:∀{l:List CV} {vs:List Value},iD V l vs->(∀s ∈ l.flatMap CV.sy,V'.ρ s=V.ρ s)->(∀b ∈ l.flatMap CV.bs,V'.β b=V.β b)->(∀c ∈ l.flatMap CV.is,V'.ι c=V.ι c)->iD V' l vs
 | [],_,h,_,_,_=>h
 | x :: l,_,⟨v,us,e,h1,h2⟩,hs,hb,hi=>⟨v,us,e,CV.on h1 (fun s hm=>hs s Q30) (fun b hm=>hb b Q30) (fun c hm=>hi c Q30),
  iD.on h2 (fun s hm=>hs s Q28) (fun b hm=>hb b Q28) (fun c hm=>hi c Q28)⟩
theorem AV.on {τ τ':Sm}{V V':Vl}{x:AV}{v:Value}(h:x.ok τ V v)(ht:Sub τ τ')(hs:∀s ∈ x.sy,V'.ρ s=V.ρ s)(hb:∀b ∈ x.bs,V'.β b=V.β b)(hi:∀c ∈ x.is,V'.ι c=V.ι c):x.ok τ' V' v:=by
 cases x with
 | c x=>exact CV.on h hs hb hi
 | rc t=>obtain⟨vs,e,h1⟩:=h;exact⟨vs,e,h1.sub ht⟩
 | agg l=>obtain⟨vs,e,h1⟩:=h;exact⟨vs,e,iD.on h1 hs hb hi⟩
 | tup t x=>obtain⟨vs,u,e,h1,h2⟩:=h;exact⟨vs,u,e,h1.sub ht,CV.on h2 hs hb hi⟩
theorem SF.on {C:Cx}{U:Value->Prop}{τ τ':Sm}{V V':Vl}{f:SF}{v:Value}(h:f.ok C U τ V v)(ht:Sub τ τ')(hs:∀s ∈ f.sy,V'.ρ s=V.ρ s):f.ok C U τ' V' v:=by
 obtain⟨h1,h2,h3,h4,h5,h6,h9⟩:=h
 refine⟨h1.sub ht,h2,h3,h4,h5,h6,fun s e=>?_⟩
 rw[hs s (by unfold SF.sy;rw[e];simp)]
 exact h9 s e
theorem Bk.on {V V':Vl}{w:World}{g:Nat}{x:Bk}(h:x.ok V w g)(hs:∀s ∈ x.sy,V'.ρ s=V.ρ s)(hb:∀b ∈ x.bs,V'.β b=V.β b)(hi:∀c ∈ x.is,V'.ι c=V.ι c):x.ok V' w g:=by
 cases x with
 | cur=>exact h
 | cells T l=>obtain⟨vs,e,h1⟩:=h;exact⟨vs,e,iD.on h1 hs hb hi⟩
theorem iD.get {V:Vl}:∀{l:List CV} {vs:List Value},iD V l vs->∀{i:Nat} {x:CV},l[i]?=some x->∃v,vs[i]?=some v/\x.ok V v
 | [],_,_,i,x,h=>by simp at h
 | _ :: _,_,⟨v,us,e,h1,h2⟩,i,x,h=>by
  subst e
  cases i with
  | zero=>simp only[List.getElem?_cons_zero,zG2]at h;subst h;exact⟨v,rfl,h1⟩
  | succ i=>rw[List.getElem?_cons_succ]at h ⊢;exact iD.get h2 h
theorem iD.length {V:Vl}:∀{l:List CV} {vs:List Value},iD V l vs->vs.length=l.length
 | [],_,h=>by rw[show _=[] from h];rfl
 | _ :: _,_,⟨v,us,e,h1,h2⟩=>by rw[e,zB1,zB1,iD.length h2]
theorem iD.set {V:Vl}:∀{l:List CV} {vs:List Value},iD V l vs->∀(i:Nat) {x:CV} {v:Value},x.ok V v->iD V (l.set i x) (vs.set i v)
 | [],_,h,i,x,v,_=>by rw[show _=[] from h];exact rfl
 | _ :: _,_,⟨v,us,e,h1,h2⟩,i,x,u,hu=>by
  subst e
  cases i with
  | zero=>exact⟨u,us,rfl,hu,h2⟩
  | succ i=>exact⟨v,_,rfl,h1,iD.set h2 i hu⟩
theorem Cur.on {w w':World}{g:Nat}(h:Cur w g)(he:∀b,b<=g->w'.heap[b]?=w.heap[b]?):Cur w' g:=by
 obtain⟨a,n,c,l,i,h,hb,hi0,hi1,hn,hl,hby,hc⟩:=h
 refine⟨a,n,c,l,i,h,(he g (zB0 _)).trans hb,hi0,hi1,hn,hl,hby,fun hp=>?_⟩
 obtain⟨b,off,e,hbg,hcc⟩:=hc hp
 exact⟨b,off,e,hbg,fun j hj=>(World.cell?_of_block (he b Q0)).trans (hcc j hj)⟩
end Eg
theorem U111{p:Prop}(h:p:=by
 intro n
 induction n with
 | zero=>intro _;exact⟨[],rfl,(fun _ h=>by cases h),(fun h=>by omega)⟩
 | succ n ih=>
  intro h
  obtain⟨l,h1,h2,h3⟩:=ih fun i hi=>h i Q0
  obtain⟨x,hx,hx0,hx1⟩:=h n Q0
  refine⟨l++[x],by simp[h1],fun y hy=>?_,fun _=>⟨b,o,rfl,fun i hi=>?_⟩⟩
  .
   rcases List.mem_append.1 hy with hy|hy
   .
    exact h2 y hy
   .
    rw[List.mem_singleton.1 hy];exact⟨hx0,hx1⟩
  .
   by_cases hin:i<n
   .
    obtain⟨b',o',e,hc⟩:=h3 Q0
    cases e
    rw[hc i hin,List.getElem?_append_left Q0]
   .
    have:i=n:=Q0
    subst this
    rw[hx,List.getElem?_append_right Q0,h1]
    simp):p:=h
theorem U112{p:Prop}(h:p:=by
 rcases hk with hk|rfl
 .
  rw[hk]at r4;exact r4
 .
  have:l4=[]:=by simpa using n4
  subst this
  obtain⟨a,c,q1,q2,q3,q4,_⟩:=r4
  exact⟨a,c,q1,q2,q3,q4,(fun h=>by cases h)⟩):p:=h
theorem U114{p:Prop}(h:p:=by
 exact⟨[],⟨a,c,rfl,⟨rfl,(fun _ h=>by cases h),(fun h=>by cases h)⟩,h1,h2,h3⟩,by simp⟩):p:=h
namespace Eg
theorem aTm {α:Type}(f:α->List Fl):∀(rs:List (List Fl)),(∀r ∈ rs,∃x:α,r=f x)->∃l:List α,rs=l.map f
 | [],_=>⟨[],rfl⟩
 | r :: rs,h=>by
  obtain⟨x,hx⟩:=h r Q9
  obtain⟨l,hl⟩:=aTm f rs fun r hr=>h r (by simp[hr])
  exact⟨x :: l,by rw[hx,hl];rfl⟩
theorem aUz {w:World}{b o:Nat}:∀(n:Nat),(∀i,i<n->∃x,w.cell? ⟨b,o+i,none⟩=some (.int .u8 x)/\0<=x/\x<=255)->∃l:List Int,eG w (some ⟨b,o,none⟩) n l:=by
 exact U111
theorem aVs {w:World}{b o:Nat}:∀(n:Nat),(∀i,i<n->∃x,w.cell? ⟨b,o+i,none⟩=some (.int .i64 x)/\-9223372036854775808<=x/\x<=9223372036854775807)->∃l:List Int,aG6 w (some ⟨b,o,none⟩) n l:=by
 exact U111
theorem aU0 {w:World}{b:Nat}:∀{r:List Fl} {vs:List Value} {off:Nat},cC w r vs->(∀i v,vs[i]?=some v->w.cell? ⟨b,off+i,none⟩=some v)->lR w b off r
 | [],_,_,_,_=>trivial
 | f :: r,vs,off,h,hc=>by
  obtain⟨v,us,rfl,h1,h2⟩:=h
  refine⟨⟨v,hc 0 v rfl,h1⟩,aU0 h2 (fun i u hu=>?_)⟩
  have:=hc (i+1) u (by simpa using hu)
  rwa [show off+(i+1)=off+1+i by omega]at this
theorem rdRows_snoc {w:World}{b k:Nat}:∀{rs:List (List Fl)} {off:Nat} {r:List Fl},eT w b k off rs->lR w b (off+rs.length*k) r->eT w b k off (rs++[r])
 | [],off,r,_,h=>⟨by simpa using h,trivial⟩
 | x :: rs,off,r,h,h'=>⟨h.1,rdRows_snoc h.2 (by rw[zB1,Nat.add_mul]at h';rwa [show off+k+rs.length*k=off+(rs.length*k+1*k) by omega])⟩
theorem aU4 {w:World}{b o k W:Nat}{F:List Fl->Prop}:∀(n:Nat),(∀i,i<n->∃r,F r/\aL r<=W/\lR w b (o+i*k) r)->∃rs,rs.length=n/\(∀r ∈ rs,F r)/\aH rs<=n*W/\eT w b k o rs:=by
 intro n
 induction n with
 | zero=>intro _;exact⟨[],rfl,(fun _ h=>by cases h),by simp[aH],trivial⟩
 | succ n ih=>
  intro h
  obtain⟨rs,h1,h2,h3,h4⟩:=ih fun i hi=>h i Q0
  obtain⟨r,r1,r2,r3⟩:=h n Q0
  refine⟨rs++[r],by simp[h1],fun y hy=>?_, ?_,rdRows_snoc h4 (by rw[h1];exact r3)⟩
  .
   rcases List.mem_append.1 hy with hy|hy
   .
    exact h2 y hy
   .
    rw[List.mem_singleton.1 hy];exact r1
  .
   rw[qU];simp only[aH];rw[Nat.add_mul]
   omega
theorem aVv {w:World}{a:Option Addr}{n:Nat}{l m:List Int}(h:eG w a n l)(h':eG w a n m):l=m:=by
 refine List.ext_getElem? fun i=>?_
 by_cases hi:i<n
 .
  obtain⟨b,o,e,hc⟩:=h.2.2 Q0;obtain⟨b',o',e',hc'⟩:=h'.2.2 Q0;rw[e]at e'
  cases e'
  have:=(hc i hi).symm.trans (hc' i hi)
  simp only[zG2,Value.int.injEq,true_and]at this;have l1:=h.1;have l2:=h'.1;rw[zA0 Q0,zA0 Q0]at this ⊢
  simpa using this
 .
  rw[List.getElem?_eq_none (by have:=h.1;omega),List.getElem?_eq_none (by have:=h'.1;omega)]
section
variable {τ:Sm} {w:World}
def RdT (τ:Sm)(w:World)(t W:Nat)(F:List Fl->Prop):Prop:=∀us,RV τ (Lt t) us->∃r,F r/\cC w r us/\aL r<=W
theorem aUb {m:Nat}{v:Value}(hT:TH τ w)(h:FV τ (.b m) v):∃l:List Int,(Fl.b l).Rd w v/\l.length<=m:=by
 obtain⟨n,hn,h⟩:=h;obtain⟨a,c,rfl,h1,h2,h3⟩:=h.sh hT
 rcases zG0 n with rfl|h0
 .
  exact U114
 .
  obtain⟨b,j,c',s,e,_,_,_,_,_,_,hg⟩:=h.get hT h0;simp only[Value.slice.injEq,true_and]at e;obtain⟨rfl,rfl⟩:=e
  obtain⟨l,hl⟩:=aUz (w:=w) (b:=b) (o:=j*Rs.bt.k) n fun i hi=>by
   obtain⟨vs,⟨x,rfl,hx⟩,l3⟩:=hg i hi;refine⟨x, ?_,hx⟩;have h9:=l3 0 _ rfl
   rw[show(j+i)*Rs.bt.k+0=j*Rs.bt.k+i by simp only[Rs.k];omega]at h9
   exact h9
  have e:=hl.1;subst e;exact⟨l,⟨_,_,rfl,hl,h1,h2,h3⟩,hn⟩
theorem aWt {m:Nat}{v:Value}(hT:TH τ w)(h:FV τ (.i m) v):∃l:List Int,(Fl.i l).Rd w v/\l.length<=m:=by
 obtain⟨n,hn,h⟩:=h;obtain⟨a,c,rfl,h1,h2,h3⟩:=h.sh hT
 rcases zG0 n with rfl|h0
 .
  exact U114
 .
  obtain⟨b,j,c',s,e,_,_,_,_,_,_,hg⟩:=h.get hT h0;simp only[Value.slice.injEq,true_and]at e;obtain⟨rfl,rfl⟩:=e
  obtain⟨l,hl⟩:=aVs (w:=w) (b:=b) (o:=j*Rs.ii.k) n fun i hi=>by
   obtain⟨vs,⟨x,rfl,hx⟩,l3⟩:=hg i hi;refine⟨x, ?_,hx⟩;have h9:=l3 0 _ rfl
   rw[show(j+i)*Rs.ii.k+0=j*Rs.ii.k+i by simp only[Rs.k];omega]at h9
   exact h9
  have e:=hl.1;subst e;exact⟨l,⟨_,_,rfl,hl,h1,h2,h3⟩,hn⟩
theorem aWr {t n W:Nat}{v:Value}{F:List Fl->Prop}(hT:TH τ w)(h:SV τ (.rc t) n v)(ih:0<n->RdT τ w t W F):∃rs,(∀r ∈ rs,F r)/\(Fl.l (Dt t).2.length rs).Rd w v/\rs.length=n/\aH rs<=n*W:=by
 obtain⟨a,c,rfl,h1,h2,h3⟩:=h.sh hT
 rcases zG0 n with rfl|h0
 .
  exact⟨[],(fun _ h=>by cases h),⟨a,c,rfl,h1,h2,h3,(fun h=>by cases h)⟩,rfl,by simp[aH]⟩
 .
  obtain⟨b,j,c',s,e,_,_,_,_,_,_,hg⟩:=h.get hT h0;simp only[Value.slice.injEq,true_and]at e;obtain⟨rfl,rfl⟩:=e;have ih:=ih h0
  obtain⟨rs,r1,r2,r3,r4⟩:=aU4 (w:=w) (b:=b) (o:=j*(Dt t).2.length) (k:=(Dt t).2.length) (W:=W) (F:=F) n fun i hi=>by
   obtain⟨vs,l2,l3⟩:=hg i hi
   have hR:RV τ (Lt t) vs:=by
    have l2:RV τ (if s.q then Lt t else (Dt t).2) vs:=l2
    split at l2
    .
     exact l2
    .
     exact RV.loose l2
   obtain⟨r,q1,q2,q3⟩:=ih vs hR
   refine⟨r,q1,q3,aU0 q2 fun z u hu=>?_⟩
   have h9:=l3 z u hu
   rw[show(j+i)*(Rs.rc t).k+z=j*(Dt t).2.length+i*(Dt t).2.length+z by rw[Nat.add_mul];rfl]at h9
   exact h9
  exact⟨rs,r2,⟨_,_,by rw[r1],by omega,h2,h3,fun _=>⟨b,_,rfl,r4⟩⟩,r1,r3⟩
theorem aUk {t lo m W:Nat}{v:Value}{F:List Fl->Prop}(hT:TH τ w)(h:FV τ (.l t lo m) v)(ih:0<m->RdT τ w t W F):∃rs,(∀r ∈ rs,F r)/\(Fl.l (Dt t).2.length rs).Rd w v/\rs.length<=m/\aH rs<=rs.length*W:=by
 obtain⟨n,⟨_,hn⟩,h⟩:=h
 obtain⟨rs,h1,h2,rfl,h4⟩:=aWr hT h (fun h0=>ih Q0)
 exact⟨rs,h1,h2,hn,h4⟩
def nmF (r:List Fl):Prop:=∃x,r=[.b x]
def vaF (r:List Fl):Prop:=∃x:Va,r=x.fl
def paF (r:List Fl):Prop:=∃x:Pa,r=x.fl
def fpF (r:List Fl):Prop:=∃x:Fp,r=x.fl
def faF (r:List Fl):Prop:=∃x:Fa,r=x.fl
def exF (r:List Fl):Prop:=∃x:Ex,r=x.fl
def stF (r:List Fl):Prop:=∃x:St,r=x.fl
def prF (r:List Fl):Prop:=∃x:Pr,r=x.fl
theorem rd0 (hT:TH τ w):RdT τ w 0 4 nmF:=by
 rintro us ⟨v0,_,rfl,h0,rfl⟩;obtain⟨l,r0,n0⟩:=aUb hT h0
 exact⟨_,⟨l,rfl⟩,⟨_,_,rfl,r0,rfl⟩,by simp[aL,Fl.len];omega⟩
theorem rd1 (hT:TH τ w):RdT τ w 1 4 vaF:=by
 rintro us ⟨v0,_,rfl,h0,v1,_,rfl,⟨y,rfl,_⟩,rfl⟩;obtain⟨l,r0,n0⟩:=aUb hT h0
 exact⟨_,⟨⟨l,y⟩,rfl⟩,⟨_,_,rfl,r0,_,_,rfl,rfl,rfl⟩,by simp[Va.fl,aL,Fl.len];omega⟩
theorem rd2 (hT:TH τ w):RdT τ w 2 4 paF:=by
 rintro us ⟨v0,_,rfl,h0,v1,_,rfl,⟨y,rfl⟩,rfl⟩;obtain⟨l,r0,n0⟩:=aUb hT h0
 exact⟨_,⟨⟨l,y⟩,rfl⟩,⟨_,_,rfl,r0,_,_,rfl,rfl,rfl⟩,by simp[Pa.fl,aL,Fl.len];omega⟩
theorem rd3 (hT:TH τ w):RdT τ w 3 7 fpF:=by
 rintro us ⟨v0,_,rfl,h0,v1,_,rfl,h1,rfl⟩;obtain⟨l,r0,n0⟩:=aUb hT h0;obtain⟨m,r1,n1⟩:=aWt hT h1
 exact⟨_,⟨⟨l,m⟩,rfl⟩,⟨_,_,rfl,r0,_,_,rfl,r1,rfl⟩,by simp[Fp.fl,aL,Fl.len];omega⟩
theorem rd4 (hT:TH τ w):RdT τ w 4 28 faF:=by
 rintro us ⟨v0,_,rfl,h0,v1,_,rfl,h1,rfl⟩;obtain⟨l,r0,n0⟩:=aUb hT h0
 obtain⟨rs,f1,r1,n1,m1⟩:=aUk hT h1 fun _=>rd3 hT
 obtain⟨ps,rfl⟩:=aTm Fp.fl rs f1;refine⟨_,⟨⟨l,ps⟩,rfl⟩,⟨_,_,rfl,r0,_,_,rfl,r1,rfl⟩, ?_⟩;simp only[Fa.fl,aL,Fl.len]
 omega
theorem rdE {t m W:Nat}(hT:TH τ w)(hk:(Dt t).2.length=5\/m=0)(ih:0<m->RdT τ w t W exF){us:List Value}(h:RV τ [.n,.n,.b 4,.b 4,.l t 0 m] us):∃r,exF r/\cC w r us/\aL r<=8+m*(1+W):=by
 obtain⟨v0,_,rfl,⟨k,rfl,_⟩,v1,_,rfl,⟨x,rfl,_⟩,v2,_,rfl,h2,v3,_,rfl,h3,v4,_,rfl,h4,rfl⟩:=h;obtain⟨l2,r2,n2⟩:=aUb hT h2;obtain⟨l3,r3,n3⟩:=aUb hT h3;obtain⟨rs,f4,r4,n4,m4⟩:=aUk hT h4 ih;obtain⟨l4,rfl⟩:=aTm Ex.fl rs f4
 have e4:(Fl.l 5 (l4.map Ex.fl)).Rd w v4:=by
  exact U112
 refine⟨_,⟨.mk k x l2 l3 l4,rfl⟩,⟨_,_,rfl,rfl,_,_,rfl,rfl,_,_,rfl,r2,_,_,rfl,r3,_,_,rfl,by rw[aQ];exact e4,rfl⟩, ?_⟩
 simp only[Ex.fl,aL,Fl.len,aQ]
 have h9:(l4.map Ex.fl).length*W<=m*W:=Nat.mul_le_mul_right _ n4
 rw[Nat.mul_add]
 omega
theorem rd5 (hT:TH τ w):RdT τ w 5 8 exF:=fun us h=>by
 obtain⟨r,h1,h2,h3⟩:=rdE (t:=0) (m:=0) (W:=0) hT (.inr rfl) (fun h=>by omega) h
 exact⟨r,h1,h2,by omega⟩
theorem rd6 (hT:TH τ w):RdT τ w 6 35 exF:=fun us h=>by
 obtain⟨r,h1,h2,h3⟩:=rdE (t:=5) (m:=3) hT (.inl rfl) (fun _=>rd5 hT) h
 exact⟨r,h1,h2,by omega⟩
theorem rd7 (hT:TH τ w):RdT τ w 7 116 exF:=fun us h=>by
 obtain⟨r,h1,h2,h3⟩:=rdE (t:=6) (m:=3) hT (.inl rfl) (fun _=>rd6 hT) h
 exact⟨r,h1,h2,by omega⟩
theorem rd8 (hT:TH τ w):RdT τ w 8 359 exF:=fun us h=>by
 obtain⟨r,h1,h2,h3⟩:=rdE (t:=7) (m:=3) hT (.inl rfl) (fun _=>rd7 hT) h
 exact⟨r,h1,h2,by omega⟩
theorem rdS {q t t' m m' W W':Nat}(hT:TH τ w)(hk:(Dt t).2.length=6\/m=0)(hk':(Dt t').2.length=6\/m'=0)(ih:0<m->RdT τ w t W stF)(ih':0<m'->RdT τ w t' W' stF){us:List Value}(h:RV τ [.n,.n,.b 4,.l 8 0 q,.l t 0 m,.l t' 0 m'] us):∃r,stF r/\cC w r us/\aL r<=4+q*360+m*(1+W)+m'*(1+W'):=by
 obtain⟨v0,_,rfl,⟨k,rfl,_⟩,v1,_,rfl,⟨x,rfl,_⟩,v2,_,rfl,h2,v3,_,rfl,h3,v4,_,rfl,h4,v5,_,rfl,h5,rfl⟩:=h;obtain⟨l2,r2,n2⟩:=aUb hT h2
 obtain⟨s3,f3,r3,n3,m3⟩:=aUk hT h3 fun _=>rd8 hT
 obtain⟨l3,rfl⟩:=aTm Ex.fl s3 f3
 have fix:∀{t m W:Nat} {v:Value},(Dt t).2.length=6\/m=0->FV τ (.l t 0 m) v->(0<m->RdT τ w t W stF)->∃l:List St,(Fl.l 6 (l.map St.fl)).Rd w v/\(l.map St.fl).length+aH (l.map St.fl)<=m*(1+W):=fun {t m W v} hk h ih=>by
  obtain⟨rs,f4,r4,n4,m4⟩:=aUk hT h ih;obtain⟨l4,rfl⟩:=aTm St.fl rs f4;refine⟨l4, ?_, ?_⟩
  .
   exact U112
  .
   have h9:(l4.map St.fl).length*W<=m*W:=Nat.mul_le_mul_right _ n4
   rw[Nat.mul_add]
   omega
 obtain⟨l4,r4,n4⟩:=fix hk h4 ih;obtain⟨l5,r5,n5⟩:=fix hk' h5 ih'
 refine⟨_,⟨.mk k x l2 l3 l4 l5,rfl⟩,⟨_,_,rfl,rfl,_,_,rfl,rfl,_,_,rfl,r2,_,_,rfl,by rw[aQ];exact r3,_,_,rfl,by rw[bL];exact r4,_,_,rfl,by rw[bL];exact r5,rfl⟩, ?_⟩
 simp only[St.fl,aL,Fl.len,aQ,bL]
 have h8:(l3.map Ex.fl).length*360<=q*360:=Nat.mul_le_mul_right _ n3
 omega
theorem rd9 (hT:TH τ w):RdT τ w 9 724 stF:=fun us h=>by
 obtain⟨r,h1,h2,h3⟩:=rdS (q:=2) (t:=0) (t':=0) (m:=0) (m':=0) (W:=0) (W':=0) hT (.inr rfl) (.inr rfl) (fun h=>by omega) (fun h=>by omega) h
 exact⟨r,h1,h2,by omega⟩
theorem aWs (hT:TH τ w):RdT τ w 10 3624 stF:=fun us h=>by
 obtain⟨r,h1,h2,h3⟩:=rdS (q:=2) (t:=9) (t':=9) (m:=3) (m':=1) hT (.inl rfl) (.inl rfl) (fun _=>rd9 hT) (fun _=>rd9 hT) h
 exact⟨r,h1,h2,by omega⟩
theorem aWv (hT:TH τ w):RdT τ w 14 22834 stF:=fun us h=>by
 obtain⟨r,h1,h2,h3⟩:=rdS (q:=3) (t:=10) (t':=10) (m:=4) (m':=2) hT (.inl rfl) (.inl rfl) (fun _=>aWs hT) (fun _=>aWs hT) h
 exact⟨r,h1,h2,by omega⟩
theorem aWu (hT:TH τ w):RdT τ w 15 251224 prF:=by
 rintro us ⟨v0,_,rfl,h0,v1,_,rfl,⟨y,rfl⟩,v2,_,rfl,h2,v3,_,rfl,h3,v4,_,rfl,h4,rfl⟩;obtain⟨l0,r0,n0⟩:=aUb hT h0
 obtain⟨s2,f2,r2,n2,m2⟩:=aUk hT h2 fun _=>rd2 hT
 obtain⟨s3,f3,r3,n3,m3⟩:=aUk hT h3 fun _=>rd0 hT
 obtain⟨s4,f4,r4,n4,m4⟩:=aUk hT h4 fun _=>aWv hT
 obtain⟨l2,rfl⟩:=aTm Pa.fl s2 f2
 obtain⟨l3,rfl⟩:=aTm (fun x=>[Fl.b x]) s3 f3
 obtain⟨l4,rfl⟩:=aTm St.fl s4 f4
 refine⟨_,⟨⟨l0,y,l2,l3,l4⟩,rfl⟩,⟨_,_,rfl,r0,_,_,rfl,rfl,_,_,rfl,r2,_,_,rfl,r3,_,_,rfl,by rw[bL];exact r4,rfl⟩, ?_⟩
 simp only[Pr.fl,aL,Fl.len,dC,bL]
 omega
theorem rd16 (hT:TH τ w){us:List Value}(h:RV τ (Dt 16).2 us):∃m:Mo,cC w m.fl us/\aL m.fl<=1000000:=by
 obtain⟨v0,_,rfl,h0,v1,_,rfl,h1,v2,_,rfl,h2,v3,_,rfl,h3,rfl⟩:=h;obtain⟨l0,r0,n0⟩:=aUb hT h0
 obtain⟨s1,f1,r1,n1,m1⟩:=aUk hT h1 fun _=>rd0 hT
 obtain⟨s2,f2,r2,n2,m2⟩:=aUk hT h2 fun _=>rd1 hT
 obtain⟨s3,f3,r3,n3,m3⟩:=aUk hT h3 fun _=>aWu hT
 obtain⟨l1,rfl⟩:=aTm (fun x=>[Fl.b x]) s1 f1
 obtain⟨l2,rfl⟩:=aTm Va.fl s2 f2;obtain⟨l3,rfl⟩:=aTm Pr.fl s3 f3;refine⟨⟨l0,l1,l2,l3⟩,⟨_,_,rfl,r0,_,_,rfl,r1,_,_,rfl,r2,_,_,rfl,r3,rfl⟩, ?_⟩;simp only[Mo.fl,aL,Fl.len,dC]
 omega
theorem rdFas (hT:TH τ w){lo hi:Nat}{v:Value}(h:SV τ (.rc 4) (ln v) v)(hh:lo<=ln v/\ln v<=hi):∃fs:List Fa,fs.length=ln v/\(Fl.l 2 (fs.map Fa.fl)).Rd w v/\aH (fs.map Fa.fl)<=fs.length*28:=by
 obtain⟨rs,h1,h2,h3,h4⟩:=aWr hT h fun _=>rd4 hT
 obtain⟨fs,rfl⟩:=aTm Fa.fl rs h1;rw[zB2]at h3
 exact⟨fs,h3,h2,by rw[h3];exact h4⟩
end
end Eg
end Go.Proofs.YtffphdacgblaoaaGreatDoor

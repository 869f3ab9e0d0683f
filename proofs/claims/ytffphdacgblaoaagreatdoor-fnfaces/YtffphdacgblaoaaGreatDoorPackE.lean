import Derived.Test.YtffphdacgblaoaaGreatDoorPackA
import Derived.Laws.AppendOwnNone
import Derived.Deep.RegionHeld3
namespace Go.Proofs.YtffphdacgblaoaaGreatDoor
open Go.RowKit
theorem Q6{p:Prop}(h:p:=by decide):p:=h
theorem Q17{p:Prop}(h:p:=by unfold maxLen;omega):p:=h
theorem U31{p:Prop}(h:p:=by
 intro j u hu
 have hp:0<(l2.map (Value.int .u8)).length:=Nat.lt_of_le_of_lt (zD1 j) (zC1.1 hu).1
 obtain⟨ad',e,hc⟩:=hr.pos hp
 cases e
 exact hc j u hu):p:=h
theorem jG {w:World}{ops:Array Oper}{rest:List Oper}{o:Oper}{a:Act}{Q:Exit->Act->World->Prop}(hgd:o.guard=none)(s x:Operand)
  (ho:o.op=.call { callee:=.builtin .append,args:=#[s,x],argTypes:=#[22,22] })
  (base:Nat) (v:Value) (n:Nat) (l:List Int) (hs:a.eval s=v) (hown:Own w base v n l)
  (ao:Option Addr) (m c:Nat) (l2:List Int) (hx:a.eval x=.slice ao m c) (hr:eG w ao m l2) (hnil:ao=none->c=0)
  (Am:n+m<=1099511627776) (hbase:base<=w.heap.size)
  (h:∀v' w',Own w' base v' (n+m) (l++l2)->w.grownBy w' v.ownBlock->wpList Tryz.prog ops Q rest (a.put o.dst v') w'):wpList Tryz.prog ops Q (o :: rest) a w:=by
 obtain⟨i0,hi,hz0,hz1,hz2⟩:=info_parts aCv
 have hby:∀x ∈ l++l2,0<=x/\x<=255:=fun x hx=>(List.mem_append.1 hx).elim (hown.2 x) (hr.2.1 x)
 cases ao with
 | none=>
  obtain rfl:=hnil rfl
  have hm:m=0:=by
   rcases zG0 m with h0|hp
   .
    exact h0
   .
    obtain⟨b,off,e,_⟩:=hr.2.2 hp;cases e
  subst hm
  obtain rfl:l2=[]:=zE0 hr.1
  refine wpList_append_own_none hgd s x 22 ho base 5 i0 1 Tryz.underlying22 hi v n _ hs hown.1 hx ?_
  exact h v w (by simpa using hown) (World.grownBy.refl _ _)
 | some ad=>
  refine wpList_append_own w hgd s x 22 ho base 5 i0 (.int .u8 0) 1 1 Tryz.underlying22 hi hz0 hz1 hz2 rfl Q6 v n _ hs hown.1 ad m c (l2.map (Value.int .u8)) hx (by simp[hr.1]) ?_ (ints_oneCell _ _) Q17 Q0 hbase ?_
  .
   exact U31
  .
   intro v' w' ho' hg' _
   exact h v' w' ⟨by simpa using ho',hby⟩ hg'
theorem sQ (w:World)(x:Int)(h0:0<=x)(h1:x<=255):eG (w.alloc (.cells #[.int .u8 x] 5)) (some ⟨w.heap.size,0,none⟩) 1 [x]:=by
 refine⟨rfl,by simp;omega,fun _=>⟨w.heap.size,0,rfl,fun i hi=>?_⟩⟩
 obtain rfl:i=0:=Q0
 simp
theorem aEo (w:World):Own (w.alloc (.cells #[] 5)) w.heap.size (.slice (some ⟨w.heap.size,0,none⟩) 0 0) 0 []:=
 ⟨World.ownsRow_made w #[] 0 (zB0 _) Q17 rfl,by simp⟩
theorem yF (w:World):Below w.heap.size w (w.alloc (.cells #[] 5)):=(zD2 _ _).alloc (zB0 _) _
theorem Own.alloc {w:World}{base:Nat}{v:Value}{n:Nat}{l:List Int}(h:Own w base v n l)(o:Obj):Own (w.alloc o) base v n l:=⟨h.1.alloc o,h.2⟩
theorem Own.grown {w w' wx:World}{base:Nat}{v:Value}{n:Nat}{l:List Int}(h:Own w base v n l)(hg:w.grownBy w' v.ownBlock)(hb:Below base wx w)(hB:base<=w.heap.size):Below base wx w':=
 hb.grown hg hB (fun k hk=>(h.1.lt k hk).1)
theorem zK1:type_of% @wp_region_held_drew:=@wp_region_held_drew
theorem zK2:type_of% @wpAnyH_done:=@wpAnyH_done
theorem nrm:(∀(a:Act) (v:Value),a.put none v=a)/\(∀(a:Act) (d:Nat) (v:Value),a.put (some d) v={ a with tmps:=a.tmps.setIfInBounds d v })/\(∀(l:List Oper) (i:Nat) (h:i<l.toArray.size),l.toArray[i]'h=l[i]'(by simpa using h))/\(∀(x:Oper) (l:List Oper) (h:0<(x :: l).length),(x :: l)[0]'h=x)/\(∀(x:Oper) (l:List Oper) (i:Nat) (h:i+1<(x :: l).length),(x :: l)[i+1]'h=l[i]'(by simpa using h))/\(∀(l:List Value) (i:Nat) (v:Value),l.toArray.setIfInBounds i v=(l.set i v).toArray)/\(∀(x:Value) (l:List Value) (v:Value),(x :: l).set 0 v=v :: l)/\(∀(x:Value) (l:List Value) (i:Nat) (v:Value),(x :: l).set (i+1) v=x :: l.set i v):=
 ⟨fun _ _=>rfl,fun _ _ _=>rfl,fun _ _ _=>by simp,fun _ _ _=>rfl,fun _ _ _ _=>rfl,fun _ _ _=>by simp,fun _ _ _=>rfl,fun _ _ _ _=>rfl⟩
theorem ll:(∀a b:List Int,(a++b).length=a.length+b.length)/\(∀(x:Int) (l:List Int),(x :: l).length=l.length+1)/\([]:List Int).length=0:=⟨fun _ _=>zA1,fun _ _=>rfl,rfl⟩
theorem tk {P:Program}{md:Region.Mode}{ops:Array Oper}{Q:Exit->Act->World->Prop}{S:World->Prop}{i:Nat}{oi:Oper}{v:Value}{fuel:Nat}{Ad:Array Bool}{a:Act}{w:World}(hi:ops[i]?=some oi)
  (hk:(Region.noSelect ops && Region.free md ops Ad i && (Region.ready md ops Ad).contains i)=true)
  (hy:YieldsIf P ops S oi v a) (hS:S w) (hQ:∀c a w,Q (.panic c) (a.put oi.dst v) w->Q (.panic c) a w)
  (h:wpAnyH P md ops Q S fuel (Ad.setIfInBounds i true) (a.put oi.dst v) w):wpAnyH P md ops Q S (fuel+1) Ad a w:=by
 simp only[zC0]at hk;exact wpAnyH_take hi hk.1.1 hk.1.2 hk.2 hQ hy hS h
theorem skq {P:Program}{md:Region.Mode}{ops:Array Oper}{Q:Exit->Act->World->Prop}{S:World->Prop}{i:Nat}{oi:Oper}{fuel:Nat}{Ad:Array Bool}{a:Act}{w:World}(hi:ops[i]?=some oi)
  (hk:(Region.noSelect ops && Region.free md ops Ad i && (Region.ready md ops Ad).contains i)=true)
  (hn:Region.wanted oi (yielded ops a.tmps)=false) (hS:S w) (hQ:∀c a w,Q (.panic c) (a.put oi.dst undef) w->Q (.panic c) a w)
  (h:wpAnyH P md ops Q S fuel (Ad.setIfInBounds i true) (a.put oi.dst undef) w):wpAnyH P md ops Q S (fuel+1) Ad a w:=tk hi hk (.inr ⟨hn,rfl⟩) hS hQ h
theorem ta {P:Program}{md:Region.Mode}{ops:Array Oper}{Q:Exit->Act->World->Prop}{S:World->Prop}(i:Nat){oi:Oper}{v:Value}{fuel:Nat}{Ad:Array Bool}{a:Act}{w:World}
  (h:wpAnyH P md ops Q S fuel (Ad.setIfInBounds i true) (a.put oi.dst v) w) (hS:S w:=by exact Aa) (hi:ops[i]?=some oi:=by rfl)
  (hk:(Region.noSelect ops && Region.free md ops Ad i && (Region.ready md ops Ad).contains i)=true:=by kernel_rfl)
  (hy:YieldsIf P ops S oi v a:=by exact .inl ⟨by rfl,by intro w hSw;(try dsimp only at hSw);go_simp;first|done|rfl⟩) (hQ:∀c a w,Q (.panic c) (a.put oi.dst v) w->Q (.panic c) a w:=by exact fun _ _ _ h=>h):
  wpAnyH P md ops Q S (fuel+1) Ad a w:=tk hi hk hy hS hQ h
theorem sa {P:Program}{md:Region.Mode}{ops:Array Oper}{Q:Exit->Act->World->Prop}{S:World->Prop}(i:Nat){oi:Oper}{fuel:Nat}{Ad:Array Bool}{a:Act}{w:World}
  (h:wpAnyH P md ops Q S fuel (Ad.setIfInBounds i true) (a.put oi.dst undef) w) (hS:S w:=by exact Aa) (hi:ops[i]?=some oi:=by rfl)
  (hk:(Region.noSelect ops && Region.free md ops Ad i && (Region.ready md ops Ad).contains i)=true:=by kernel_rfl)
  (hn:Region.wanted oi (yielded ops a.tmps)=false:=by rfl) (hQ:∀c a w,Q (.panic c) (a.put oi.dst undef) w->Q (.panic c) a w:=by exact fun _ _ _ h=>h):
  wpAnyH P md ops Q S (fuel+1) Ad a w:=skq hi hk hn hS hQ h
theorem ra {P:Program}{md:Region.Mode}{ops:Array Oper}{Q:Exit->Act->World->Prop}{S:World->Prop}(i:Nat){o:Oper}{fuel:Nat}{Ad:Array Bool}{a:Act}{w:World}
  (h:∀K:Act->World->Prop,Shut (∀a w,S w->(S w->wpAnyH P md ops Q S fuel (Ad.setIfInBounds i true) a w)->K a w)->if Region.wanted o (yielded ops a.tmps)=true then Oper.wp P o a w K Q else K (a.put o.dst undef) w)
  (ho:ops[i]?=some o:=by rfl) (hr:Region.ready md ops Ad=[i]:=by kernel_rfl):wpAnyH P md ops Q S (fuel+1) Ad a w:=
 wpAnyH_ready hr Q9 (AllReadyH.cons ho h AllReadyH.nil)
section
variable {P:Program} {ops:Array Oper} {Q:Exit->Act->World->Prop} {md:Region.Mode} {S:World->Prop} {L:Nat}
def iO (P:Program)(md:Region.Mode)(ops:Array Oper)(Q:Exit->Act->World->Prop)(S:World->Prop)(L:Nat):Nat->Array Bool->Act->World->Prop
 | 0,Ad,a,w=>Region.ready md ops Ad=[]/\Q .normal a w
 | fuel+1,Ad,a,w=>(Region.ready md ops Ad=[]->Q .normal a w)/\∀i ∈ Region.ready md ops Ad,wpOp P ops Q i (fun a' w'=>(i=L\/S w')/\iO P md ops Q S L fuel (Ad.setIfInBounds i true) a' w') a w
theorem rA:∀(fuel:Nat) (Ad:Array Bool)(a:Act)(w:World),iO P md ops Q S L fuel Ad a w->wpAny P md ops Q fuel Ad a w
 | 0,_,_,_,h=>h
 | fuel+1,_,_,_,h=>⟨h.1,fun i hi=>wpOp_mono (fun a' w' h'=>rA fuel _ a' w' h'.2) (h.2 i hi)⟩
def aG9 (md:Region.Mode)(ops:Array Oper)(L i:Nat):Bool:=match ops[L]? with
 | none=>false
 | some o=>o.after.any fun e=>Region.binds md e && e.on == i
theorem tW {i:Nat}{oi:Oper}{v:Value}(hi:ops[i]?=some oi)(hsel:∀(j:Nat) (o:Oper) cs b,ops[j]?=some o->o.op ≠ .select cs b)(hL:aG9 md ops L i=true)
  (hQ:∀c a w,Q (.panic c) (a.put oi.dst v) w->Q (.panic c) a w):
  ∀(fuel:Nat) (Ad:Array Bool) (a:Act) (w:World),
   (∀j oj,ops[j]?=some oj->j ≠ i->Ad.getD j true=false->(∀e ∈ oj.after,Region.binds md e=true->e.on ≠ i)->oi.apart ops oj=true) →
   i ∈ Region.ready md ops Ad->YieldsIf P ops S oi v a->S w →
   iO P md ops Q S L fuel (Ad.setIfInBounds i true) (a.put oi.dst v) w->iO P md ops Q S L (fuel+1) Ad a w:=by
 intro fuel
 induction fuel with
 | zero=>
  intro Ad a w _ hr hy hS H
  refine⟨fun h=>(by rw[h]at hr;cases hr),fun j hj=>?_⟩
  by_cases hji:j=i
  .
   subst hji;exact hy.wpOp hi hS ⟨.inr hS,H⟩
  .
   have:=ready_mono hj hji
   rw[H.1]at this;cases this
 | succ fuel ih=>
  intro Ad a w hfree hr hy hS H
  refine⟨fun h=>(by rw[h]at hr;cases hr),fun j hj=>?_⟩
  by_cases hji:j=i
  .
   subst hji;exact hy.wpOp hi hS ⟨.inr hS,H⟩
  .
   have h1:=H.2 j (ready_mono hj hji);obtain⟨hjun,oj,hoj,Ah⟩:=mem_ready.1 hj
   have hnot:∀e ∈ oj.after,Region.binds md e=true->e.on ≠ i:=fun e he hb heq=>by
    have h1:=Ah e he hb;have h0:=(mem_ready.1 hr).1;rw[heq]at h1
    rcases zJ3 i Ad.size with h'|h'
    .
     simp[h']at h0 h1;rw[h0]at h1;cases h1
    .
     simp[Array.getElem?_eq_none h']at h1
   have hjL:j ≠ L:=by
    intro e;subst e;unfold aG9 at hL;rw[hoj]at hL;simp only[Array.any_eq_true,zC0,beq_iff_eq]at hL;obtain⟨x,hx,hb,he⟩:=hL;exact hnot _ (Array.getElem_mem hx) hb he
   have h2:=wpOp_putIf hoj (hfree j oj hoj hji hjun hnot) (fun cs b=>hsel i oi cs b hi) (fun cs b=>hsel j oj cs b hoj) hQ hy h1
   have hfree':∀k ok,ops[k]?=some ok->k ≠ i->(Ad.setIfInBounds j true).getD k true=false →
     (∀e ∈ ok.after,Region.binds md e=true->e.on ≠ i)->oi.apart ops ok=true:=fun k ok hk hki hun hno=>by
    refine hfree k ok hk hki ?_ hno
    by_cases hjk:j=k
    .
     subst hjk;exact hjun
    .
     rw[getD_set_ne true hjk]at hun;exact hun
   refine wpOp_mono (fun a' w' h3=>?_) h2
   have hSw:S w':=h3.2.1.resolve_left hjL
   refine⟨.inr hSw,ih (Ad.setIfInBounds j true) a' w' hfree' (ready_mono hr (Ne.symm hji)) h3.1 hSw ?_⟩;rw[Array.setIfInBounds_comm _ _ hji];exact h3.2.2
theorem tl (i:Nat){oi:Oper}{v:Value}{fuel:Nat}{Ad:Array Bool}{a:Act}{w:World}(hi:ops[i]?=some oi)
  (hk:(Region.noSelect ops && Region.free md ops Ad i && (Region.ready md ops Ad).contains i && aG9 md ops L i)=true)
  (hy:YieldsIf P ops S oi v a) (hS:S w) (hQ:∀c a w,Q (.panic c) (a.put oi.dst v) w->Q (.panic c) a w)
  (h:iO P md ops Q S L fuel (Ad.setIfInBounds i true) (a.put oi.dst v) w):iO P md ops Q S L (fuel+1) Ad a w:=by
 simp only[zC0]at hk
 exact tW hi (Region.noSelect_spec hk.1.1.1) hk.2 hQ fuel Ad a w (Region.free_spec hi hk.1.1.2) (by simpa using hk.1.2) hy hS h
theorem dl (i:Nat){o:Oper}{fuel:Nat}{Ad:Array Bool}{a:Act}{w:World}(ho:ops[i]?=some o)(hr:Region.ready md ops Ad=[i])
  (h:∀K:Act->World->Prop,Shut (∀a w,S w->(S w->iO P md ops Q S L fuel (Ad.setIfInBounds i true) a w)->K a w)->if Region.wanted o (yielded ops a.tmps)=true then Oper.wp P o a w K Q else K (a.put o.dst undef) w):iO P md ops Q S L (fuel+1) Ad a w:=by
 refine⟨fun h0=>(by rw[hr]at h0;cases h0),fun j hj=>?_⟩
 rw[hr]at hj;simp only[zG3,List.not_mem_nil,or_false]at hj;subst hj
 exact wpOp_step ho (fun K hK=>h K (fun a w hS hW=>hK a w ⟨.inr hS,hW hS⟩))
theorem el {o:Oper}{fuel:Nat}{Ad:Array Bool}{a:Act}{w:World}(ho:ops[L]?=some o)(hr:Region.ready md ops Ad=[L])(hn:Region.ready md ops (Ad.setIfInBounds L true)=[])
  (h:∀K:Act->World->Prop,Shut (∀a w,Q .normal a w->K a w)->if Region.wanted o (yielded ops a.tmps)=true then Oper.wp P o a w K Q else K (a.put o.dst undef) w):iO P md ops Q S L (fuel+1) Ad a w:=by
 refine⟨fun h0=>(by rw[hr]at h0;cases h0),fun j hj=>?_⟩
 rw[hr]at hj;simp only[zG3,List.not_mem_nil,or_false]at hj;subst hj
 refine wpOp_step ho (fun K hK=>h K (fun a w hW=>hK a w ⟨.inl rfl, ?_⟩))
 cases fuel with
 | zero=>exact⟨hn,hW⟩
 | succ n=>exact⟨fun _=>hW,by rw[hn];simp⟩
theorem rl (L:Nat){id:Nat}{a:Act}{w:World}(hm:P.follows .mixedOrders=true)(hS:S w.drew)
  (h:S w.drew->iO P .any ops Q S L ops.size (Array.replicate ops.size false) a w.drew):(Code.region id ops true).wp P Q a w:=
 wp_region_any hm (rA _ _ _ _ (h hS))
theorem la (i:Nat){oi:Oper}{v:Value}{fuel:Nat}{Ad:Array Bool}{a:Act}{w:World}
  (h:iO P md ops Q S L fuel (Ad.setIfInBounds i true) (a.put oi.dst v) w) (hS:S w:=by exact Aa) (hi:ops[i]?=some oi:=by rfl)
  (hk:(Region.noSelect ops && Region.free md ops Ad i && (Region.ready md ops Ad).contains i && aG9 md ops L i)=true:=by kernel_rfl)
  (hy:YieldsIf P ops S oi v a:=by exact .inl ⟨by rfl,by intro w hSw;(try dsimp only at hSw);go_simp;first|done|rfl⟩) (hQ:∀c a w,Q (.panic c) (a.put oi.dst v) w->Q (.panic c) a w:=by exact fun _ _ _ h=>h):
  iO P md ops Q S L (fuel+1) Ad a w:=tl i hi hk hy hS hQ h
theorem da (i:Nat){o:Oper}{fuel:Nat}{Ad:Array Bool}{a:Act}{w:World}
  (h:∀K:Act->World->Prop,Shut (∀a w,S w->(S w->iO P md ops Q S L fuel (Ad.setIfInBounds i true) a w)->K a w)->if Region.wanted o (yielded ops a.tmps)=true then Oper.wp P o a w K Q else K (a.put o.dst undef) w)
  (ho:ops[i]?=some o:=by rfl) (hr:Region.ready md ops Ad=[i]:=by kernel_rfl):iO P md ops Q S L (fuel+1) Ad a w:=dl i ho hr h
theorem ea {o:Oper}{fuel:Nat}{Ad:Array Bool}{a:Act}{w:World}
  (h:∀K:Act->World->Prop,Shut (∀a w,Q .normal a w->K a w)->if Region.wanted o (yielded ops a.tmps)=true then Oper.wp P o a w K Q else K (a.put o.dst undef) w)
  (ho:ops[L]?=some o:=by rfl) (hr:Region.ready md ops Ad=[L]:=by kernel_rfl) (hn:Region.ready md ops (Ad.setIfInBounds L true)=[]:=by kernel_rfl):iO P md ops Q S L (fuel+1) Ad a w:=el ho hr hn h
end
end Go.Proofs.YtffphdacgblaoaaGreatDoor

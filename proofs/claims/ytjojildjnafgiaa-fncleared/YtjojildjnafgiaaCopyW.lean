/- copy of words, seven cells each, into memory of the call's own; the memory copied. -/
import Derived.Test.YtjojildjnafgiaaMemLaw2
import Derived.Laws.CopyOwn
import Derived.Deep.Cut
namespace Go.Proofs.Ytjojildjnafgiaa
open Go.RowKit
set_option linter.unusedVariables false
set_option linter.unusedSimpArgs false

theorem flat_one (l : List Wd) : ∀ v ∈ flat l, v.oneCell' = true := by
  induction l with
  | nil => simp [flat]
  | cons x l ih =>
    intro v hv
    simp only [flat, List.mem_append] at hv
    rcases hv with hv | hv
    · simp only [Wd.vals, List.mem_cons, List.not_mem_nil, or_false] at hv
      rcases hv with rfl | rfl | rfl | rfl | rfl | rfl | rfl <;> rfl
    · exact ih v hv

theorem sizeW : (Try.prog.info? 29).map (·.size) = some 7 := by kernel_rfl

theorem run_copyW (w : World) (dT sT ty elem : TypeId) (g n c2 : Nat) (a : Addr) (cur : List Value) (t : TypeId) (cs : List Value)
    (hu : Try.prog.underlying dT = some (.slice elem)) (hs : (Try.prog.info? elem).map (·.size) = some 7)
    (hg : w.heap[g]? = some (.cells cur.toArray t (0, 0))) (hn : cs.length = n * 7)
    (hsrc : ∀ j v, cs[j]? = some v → w.cell? (a.add j) = some v) (hfit : cs.length ≤ cur.length) (h1 : ∀ v ∈ cs, v.oneCell' = true) :
    (Builtin.copy_ #[dT, sT] ty #[.slice (some ⟨g, 0, none⟩) n n, .slice (some a) n c2]).run Try.prog w = .ok (goInt n) (w.setRow g (cs ++ cur.drop cs.length).toArray) := by
  have hl := run_loadCells_list (P := Try.prog) w a cs hsrc
  have hst := run_storeCells_at Try.prog g 0 t cs 0 cur.toArray w hg (by simpa using hfit) h1
  cases hq : Try.prog.info? elem with
  | none => simp [hq] at hs
  | some i =>
    have hi : i.size = 7 := by simpa [hq] using hs
    have hm : Nat.min n n = n := Nat.min_self n
    simp at hst
    rw [hn] at hl
    simp [Builtin.copy_, run_underlying hu, Builtin.lenOf, Builtin.firstCells, sizeOf, typeInfo, hq, hi, hm, hl, hst]

theorem wpList_copyW {w : World} {ops : Array Oper} {rest : List Oper} {o : Oper} {a : Act} {Q : Exit → Act → World → Prop} (hgd : o.guard = none) (d s : Operand) (dT sT : TypeId)
    (ho : o.op = .call { callee := .builtin .copy, args := #[d, s], argTypes := #[dT, sT] }) (elem : TypeId) (hu : Try.prog.underlying dT = some (.slice elem)) (hsz : (Try.prog.info? elem).map (·.size) = some 7)
    (g n c2 : Nat) (ad : Addr) (hd : a.eval d = .slice (some ⟨g, 0, none⟩) n n) (hs : a.eval s = .slice (some ad) n c2)
    (cur : List Value) (t : TypeId) (hg : w.heap[g]? = some (.cells cur.toArray t (0, 0))) (cs : List Value) (hn : cs.length = n * 7)
    (hsrc : ∀ j v, cs[j]? = some v → w.cell? (ad.add j) = some v) (hfit : cs.length ≤ cur.length) (h1 : ∀ v ∈ cs, v.oneCell' = true)
    (h : ∀ w', Hid (w' = w.setRow g (cs ++ cur.drop cs.length).toArray) → wpList Try.prog ops Q rest (a.put o.dst (goInt n)) w') : wpList Try.prog ops Q (o :: rest) a w := by
  refine wpList_plain hgd fun K hK => ?_
  have hrun := run_copyW w dT sT o.type elem g n c2 ad cur t cs hu hsz hg hn hsrc hfit h1
  unfold Oper.wp
  simp [execOp, ho, resolve, invoke, builtin, hd, hs, hrun, Result.andThen]
  exact hK _ _ (h _ rfl)

theorem wpList_copyW0 {w : World} {ops : Array Oper} {rest : List Oper} {o : Oper} {a : Act} {Q : Exit → Act → World → Prop} (hgd : o.guard = none) (d s : Operand) (dT sT : TypeId)
    (ho : o.op = .call { callee := .builtin .copy, args := #[d, s], argTypes := #[dT, sT] }) (elem : TypeId) (hu : Try.prog.underlying dT = some (.slice elem)) (hsz : (Try.prog.info? elem).map (·.size) = some 7)
    (dp sp : Option Addr) (c1 c2 : Nat) (hd : a.eval d = .slice dp 0 c1) (hs : a.eval s = .slice sp 0 c2)
    (h : wpList Try.prog ops Q rest (a.put o.dst (goInt 0)) w) : wpList Try.prog ops Q (o :: rest) a w := by
  refine wpList_plain hgd fun K hK => ?_
  have hrun : (Builtin.copy_ #[dT, sT] o.type #[.slice dp 0 c1, .slice sp 0 c2]).run Try.prog w = .ok (goInt 0) w := by
    cases hq : Try.prog.info? elem with
    | none => simp [hq] at hsz
    | some i =>
      have hi : i.size = 7 := by simpa [hq] using hsz
      have hL : ∀ x : Addr, (loadCells x 0).run Try.prog w = .ok #[] w := fun x => run_loadCells_list (P := Try.prog) w x [] (by simp)
      cases dp <;> cases sp <;> simp [Builtin.copy_, run_underlying hu, Builtin.lenOf, Builtin.firstCells, sizeOf, typeInfo, hq, hi, storeCells, hL]
  unfold Oper.wp
  simp [execOp, ho, resolve, invoke, builtin, hd, hs, hrun, Result.andThen]
  exact hK _ _ h

set_option maxRecDepth 100000 in
set_option maxHeartbeats 4000000 in
theorem copiedM (g : Nat) (a : Option Addr) (n c : Nat) (l : List Wd) (w : World) (cg : w.cell? ⟨g, 0, none⟩ = some (.slice a n c)) (h : WRow w a n l) (hn : n ≤ 1048576) :
    Calls Try.prog 8 #[.pointer (some ⟨g, 0, none⟩)] w fun e w' => ∃ g', e = .returned (.agg #[.slice (some ⟨g', 0, none⟩) n n]) ∧ w.heap.size ≤ g' ∧ WB w' g' l ∧ Below w.heap.size w w' := by
  obtain ⟨i0, hi, hz0, hz1, hz2⟩ := info_parts infoW
  have hgl := World.block_lt_of_cell? w _ cg
  have Hl : Hid (l.length = n) := h.1
  have HC : Hid _ := cg
  have Hh : Hid (WRow w a n l) := h
  obtain ⟨wA, eA⟩ : ∃ wA, wA = w.alloc (.cells #[.slice none 0 0] 25) := ⟨_, rfl⟩
  have hbA : Below w.heap.size w wA := by rw [eA]; exact (Below.refl _ _).alloc (Nat.le_refl _) _
  have hzA : wA.heap[w.heap.size]? = some (.cells #[.slice none 0 0] 25 (0, 0)) := by rw [eA]; exact heap_alloc_new w _
  have hsA : w.heap.size < wA.heap.size := by rw [eA]; simp
  have cgA : wA.cell? ⟨g, 0, none⟩ = some (.slice a n c) := (hbA.cell hgl).trans cg
  clear cg h
  go_enter Try.func8, Try.ntmps8
  go_upto_region 1 with fail
  rw [← eA]
  clear eA
  go_wp2_with (at_make; refine wpList_make_full _ rfl _ _ 23 rfl wA.heap.size 29 i0 _ 7 Try.underlying23 hi hz0 hz1 _ _ _ _ n rfl rfl rfl rfl (by rw [hz2]; omega) (by unfold maxLen; omega) (Nat.le_refl _) ?_)
  intro w1 hown hgrow
  have hb1 : Below wA.heap.size wA w1 := (Below.refl _ _).grown hgrow (Nat.le_refl _) (by intro k hk; cases hk)
  have hB1 : WB w1 wA.heap.size (List.replicate n zeroW) := by
    have := block_of_ownsW hown
    rw [made_flat] at this
    exact this
  have hz1' := (hb1.block _ (by omega)).trans hzA
  have cg1 : w1.cell? ⟨g, 0, none⟩ = some (.slice a n c) := (hb1.cell (show g < wA.heap.size by omega)).trans cgA
  have hbw1 : Below w.heap.size w w1 := hbA.trans (hb1.mono (by omega))
  have HB1 : Hid _ := hB1
  have HZ1 : Hid _ := hz1'
  clear hown hgrow hb1 hB1 hz1' hzA cgA hbA
  generalize wA.heap.size = g' at *
  rcases Nat.eq_zero_or_pos n with h0 | hpos
  · subst h0
    obtain ⟨z0, f0⟩ := one_facts HZ1.out
    go_wp2_with (refine wpList_copyW0 rfl (.tmp 10) (.tmp 14) 23 23 rfl 29 Try.underlying23 sizeW _ _ _ _ rfl rfl ?_)
    have hne : g' ≠ w.heap.size := by omega
    have hbW := heap_setCell_same w1 w.heap.size 0 _ _ (.slice (some ⟨g', 0, none⟩) 0 0) HZ1.out
    have hdW : Below w.heap.size w (w1.setCell ⟨w.heap.size, 0, none⟩ (.slice (some ⟨g', 0, none⟩) 0 0)) := hbw1.setCell (Nat.le_refl _) _
    have hWW : WB (w1.setCell ⟨w.heap.size, 0, none⟩ (.slice (some ⟨g', 0, none⟩) 0 0)) g' l := by
      have : l = [] := List.length_eq_zero_iff.1 Hl.out
      subst this
      exact WB.other (show WB w1 g' [] from HB1.out) hne
    generalize w1.setCell ⟨w.heap.size, 0, none⟩ (.slice (some ⟨g', 0, none⟩) 0 0) = W at hbW hdW hWW ⊢
    obtain ⟨d, _⟩ := one_facts (show _ = some (Obj.cells #[.slice (some ⟨g', 0, none⟩) 0 0] 25 (0, 0)) from hbW)
    refine bodyPost_ret (v := .agg #[.slice (some ⟨g', 0, none⟩) 0 0]) (by simp [results, Try.results8, go_sem, d]) rfl ⟨g', rfl, by omega, hWW, hdW⟩
  · obtain ⟨b, off, rfl, hc⟩ := (WRow.below Hh.out hbw1).2 hpos
    have hfit : Hid ((flat l).length ≤ (flat (List.replicate n zeroW)).length) := by show _ ≤ _; rw [flat_len, flat_len, Hl.out]; simp
    have hlen : Hid ((flat l).length = n * 7) := by show _ = _; rw [flat_len, Hl.out]
    have Hc : Hid (∀ j v, (flat l)[j]? = some v → w1.cell? ((⟨b, off, none⟩ : Addr).add j) = some v) := by
      intro j v hv; rw [Addr.add_lit]; exact hc j v hv
    have hend : Hid ((flat l ++ (flat (List.replicate n zeroW)).drop (flat l).length) = flat l) := by
      show _ = _
      rw [List.drop_of_length_le (by rw [flat_len, flat_len, Hl.out]; simp), List.append_nil]
    clear hc
    go_wp2_with (refine wpList_copyW rfl (.tmp 10) (.tmp 14) 23 23 rfl 29 Try.underlying23 sizeW g' n c ⟨b, off, none⟩ rfl rfl (flat (List.replicate n zeroW)) 29 HB1.out (flat l) hlen.out Hc.out hfit.out (flat_one l) ?_)
    intro w2 he2
    have e2 := he2.out
    rw [hend.out] at e2
    clear he2
    have hB2 : WB w2 g' l := by rw [e2]; exact setRow_heap w1 g' _ _ 29 _ HB1.out
    have hb2 : Below w.heap.size w w2 := by rw [e2]; exact below_setRow hbw1 (by omega) _
    have hz2' : w2.heap[w.heap.size]? = some (.cells #[.slice none 0 0] 25 (0, 0)) := by rw [e2, setRow_other w1 g' w.heap.size _ (by omega)]; exact HZ1.out
    clear e2 Hc hend hfit HB1 HZ1 cg1 hlen
    obtain ⟨z0, f0⟩ := one_facts hz2'
    have hne : g' ≠ w.heap.size := by omega
    have hbW := heap_setCell_same w2 w.heap.size 0 _ _ (.slice (some ⟨g', 0, none⟩) n n) hz2'
    have hdW : Below w.heap.size w (w2.setCell ⟨w.heap.size, 0, none⟩ (.slice (some ⟨g', 0, none⟩) n n)) := hb2.setCell (Nat.le_refl _) _
    have hWW : WB (w2.setCell ⟨w.heap.size, 0, none⟩ (.slice (some ⟨g', 0, none⟩) n n)) g' l := WB.other hB2 hne
    have HbW : Hid _ := hbW
    have HdW : Hid _ := hdW
    have HWW : Hid _ := hWW
    clear hbW hdW hWW hB2 hb2 hz2'
    go_wp2_with fail
    have hbW := HbW.out
    have hdW := HdW.out
    have hWW := HWW.out
    generalize w2.setCell ⟨w.heap.size, 0, none⟩ (.slice (some ⟨g', 0, none⟩) n n) = W at hbW hdW hWW ⊢
    obtain ⟨d, _⟩ := one_facts (show _ = some (Obj.cells #[.slice (some ⟨g', 0, none⟩) n n] 25 (0, 0)) from hbW)
    refine bodyPost_ret (v := .agg #[.slice (some ⟨g', 0, none⟩) n n]) (by simp [results, Try.results8, go_sem, d]) rfl ⟨g', rfl, by omega, hWW, hdW⟩
end Go.Proofs.Ytjojildjnafgiaa

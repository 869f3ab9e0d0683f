/- Words of a memory cleared, by the specification and by the program: the same. -/
import Derived.Test.YtchchigiafacbabMemCopy
import Derived.Test.YtchchigiafacbabMemSpec
import Derived.Deep.Cut
namespace Go.Proofs.Ytchchigiafacbab
open Go.RowKit
set_option linter.unusedVariables false
set_option linter.unusedSimpArgs false

def clr (l : List Wd) (lo hi : Nat) : List Wd := l.take lo ++ (List.replicate (hi - lo) zeroW ++ l.drop hi)

theorem clr_len {l : List Wd} {lo hi : Nat} (h1 : lo ≤ hi) (h2 : hi ≤ l.length) : (clr l lo hi).length = l.length := by simp [clr]; omega
theorem clr_start (l : List Wd) (lo : Nat) : clr l lo lo = l := by simp [clr]
theorem clr_step {l : List Wd} {lo k : Nat} (h1 : lo ≤ k) (h2 : k < l.length) : (clr l lo k).set k zeroW = clr l lo (k + 1) := by
  have e : l.drop k = l[k] :: l.drop (k + 1) := by rw [List.drop_eq_getElem_cons h2]
  rw [clr, List.set_append_right _ _ (by simp; omega), List.length_take, Nat.min_eq_left (by omega), List.set_append_right _ _ (by simp), List.length_replicate, Nat.sub_self, e, List.set_cons_zero, clr, show k + 1 - lo = (k - lo) + 1 by omega, List.replicate_succ', List.append_assoc]
  rfl

theorem flat_take (l : List Wd) (k : Nat) : (flat l).take (k * 7) = flat (l.take k) := by
  by_cases hk : k ≤ l.length
  · have h := flat_append (l.take k) (l.drop k)
    rw [List.take_append_drop] at h
    rw [h, List.take_left' (by rw [flat_len, List.length_take, Nat.min_eq_left hk])]
  · rw [List.take_of_length_le (by rw [flat_len]; omega), List.take_of_length_le (by omega)]
theorem flat_drop (l : List Wd) (k : Nat) : (flat l).drop (k * 7) = flat (l.drop k) := by
  by_cases hk : k ≤ l.length
  · have h := flat_append (l.take k) (l.drop k)
    rw [List.take_append_drop] at h
    rw [h, List.drop_left' (by rw [flat_len, List.length_take, Nat.min_eq_left hk])]
  · rw [List.drop_of_length_le (by rw [flat_len]; omega), List.drop_of_length_le (by omega)]; rfl
theorem flat_clr (l : List Wd) (lo hi : Nat) : (flat l).take (lo * 7) ++ flat (List.replicate (hi - lo) zeroW) ++ (flat l).drop (hi * 7) = flat (clr l lo hi) := by
  rw [clr, flat_append, flat_append, flat_take, flat_drop, List.append_assoc]

theorem run_clearW (w : World) (ty : TypeId) (g o m c : Nat) (cur : List Value) (t : TypeId) (hm : 0 < m)
    (hg : w.heap[g]? = some (.cells cur.toArray t (0, 0))) (hfit : o + m * 7 ≤ cur.length) :
    (Builtin.clear_ #[26] ty #[.slice (some ⟨g, o, none⟩) m c]).run Try.prog w = .ok (.tuple #[]) (w.setRow g (cur.take o ++ flat (List.replicate m zeroW) ++ cur.drop (o + m * 7)).toArray) := by
  obtain ⟨m, rfl⟩ : ∃ k, m = k + 1 := ⟨m - 1, by omega⟩
  have zero : (zeroValue 39).run Try.prog w = .ok (.agg #[.bool false, .int .i64 0, .int .i64 0, .int .i64 0, .int .i64 0, .int .i64 0, .int .i64 0]) w := by kernel_rfl
  have hzc : (Builtin.zeroCells #[.bool false, .int .i64 0, .int .i64 0, .int .i64 0, .int .i64 0, .int .i64 0, .int .i64 0] (m + 1)).toList = flat (List.replicate (m + 1) zeroW) := made_flat (m + 1)
  have hst := run_storeCells_at Try.prog g o t (flat (List.replicate (m + 1) zeroW)) 0 cur.toArray w hg (by rw [flat_len]; simpa using hfit) (flat_one _)
  simp only [flat_len, List.length_replicate, Nat.add_zero] at hst
  simp [Builtin.clear_, run_underlying Try.underlying26, zero, Value.cells, hzc, hst, Result.andThen]

theorem wpList_clearW {w : World} {ops : Array Oper} {rest : List Oper} {o : Oper} {a : Act} {Q : Exit → Act → World → Prop} (hgd : o.guard = none) (x : Operand)
    (ho : o.op = .call { callee := .builtin .clear, args := #[x], argTypes := #[26] })
    (g off m c : Nat) (hx : a.eval x = .slice (some ⟨g, off, none⟩) m c) (hm : 0 < m) (cur : List Value) (t : TypeId) (hg : w.heap[g]? = some (.cells cur.toArray t (0, 0))) (hfit : off + m * 7 ≤ cur.length)
    (h : ∀ w', Hid (w' = w.setRow g (cur.take off ++ flat (List.replicate m zeroW) ++ cur.drop (off + m * 7)).toArray) → wpList Try.prog ops Q rest (a.put o.dst (.tuple #[])) w') : wpList Try.prog ops Q (o :: rest) a w := by
  refine wpList_plain hgd fun K hK => ?_
  have hrun := run_clearW w o.type g off m c cur t hm hg hfit
  unfold Oper.wp
  simp only [execOp, ho, resolve, invoke, builtin]
  simp [hx, hrun, Result.andThen]
  refine hK _ _ (h _ ?_)
  show _ = _
  rw [List.append_assoc]

theorem wpList_clearW0 {w : World} {ops : Array Oper} {rest : List Oper} {o : Oper} {a : Act} {Q : Exit → Act → World → Prop} (hgd : o.guard = none) (x : Operand)
    (ho : o.op = .call { callee := .builtin .clear, args := #[x], argTypes := #[26] })
    (ad : Option Addr) (c : Nat) (hx : a.eval x = .slice ad 0 c)
    (h : wpList Try.prog ops Q rest (a.put o.dst (.tuple #[])) w) : wpList Try.prog ops Q (o :: rest) a w := by
  refine wpList_plain hgd fun K hK => ?_
  have hrun : (Builtin.clear_ #[26] o.type #[.slice ad 0 c]).run Try.prog w = .ok (.tuple #[]) w := by
    cases ad <;> simp [Builtin.clear_, run_underlying Try.underlying26, Result.andThen]
  unfold Oper.wp
  simp [execOp, ho, resolve, invoke, builtin, hx, hrun, Result.andThen]
  exact hK _ _ h

set_option maxRecDepth 100000 in
set_option maxHeartbeats 4000000 in
theorem wipeM (gz g n c : Nat) (l : List Wd) (lo hi : Nat) (w : World) (cz : w.cell? ⟨gz, 0, none⟩ = some (.slice (some ⟨g, 0, none⟩) n n)) (h : WB w g l) (hl : l.length = n) (h1 : lo ≤ hi) (h2 : hi ≤ n) (hn : n ≤ 1048576) :
    Calls Try.prog 17 #[.pointer (some ⟨gz, 0, none⟩), .int .i64 lo, .int .i64 hi] w fun e w' => e = .returned (.tuple #[]) ∧ WB w' g (clr l lo hi) ∧ But w w' g := by
  have H : Hid (WB w g l) := h
  have Hl : Hid (l.length = n) := hl
  clear h hl
  rcases Nat.eq_or_lt_of_le h1 with he | hlt
  · subst he
    have hz : ((lo : Int) - (lo : Int)).toNat = 0 := by omega
    rcases Nat.eq_or_lt_of_le h2 with he | hlt
    · subst he
      go_enter Try.func17, Try.ntmps17
      go_wp2_with (refine wpList_clearW0 rfl (.tmp 12) rfl _ _ rfl ?_)
      go_end0
      exact ⟨rfl, by rw [clr_start]; exact H.out, But.refl _ _⟩
    · go_enter Try.func17, Try.ntmps17
      go_wp2_with (refine wpList_clearW0 rfl (.tmp 12) rfl _ _ rfl ?_)
      go_end0
      exact ⟨rfl, by rw [clr_start]; exact H.out, But.refl _ _⟩
  · have hlt' : lo < n := by omega
    have hfit : Hid (lo * 7 + (hi - lo) * 7 ≤ (flat l).length) := by show _ ≤ _; rw [flat_len, Hl.out]; omega
    have hend : Hid ((flat l).take (lo * 7) ++ flat (List.replicate (hi - lo) zeroW) ++ (flat l).drop (lo * 7 + (hi - lo) * 7) = flat (clr l lo hi)) := by
      show _ = _
      rw [← flat_clr, show lo * 7 + (hi - lo) * 7 = hi * 7 by omega]
    go_enter Try.func17, Try.ntmps17
    go_wp2_with (refine wpList_clearW rfl (.tmp 12) rfl g (lo * 7) (hi - lo) (n - lo) rfl (by omega) (flat l) 39 H.out hfit.out ?_)
    intro w2 he2
    have e2 := he2.out
    rw [← List.append_assoc, hend.out] at e2
    have hB2 : WB w2 g (clr l lo hi) := by rw [e2]; exact setRow_heap w g _ _ 39 _ H.out
    have hbut : But w w2 g := by
      rw [e2]
      exact ⟨below_setRow (Below.refl _ _) (Nat.le_refl _) _, fun k hk hne => setRow_other w g k _ hne⟩
    clear e2 he2 hend hfit H
    go_wp2_with fail
    go_end0
    exact ⟨rfl, hB2, hbut⟩

def clrB (l : List Wd) (lo hi : Int) : Bool := memB l && (decide (0 ≤ lo) && (decide (lo ≤ hi) && decide (hi ≤ (l.length : Int))))

theorem clrB_yes {l : List Wd} {lo hi : Int} (h : clrB l lo hi = true) : memB l = true ∧ ∃ a b : Nat, lo = a ∧ hi = b ∧ a ≤ b ∧ b ≤ l.length := by
  simp only [clrB, Bool.and_eq_true, decide_eq_true_eq] at h
  obtain ⟨h0, h1, h2, h3⟩ := h
  obtain ⟨a, rfl⟩ := Int.eq_ofNat_of_zero_le h1
  obtain ⟨b, rfl⟩ := Int.eq_ofNat_of_zero_le (show 0 ≤ hi by omega)
  exact ⟨h0, a, b, rfl, rfl, by omega, by omega⟩

theorem clrB_no {l : List Wd} {lo hi : Int} (h : clrB l lo hi = false) (hm : memB l = true) : ¬ (0 ≤ lo ∧ lo ≤ hi ∧ hi ≤ (l.length : Int)) := by
  rintro ⟨h1, h2, h3⟩
  simp [clrB, hm, h1, h2, h3] at h

set_option maxRecDepth 100000 in
set_option maxHeartbeats 4000000 in
theorem specClearNo (ad : Addr) (n c : Nat) (l : List Wd) (lo hi : Int) (w : World) (h : WRow w (some ad) n l) (hn : n ≤ 1048576) (hc : clrB l lo hi = false) :
    Calls Try.prog 5 #[.agg #[.slice (some ad) n c], .int .i64 lo, .int .i64 hi] w fun e w' => e = .returned (.tuple #[.agg #[.slice none 0 0], .bool false]) ∧ Below w.heap.size w w' := by
  have hB0 : Below w.heap.size w ((w.alloc (.cells #[.slice (some ad) n c] 28)).alloc (.cells #[.slice none 0 0] 28)) := ((Below.refl _ _).alloc (Nat.le_refl _) _).alloc (by simp) _
  have HM := specMemM (some ad) n c l _ (h.below hB0) hn
  have hln := h.1
  have fin : ∀ w1 : World, Hid (Below ((w.alloc (.cells #[.slice (some ad) n c] 28)).alloc (.cells #[.slice none 0 0] 28)).heap.size ((w.alloc (.cells #[.slice (some ad) n c] 28)).alloc (.cells #[.slice none 0 0] 28)) w1) → w1.cell? ⟨w.heap.size, 0, none⟩ = some (.slice (some ad) n c) ∧ w1.cell? ⟨w.heap.size + 1, 0, none⟩ = some (.slice none 0 0) ∧ w1.frozen? ⟨w.heap.size + 1, 0, none⟩ = false ∧ Hid ((w1.setCell ⟨w.heap.size + 1, 0, none⟩ (.slice none 0 0)).heap[w.heap.size + 1]? = some (.cells #[.slice none 0 0] 28 (0, 0))) ∧ Hid (Below w.heap.size w (w1.setCell ⟨w.heap.size + 1, 0, none⟩ (.slice none 0 0))) := by
    intro w1 hb1
    obtain ⟨hm, hz, hb, hs⟩ := two_mem rfl hb1.out
    exact ⟨(one_facts hm).1, (one_facts hz).1, (one_facts hz).2, heap_setCell_same w1 (w.heap.size + 1) 0 _ _ _ hz, hb.setCell (show w.heap.size ≤ w.heap.size + 1 by omega) _⟩
  have Hfin : Hid _ := fin
  clear fin h hB0
  cases hm : memB l
  · rw [hm] at HM
    clear hc hm hln
    go_enter Try.func5, Try.ntmps5
    go_wp2_with fail
    refine HM.mono ?_
    rintro e w1 ⟨rfl, hb1⟩
    obtain ⟨m0, z0, f0, HbW, HdW⟩ := Hfin.out w1 hb1
    clear HM hb1
    go_wp2_with fail
    have hbW := HbW.out
    have hdW := HdW.out
    generalize w1.setCell ⟨w.heap.size + 1, 0, none⟩ (.slice none 0 0) = W at hbW hdW ⊢
    obtain ⟨d, _⟩ := one_facts hbW
    refine bodyPost_ret (v := .tuple #[.agg #[.slice none 0 0], .bool false]) (by simp [results, Try.results5, go_sem, d]) rfl ⟨rfl, hdW⟩
  · have hno := clrB_no hc hm
    rw [hln] at hno
    rw [hm] at HM
    clear hc hm hln
    go_enter Try.func5, Try.ntmps5
    go_wp2_with fail
    refine HM.mono ?_
    rintro e w1 ⟨rfl, hb1⟩
    obtain ⟨m0, z0, f0, HbW, HdW⟩ := Hfin.out w1 hb1
    clear HM hb1
    go_wp2_with fail
    all_goals first | (exfalso; omega) | skip
    all_goals (have hbW := HbW.out; have hdW := HdW.out; generalize w1.setCell ⟨w.heap.size + 1, 0, none⟩ (.slice none 0 0) = W at hbW hdW ⊢; obtain ⟨d, _⟩ := one_facts hbW)
    all_goals refine bodyPost_ret (v := .tuple #[.agg #[.slice none 0 0], .bool false]) (by simp [results, Try.results5, go_sem, d]) rfl ⟨rfl, hdW⟩

set_option maxRecDepth 100000 in
set_option maxHeartbeats 4000000 in
theorem specClearYes (ad : Addr) (n c : Nat) (l : List Wd) (lo hi : Nat) (w : World) (h : WRow w (some ad) n l) (hn : n ≤ 1048576) (hm : memB l = true) (h1 : lo ≤ hi) (h2 : hi ≤ n) :
    Calls Try.prog 5 #[.agg #[.slice (some ad) n c], .int .i64 lo, .int .i64 hi] w fun e w' => ∃ g cap, e = .returned (.tuple #[.agg #[.slice (some ⟨g, 0, none⟩) n cap], .bool true]) ∧ w.heap.size ≤ g ∧ WX w' g (clr l lo hi) ∧ Below w.heap.size w w' := by
  have hB0 : Below w.heap.size w ((w.alloc (.cells #[.slice (some ad) n c] 28)).alloc (.cells #[.slice none 0 0] 28)) := ((Below.refl _ _).alloc (Nat.le_refl _) _).alloc (by simp) _
  have HM := specMemM (some ad) n c l _ (h.below hB0) hn
  rw [hm] at HM
  have Hh : Hid (WRow w (some ad) n l) := h
  have Hl : Hid (l.length = n) := h.1
  clear hm h hB0
  go_enter Try.func5, Try.ntmps5
  go_wp2_with fail
  refine HM.mono ?_
  rintro e w1 ⟨rfl, hb1⟩
  obtain ⟨hm, hz, hb, hs⟩ := two_mem rfl hb1
  obtain ⟨m0, _⟩ := one_facts hm
  have HZ : Hid _ := hz
  have HB : Hid _ := hb
  clear HM hb1 hm hz hb
  go_wp2_with fail
  refine (l3copyM ad n c l w1 (Hh.out.below HB.out) hn).mono ?_
  rintro e w2 ⟨g, cap, rfl, hg, hX, hb2⟩
  have hz2 := (hb2.block _ (Array.getElem?_eq_some_iff.1 HZ.out).1).trans HZ.out
  have hbw2 : Below w.heap.size w w2 := HB.out.trans (hb2.mono HB.out.size)
  have hge : w.heap.size + 2 ≤ g := Nat.le_trans hs hg
  have HX : Hid (WX w2 g l) := hX
  have HZ2 : Hid _ := hz2
  have HB2 : Hid _ := hbw2
  clear hb2 hX hz2 hbw2 hg HZ HB m0 hs
  go_upto_region 4 with fail
  obtain ⟨w3, e3⟩ : ∃ x, x = w2.alloc (.cells #[.slice (some ⟨g, 0, none⟩) n cap] 28) := ⟨_, rfl⟩
  have hb23 : Below w2.heap.size w2 w3 := by rw [e3]; exact (Below.refl _ _).alloc (Nat.le_refl _) _
  have hy := heap_alloc_new w2 (.cells #[.slice (some ⟨g, 0, none⟩) n cap] 28)
  rw [← e3] at hy ⊢
  have hX3 : WX w3 g l := WX.of HX.out (hb23.block _ (WX.lt HX.out))
  have hglt : g < w2.heap.size := WX.lt HX.out
  have hz3 := (hb23.block _ (Array.getElem?_eq_some_iff.1 HZ2.out).1).trans HZ2.out
  have hb3 : Below w.heap.size w w3 := HB2.out.trans (hb23.mono HB2.out.size)
  have hzl : w2.heap.size < w3.heap.size := (Array.getElem?_eq_some_iff.1 hy).1
  have HX3 : Hid (WX w3 g (clr l lo lo)) := by show WX _ _ _; rw [clr_start]; exact hX3
  have HY : Hid _ := hy
  have HZ3 : Hid _ := hz3
  have HB3 : Hid _ := hb3
  clear e3 hb23 hX3 hz3 hb3 HX HZ2 HB2 hy
  generalize w2.heap.size = gy at *
  go_wp2_with fail
  go_loopw [9] (fun i wr => ∃ k : Nat, lo ≤ k ∧ k ≤ hi ∧ i = .int .i64 k ∧ Hid (WX wr g (clr l lo k)) ∧ Hid (But w3 wr g)) (fun i _ => hi - (intOf i).toNat)
  case atStart => exact ⟨lo, Nat.le_refl _, h1, rfl, HX3, But.refl _ _⟩
  case round =>
    obtain ⟨k, hk1, hk2, rfl, hw, hbut⟩ := hrel
    have hyr := (hbut.out.rest gy hzl (by omega)).trans HY.out
    obtain ⟨y0, _⟩ := one_facts hyr
    by_cases hlt : k < hi
    · have hkn : k < n := by omega
      obtain ⟨y, hy⟩ : ∃ y, (clr l lo k)[k]? = some y := ⟨_, List.getElem?_eq_getElem (by rw [clr_len hk1 (by rw [Hl.out]; omega), Hl.out]; omega)⟩
      obtain ⟨c0, c1, c2, c3, c4, c5, c6⟩ := WX.word hw.out hy
      have f0 := WX.frozen hw.out (k * 7)
      have f1 := WX.frozen hw.out (k * 7 + 1)
      have f2 := WX.frozen hw.out (k * 7 + 2)
      have f3 := WX.frozen hw.out (k * 7 + 3)
      have f4 := WX.frozen hw.out (k * 7 + 4)
      have f5 := WX.frozen hw.out (k * 7 + 5)
      have f6 := WX.frozen hw.out (k * 7 + 6)
      clear hy hyr
      go_wp2_with fail
      go_roundw
      case rel =>
        have hs := WX.set (k := k) hw.out zeroW (by rw [clr_len hk1 (by rw [Hl.out]; omega), Hl.out]; omega)
        rw [clr_step hk1 (by rw [Hl.out]; omega)] at hs
        have hb := ((((((hbut.out.set (k * 7) (.bool false)).set (k * 7 + 1) (.int .i64 0)).set (k * 7 + 2) (.int .i64 0)).set (k * 7 + 3) (.int .i64 0)).set (k * 7 + 4) (.int .i64 0)).set (k * 7 + 5) (.int .i64 0)).set (k * 7 + 6) (.int .i64 0)
        exact ⟨k + 1, by omega, by omega, by go_num, hs, hb⟩
      case measure => simp [intOf]; omega
    · have : k = hi := by omega
      subst this
      have hzr := (hbut.out.rest (w.heap.size + 1) (Array.getElem?_eq_some_iff.1 HZ3.out).1 (by omega)).trans HZ3.out
      obtain ⟨z0, f0⟩ := one_facts hzr
      have hbW := heap_setCell_same wr (w.heap.size + 1) 0 _ _ (.slice (some ⟨g, 0, none⟩) n cap) hzr
      have hdW : Below w.heap.size w (wr.setCell ⟨w.heap.size + 1, 0, none⟩ (.slice (some ⟨g, 0, none⟩) n cap)) := (HB3.out.trans (hbut.out.below.mono (by omega))).setCell (show w.heap.size ≤ w.heap.size + 1 by omega) _
      have hXW : WX (wr.setCell ⟨w.heap.size + 1, 0, none⟩ (.slice (some ⟨g, 0, none⟩) n cap)) g (clr l lo k) := WX.of hw.out (heap_setCell_other wr ⟨w.heap.size + 1, 0, none⟩ g _ (show g ≠ w.heap.size + 1 by omega))
      have HbW : Hid _ := hbW
      have HdW : Hid _ := hdW
      have HXW : Hid _ := hXW
      clear hbW hdW hXW hzr hyr
      go_wp2_with fail
      have hbW := HbW.out
      have hdW := HdW.out
      have hXW := HXW.out
      generalize wr.setCell ⟨w.heap.size + 1, 0, none⟩ (.slice (some ⟨g, 0, none⟩) n cap) = W at hbW hdW hXW ⊢
      obtain ⟨d, _⟩ := one_facts (show _ = some (Obj.cells #[.slice (some ⟨g, 0, none⟩) n cap] 28 (0, 0)) from hbW)
      refine bodyPost_ret (v := .tuple #[.agg #[.slice (some ⟨g, 0, none⟩) n cap], .bool true]) (by simp [results, Try.results5, go_sem, d]) rfl ⟨g, cap, rfl, by omega, hXW, hdW⟩
end Go.Proofs.Ytchchigiafacbab

/- Words of a memory cleared, by the specification and by the program: the same. -/
import Derived.Test.YtjojildjnafgiaaMemCopy
import Derived.Test.YtjojildjnafgiaaMemSpec
import Derived.Deep.Cut
namespace Go.Proofs.Ytjojildjnafgiaa
open Go.RowKit
set_option linter.unusedVariables false
set_option linter.unusedSimpArgs false

def clr (l : List Wd) (lo hi : Nat) : List Wd := l.take lo ++ (List.replicate (hi - lo) zeroW ++ l.drop hi)

theorem clr_len {l : List Wd} {lo hi : Nat} (h1 : lo ≤ hi) (h2 : hi ≤ l.length) : (clr l lo hi).length = l.length := by simp [clr]; omega
theorem clr_start (l : List Wd) (lo : Nat) : clr l lo lo = l := by simp [clr]
theorem clr_step {l : List Wd} {lo k : Nat} (h1 : lo ≤ k) (h2 : k < l.length) : (clr l lo k).set k zeroW = clr l lo (k + 1) := by
  have e : l.drop k = l[k] :: l.drop (k + 1) := by rw [List.drop_eq_getElem_cons h2]
  rw [clr, List.set_append_right _ _ (by simp; omega), List.length_take, Nat.min_eq_left (by omega), List.set_append_right _ _ (by simp), List.length_replicate, Nat.sub_self, e, List.set_cons_zero, clr, show k + 1 - lo = (k - lo) + 1 by omega, List.replicate_succ', List.append_assoc]
  rfl

theorem flat_take (l : List Wd) (k : Nat) : (flat l).take (k * 7) = flat (l.take k) := by
  by_cases hk : k ≤ l.length
  · have h := flat_append (l.take k) (l.drop k)
    rw [List.take_append_drop] at h
    rw [h, List.take_left' (by rw [flat_len, List.length_take, Nat.min_eq_left hk])]
  · rw [List.take_of_length_le (by rw [flat_len]; omega), List.take_of_length_le (by omega)]
theorem flat_drop (l : List Wd) (k : Nat) : (flat l).drop (k * 7) = flat (l.drop k) := by
  by_cases hk : k ≤ l.length
  · have h := flat_append (l.take k) (l.drop k)
    rw [List.take_append_drop] at h
    rw [h, List.drop_left' (by rw [flat_len, List.length_take, Nat.min_eq_left hk])]
  · rw [List.drop_of_length_le (by rw [flat_len]; omega), List.drop_of_length_le (by omega)]; rfl
theorem flat_clr (l : List Wd) (lo hi : Nat) : (flat l).take (lo * 7) ++ flat (List.replicate (hi - lo) zeroW) ++ (flat l).drop (hi * 7) = flat (clr l lo hi) := by
  rw [clr, flat_append, flat_append, flat_take, flat_drop, List.append_assoc]

theorem run_clearW (w : World) (ty : TypeId) (g o m c : Nat) (cur : List Value) (t : TypeId) (hm : 0 < m)
    (hg : w.heap[g]? = some (.cells cur.toArray t (0, 0))) (hfit : o + m * 7 ≤ cur.length) :
    (Builtin.clear_ #[23] ty #[.slice (some ⟨g, o, none⟩) m c]).run Try.prog w = .ok (.tuple #[]) (w.setRow g (cur.take o ++ flat (List.replicate m zeroW) ++ cur.drop (o + m * 7)).toArray) := by
  obtain ⟨m, rfl⟩ : ∃ k, m = k + 1 := ⟨m - 1, by omega⟩
  have zero : (zeroValue 29).run Try.prog w = .ok (.agg #[.bool false, .int .i64 0, .int .i64 0, .int .i64 0, .int .i64 0, .int .i64 0, .int .i64 0]) w := by kernel_rfl
  have hzc : (Builtin.zeroCells #[.bool false, .int .i64 0, .int .i64 0, .int .i64 0, .int .i64 0, .int .i64 0, .int .i64 0] (m + 1)).toList = flat (List.replicate (m + 1) zeroW) := made_flat (m + 1)
  have hst := run_storeCells_at Try.prog g o t (flat (List.replicate (m + 1) zeroW)) 0 cur.toArray w hg (by rw [flat_len]; simpa using hfit) (flat_one _)
  simp only [flat_len, List.length_replicate, Nat.add_zero] at hst
  simp [Builtin.clear_, run_underlying Try.underlying23, zero, Value.cells, hzc, hst, Result.andThen]

theorem wpList_clearW {w : World} {ops : Array Oper} {rest : List Oper} {o : Oper} {a : Act} {Q : Exit → Act → World → Prop} (hgd : o.guard = none) (x : Operand)
    (ho : o.op = .call { callee := .builtin .clear, args := #[x], argTypes := #[23] })
    (g off m c : Nat) (hx : a.eval x = .slice (some ⟨g, off, none⟩) m c) (hm : 0 < m) (cur : List Value) (t : TypeId) (hg : w.heap[g]? = some (.cells cur.toArray t (0, 0))) (hfit : off + m * 7 ≤ cur.length)
    (h : ∀ w', Hid (w' = w.setRow g (cur.take off ++ flat (List.replicate m zeroW) ++ cur.drop (off + m * 7)).toArray) → wpList Try.prog ops Q rest (a.put o.dst (.tuple #[])) w') : wpList Try.prog ops Q (o :: rest) a w := by
  refine wpList_plain hgd fun K hK => ?_
  have hrun := run_clearW w o.type g off m c cur t hm hg hfit
  unfold Oper.wp
  simp only [execOp, ho, resolve, invoke, builtin]
  simp [hx, hrun, Result.andThen]
  refine hK _ _ (h _ ?_)
  show _ = _
  rw [List.append_assoc]

theorem wpList_clearW0 {w : World} {ops : Array Oper} {rest : List Oper} {o : Oper} {a : Act} {Q : Exit → Act → World → Prop} (hgd : o.guard = none) (x : Operand)
    (ho : o.op = .call { callee := .builtin .clear, args := #[x], argTypes := #[23] })
    (ad : Option Addr) (c : Nat) (hx : a.eval x = .slice ad 0 c)
    (h : wpList Try.prog ops Q rest (a.put o.dst (.tuple #[])) w) : wpList Try.prog ops Q (o :: rest) a w := by
  refine wpList_plain hgd fun K hK => ?_
  have hrun : (Builtin.clear_ #[23] o.type #[.slice ad 0 c]).run Try.prog w = .ok (.tuple #[]) w := by
    cases ad <;> simp [Builtin.clear_, run_underlying Try.underlying23, Result.andThen]
  unfold Oper.wp
  simp [execOp, ho, resolve, invoke, builtin, hx, hrun, Result.andThen]
  exact hK _ _ h

set_option maxRecDepth 100000 in
set_option maxHeartbeats 4000000 in
theorem wipeM (gz g n c : Nat) (l : List Wd) (lo hi : Nat) (w : World) (cz : w.cell? ⟨gz, 0, none⟩ = some (.slice (some ⟨g, 0, none⟩) n n)) (h : WB w g l) (hl : l.length = n) (h1 : lo ≤ hi) (h2 : hi ≤ n) (hn : n ≤ 1048576) :
    Calls Try.prog 9 #[.pointer (some ⟨gz, 0, none⟩), .int .i64 lo, .int .i64 hi] w fun e w' => e = .returned (.tuple #[]) ∧ WB w' g (clr l lo hi) ∧ But w w' g := by
  have H : Hid (WB w g l) := h
  have Hl : Hid (l.length = n) := hl
  clear h hl
  rcases Nat.eq_or_lt_of_le h1 with he | hlt
  · subst he
    have hz : ((lo : Int) - (lo : Int)).toNat = 0 := by omega
    rcases Nat.eq_or_lt_of_le h2 with he | hlt
    · subst he
      go_enter Try.func9, Try.ntmps9
      go_wp2_with (refine wpList_clearW0 rfl (.tmp 12) rfl _ _ rfl ?_)
      go_end0
      exact ⟨rfl, by rw [clr_start]; exact H.out, But.refl _ _⟩
    · go_enter Try.func9, Try.ntmps9
      go_wp2_with (refine wpList_clearW0 rfl (.tmp 12) rfl _ _ rfl ?_)
      go_end0
      exact ⟨rfl, by rw [clr_start]; exact H.out, But.refl _ _⟩
  · have hlt' : lo < n := by omega
    have hfit : Hid (lo * 7 + (hi - lo) * 7 ≤ (flat l).length) := by show _ ≤ _; rw [flat_len, Hl.out]; omega
    have hend : Hid ((flat l).take (lo * 7) ++ flat (List.replicate (hi - lo) zeroW) ++ (flat l).drop (lo * 7 + (hi - lo) * 7) = flat (clr l lo hi)) := by
      show _ = _
      rw [← flat_clr, show lo * 7 + (hi - lo) * 7 = hi * 7 by omega]
    go_enter Try.func9, Try.ntmps9
    go_wp2_with (refine wpList_clearW rfl (.tmp 12) rfl g (lo * 7) (hi - lo) (n - lo) rfl (by omega) (flat l) 29 H.out hfit.out ?_)
    intro w2 he2
    have e2 := he2.out
    rw [← List.append_assoc, hend.out] at e2
    have hB2 : WB w2 g (clr l lo hi) := by rw [e2]; exact setRow_heap w g _ _ 29 _ H.out
    have hbut : But w w2 g := by
      rw [e2]
      exact ⟨below_setRow (Below.refl _ _) (Nat.le_refl _) _, fun k hk hne => setRow_other w g k _ hne⟩
    clear e2 he2 hend hfit H
    go_wp2_with fail
    go_end0
    exact ⟨rfl, hB2, hbut⟩

def clrB (l : List Wd) (lo hi : Int) : Bool := memB l && (decide (0 ≤ lo) && (decide (lo ≤ hi) && decide (hi ≤ (l.length : Int))))

theorem clrB_yes {l : List Wd} {lo hi : Int} (h : clrB l lo hi = true) : memB l = true ∧ ∃ a b : Nat, lo = a ∧ hi = b ∧ a ≤ b ∧ b ≤ l.length := by
  simp only [clrB, Bool.and_eq_true, decide_eq_true_eq] at h
  obtain ⟨h0, h1, h2, h3⟩ := h
  obtain ⟨a, rfl⟩ := Int.eq_ofNat_of_zero_le h1
  obtain ⟨b, rfl⟩ := Int.eq_ofNat_of_zero_le (show 0 ≤ hi by omega)
  exact ⟨h0, a, b, rfl, rfl, by omega, by omega⟩

theorem clrB_no {l : List Wd} {lo hi : Int} (h : clrB l lo hi = false) (hm : memB l = true) : ¬ (0 ≤ lo ∧ lo ≤ hi ∧ hi ≤ (l.length : Int)) := by
  rintro ⟨h1, h2, h3⟩
  simp [clrB, hm, h1, h2, h3] at h

end Go.Proofs.Ytjojildjnafgiaa

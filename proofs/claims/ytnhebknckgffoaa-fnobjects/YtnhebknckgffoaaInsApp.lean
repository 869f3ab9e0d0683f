/- Instructions appended to a row of one's own. -/
import Derived.Test.YtnhebknckgffoaaInsRow
namespace Go.Proofs.Ytnhebknckgffoaa
open Go.RowKit
set_option linter.unusedVariables false

theorem flatI_append (l m : List In6) : flatI (l ++ m) = flatI l ++ flatI m := by
  induction l with
  | nil => rfl
  | cons x l ih => simp [flatI, ih]

theorem flatI_one (l : List In6) : ∀ u ∈ flatI l, u.oneCell' = true := by
  induction l with
  | nil => intro u hu; cases hu
  | cons x l ih =>
    intro u hu
    rcases List.mem_append.1 (show u ∈ x.vals ++ flatI l from hu) with h | h
    · simp [In6.vals] at h; rcases h with e | e | e | e | e | e <;> subst e <;> rfl
    · exact ih u h

theorem wpList_appendIs {w : World} {ops : Array Oper} {rest : List Oper} {o : Oper} {a : Act} {Q : Exit → Act → World → Prop} (hgd : o.guard = none) (s x : Operand)
    (ho : o.op = .call { callee := .builtin .append, args := #[s, x], argTypes := #[90, 90] })
    (base : Nat) (v : Value) (n : Nat) (l : List In6) (hs : a.eval s = v) (hown : w.ownsRow base 92 6 v n (flatI l))
    (g m : Nat) (y : List In6) (hx : a.eval x = .slice (some ⟨g, 0, none⟩) m m) (hr : IB w g y) (hm : y.length = m)
    (hsz : n + m ≤ 1000) (hbase : base ≤ w.heap.size)
    (h : ∀ v' w', w'.ownsRow base 92 6 v' (n + m) (flatI (l ++ y)) → w.grownBy w' v.ownBlock → wpList Try.prog ops Q rest (a.put o.dst v') w') : wpList Try.prog ops Q (o :: rest) a w := by
  obtain ⟨i0, hi, hz0, hz1, hz2⟩ := info_parts infoI
  refine wpList_append_own w hgd s x 90 ho base 92 i0 (.agg #[.int .i64 0, .int .i64 0, .int .i64 0, .int .i64 0, .int .i64 0, .int .i64 0]) 6 48 Try.underlying90 hi hz0 hz1 hz2 rfl (by decide) v n _ hs hown ⟨g, 0, none⟩ m m (flatI y) hx (by rw [flatI_len, hm]) ?_ (flatI_one y) (by unfold maxLen; omega) (by omega) hbase ?_
  · intro j u hu
    rw [Addr.add_lit, cell_of_row w g (0 + j) _ _ (0, 0) hr]
    simpa using hu
  · intro v' w' ho' hg' _
    exact h v' w' (by rw [flatI_append]; exact ho') hg'
end Go.Proofs.Ytnhebknckgffoaa

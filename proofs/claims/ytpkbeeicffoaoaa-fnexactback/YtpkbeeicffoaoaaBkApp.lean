/- append of an action, and of another's arguments. No function is walked here. -/
import Derived.Test.YtpkbeeicffoaoaaBkOwn
import Derived.Test.YtpkbeeicffoaoaaRf
import Derived.Laws.AppendOwnNone
namespace Go.Proofs.Ytpkbeeicffoaoaa
open Go.RowKit Go.Shelf
set_option linter.unusedVariables false

theorem ag_cells {w : World} {b : Nat} : ∀ {l : List Ag} {off : Nat}, RdRows w b 2 off (l.map Ag.fl) → ∀ j u, (flatG l)[j]? = some u → w.cell? ⟨b, off + j, none⟩ = some u := by
  intro l
  induction l with
  | nil => intro off _ j u h; simp [flatG] at h
  | cons x l ih =>
    intro off h j u hu
    obtain ⟨⟨⟨v0, h0, e0⟩, ⟨v1, h1, e1⟩, _⟩, h2⟩ := h
    match j, hu with
    | 0, hu =>
      simp only [flatG, Ag.vals, List.cons_append, List.getElem?_cons_zero, Option.some.injEq] at hu
      subst hu
      rw [Nat.add_zero, h0]; exact congrArg some e0
    | 1, hu =>
      simp only [flatG, Ag.vals, List.cons_append, List.getElem?_cons_succ, List.getElem?_cons_zero, Option.some.injEq] at hu
      subst hu
      rw [h1]; exact congrArg some e1
    | j + 2, hu =>
      have := ih h2 j u (by simpa [flatG, Ag.vals] using hu)
      rw [show off + (j + 2) = off + 2 + j by omega]; exact this

theorem wp_appendAg {w : World} {o : Oper} {a : Act} {K : Act → World → Prop} {Q : Exit → Act → World → Prop} (s x : Operand)
    (ho : o.op = .call { callee := .builtin .append, args := #[s, x], argTypes := #[48, 48] })
    (base : Nat) (v : Value) (n : Nat) (l : List Ag) (hs : a.eval s = v) (hown : w.ownsRow base 89 2 v n (flatG l))
    (ao : Option Addr) (m c : Nat) (l2 : List Ag) (hx : a.eval x = .slice ao m c) (hm : l2.length = m) (hr : LRow w ao c 2 (l2.map Ag.fl)) (hsz : n + m ≤ 1099511627776) (hbase : base ≤ w.heap.size)
    (h : ∀ v' w', w'.ownsRow base 89 2 v' (n + m) (flatG (l ++ l2)) → w.grownBy w' v.ownBlock → K (a.put o.dst v') w') : Oper.wp Try.prog o a w K Q := by
  obtain ⟨i0, hi, hz0, hz1, hz2⟩ := info_parts infoAg
  cases ao with
  | none =>
    obtain rfl := hr.nil rfl
    have hc := hr.cap
    rw [List.length_map] at hc
    obtain rfl : l2 = [] := List.eq_nil_of_length_eq_zero (by omega)
    obtain rfl : m = 0 := by simpa using hm.symm
    have hrun := run_append_owned_none (P := Try.prog) (w := w) base 48 o.type 89 i0 2 Try.underlying48 hi v n _ hown
    unfold Oper.wp execOp
    simp only [ho, resolve, invoke, builtin, Sem.run_bind, Sem.run_pure, Result.andThen_ok, List.map_toArray, List.map_cons, List.map_nil, hs, hx, hrun]
    exact h v w (by simpa using hown) (World.grownBy.refl _ _)
  | some ad =>
    refine wp_append_own w s x 48 ho base 89 i0 _ 2 16 Try.underlying48 hi hz0 hz1 hz2 rfl (by decide) v n _ hs hown ad m c (flatG l2) hx (by rw [flatG_len, hm]) ?_ (flatG_one _) (by unfold maxLen; omega) (by omega) hbase ?_
    · intro j u hu
      have hj := (List.getElem?_eq_some_iff.1 hu).1
      rw [flatG_len] at hj
      obtain ⟨b, off, e, hrr⟩ := hr.row (by rw [List.length_map]; omega)
      cases e
      rw [Addr.add_lit]
      exact ag_cells hrr j u hu
    · intro v' w' ho' hg' _
      exact h v' w' (by rw [flatG_append]; exact ho') hg'
theorem wpList_appendAg {w : World} {ops : Array Oper} {rest : List Oper} {o : Oper} {a : Act} {Q : Exit → Act → World → Prop} (hgd : o.guard = none) (s x : Operand)
    (ho : o.op = .call { callee := .builtin .append, args := #[s, x], argTypes := #[48, 48] })
    (base : Nat) (v : Value) (n : Nat) (l : List Ag) (hs : a.eval s = v) (hown : w.ownsRow base 89 2 v n (flatG l))
    (ao : Option Addr) (m c : Nat) (l2 : List Ag) (hx : a.eval x = .slice ao m c) (hm : l2.length = m) (hr : LRow w ao c 2 (l2.map Ag.fl)) (hsz : n + m ≤ 1099511627776) (hbase : base ≤ w.heap.size)
    (h : ∀ v' w', w'.ownsRow base 89 2 v' (n + m) (flatG (l ++ l2)) → w.grownBy w' v.ownBlock → wpList Try.prog ops Q rest (a.put o.dst v') w') : wpList Try.prog ops Q (o :: rest) a w :=
  wpList_plain hgd fun K hK => wp_appendAg s x ho base v n l hs hown ao m c l2 hx hm hr hsz hbase fun v' w' h2 h3 => hK _ _ (h v' w' h2 h3)

theorem vals_one {r : Ac} {c : Value} (hc : c.oneCell' = true) : ∀ v ∈ r.vals c, v.oneCell' = true := by
  intro v hv
  simp only [Ac.vals, List.mem_cons, List.not_mem_nil, or_false] at hv
  rcases hv with h | h | h | h | h
  all_goals (rw [h]; first | exact hc | rfl)
theorem wpList_appendAc {w : World} {ops : Array Oper} {rest : List Oper} {o : Oper} {a : Act} {Q : Exit → Act → World → Prop} (hgd : o.guard = none) (s x : Operand)
    (ho : o.op = .call { callee := .builtin .append, args := #[s, x], argTypes := #[29, 29] })
    (base : Nat) (v : Value) (n : Nat) (l : List (Value × Ac)) (hs : a.eval s = v) (hown : w.ownsRow base 53 5 v n (flatA l))
    (g : Nat) (c : Value) (r : Ac) (hx : a.eval x = .slice (some ⟨g, 0, none⟩) 1 1) (hr : Blk w g 53 (r.vals c)) (hc : c.oneCell' = true) (hsz : n ≤ 1073741824) (hbase : base ≤ w.heap.size)
    (h : ∀ v' w', w'.ownsRow base 53 5 v' (n + 1) (flatA l ++ r.vals c) → w.grownBy w' v.ownBlock → wpList Try.prog ops Q rest (a.put o.dst v') w') : wpList Try.prog ops Q (o :: rest) a w := by
  obtain ⟨i0, hi, hz0, hz1, hz2⟩ := info_parts infoAc
  refine wpList_append_own w hgd s x 29 ho base 53 i0 _ 5 56 Try.underlying29 hi hz0 hz1 hz2 rfl (by decide) v n _ hs hown ⟨g, 0, none⟩ 1 1 (r.vals c) hx rfl ?_ (vals_one hc) (by unfold maxLen; omega) (by omega) hbase ?_
  · intro j u hu
    rw [Addr.add_lit, Nat.zero_add]
    exact hr.cell hu
  · intro v' w' ho' hg' _
    exact h v' w' ho' hg'
theorem wpListIn_appendAc {F : Fence} {fn : Nat} {w : World} {ops : Array Oper} {rest : List Oper} {o : Oper} {a : Act} {Q : Exit → Act → World → Prop} (hgd : o.guard = none) (s x : Operand)
    (ho : o.op = .call { callee := .builtin .append, args := #[s, x], argTypes := #[29, 29] })
    (base : Nat) (v : Value) (n : Nat) (l : List (Value × Ac)) (hs : a.eval s = v) (hown : w.ownsRow base 53 5 v n (flatA l))
    (g : Nat) (c : Value) (r : Ac) (hx : a.eval x = .slice (some ⟨g, 0, none⟩) 1 1) (hr : Blk w g 53 (r.vals c)) (hc : c.oneCell' = true) (hsz : n ≤ 1073741824) (hbase : base ≤ w.heap.size)
    (h : ∀ v' w', w'.ownsRow base 53 5 v' (n + 1) (flatA l ++ r.vals c) → w.grownBy w' v.ownBlock → wpListIn F fn Try.prog ops Q rest (a.put o.dst v') w') : wpListIn F fn Try.prog ops Q (o :: rest) a w := by
  obtain ⟨i0, hi, hz0, hz1, hz2⟩ := info_parts infoAc
  refine wpListIn_append_own w hgd s x 29 ho base 53 i0 _ 5 56 Try.underlying29 hi hz0 hz1 hz2 rfl (by decide) v n _ hs hown ⟨g, 0, none⟩ 1 1 (r.vals c) hx rfl ?_ (vals_one hc) (by unfold maxLen; omega) (by omega) hbase ?_
  · intro j u hu
    rw [Addr.add_lit, Nat.zero_add]
    exact hr.cell hu
  · intro v' w' ho' hg' _
    exact h v' w' ho' hg'
end Go.Proofs.Ytpkbeeicffoaoaa

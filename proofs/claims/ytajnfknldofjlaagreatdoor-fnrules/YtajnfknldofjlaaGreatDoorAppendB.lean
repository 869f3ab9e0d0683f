/- append onto bytes that the call itself made: one law for whatever source, and for one byte. -/
import Derived.Test.YtajnfknldofjlaaGreatDoorBase
import Derived.Laws.AppendOwnNone
namespace Go.Proofs.YtajnfknldofjlaaGreatDoor
open Go.RowKit

theorem wpList_appendB {w : World} {ops : Array Oper} {rest : List Oper} {o : Oper} {a : Act} {Q : Exit → Act → World → Prop} (hgd : o.guard = none) (s x : Operand)
    (ho : o.op = .call { callee := .builtin .append, args := #[s, x], argTypes := #[22, 22] })
    (base : Nat) (v : Value) (n : Nat) (l : List Int) (hs : a.eval s = v) (hown : Own w base v n l)
    (ao : Option Addr) (m c : Nat) (l2 : List Int) (hx : a.eval x = .slice ao m c) (hr : BRow w ao m l2) (hnil : ao = none → c = 0)
    (hsz : n + m ≤ 1099511627776) (hbase : base ≤ w.heap.size)
    (h : ∀ v' w', Own w' base v' (n + m) (l ++ l2) → w.grownBy w' v.ownBlock → wpList Tryz.prog ops Q rest (a.put o.dst v') w') : wpList Tryz.prog ops Q (o :: rest) a w := by
  obtain ⟨i0, hi, hz0, hz1, hz2⟩ := info_parts info5
  have hby : ∀ x ∈ l ++ l2, 0 ≤ x ∧ x ≤ 255 := fun x hx => (List.mem_append.1 hx).elim (hown.2 x) (hr.2.1 x)
  cases ao with
  | none =>
    obtain rfl := hnil rfl
    have hm : m = 0 := by
      rcases Nat.eq_zero_or_pos m with h0 | hp
      · exact h0
      · obtain ⟨b, off, e, _⟩ := hr.2.2 hp; cases e
    subst hm
    obtain rfl : l2 = [] := List.eq_nil_of_length_eq_zero hr.1
    refine wpList_append_own_none hgd s x 22 ho base 5 i0 1 Tryz.underlying22 hi v n _ hs hown.1 hx ?_
    exact h v w (by simpa using hown) (World.grownBy.refl _ _)
  | some ad =>
    refine wpList_append_own w hgd s x 22 ho base 5 i0 (.int .u8 0) 1 1 Tryz.underlying22 hi hz0 hz1 hz2 rfl (by decide) v n _ hs hown.1 ad m c (l2.map (Value.int .u8)) hx (by simp [hr.1]) ?_ (ints_oneCell _ _) (by unfold maxLen; omega) (by omega) hbase ?_
    · intro j u hu
      have hp : 0 < (l2.map (Value.int .u8)).length := Nat.lt_of_le_of_lt (Nat.zero_le j) (List.getElem?_eq_some_iff.1 hu).1
      obtain ⟨ad', e, hc⟩ := hr.pos hp
      cases e
      exact hc j u hu
    · intro v' w' ho' hg' _
      exact h v' w' ⟨by simpa using ho', hby⟩ hg'

/-- A new block of one byte reads as that byte. -/
theorem one_row (w : World) (x : Int) (h0 : 0 ≤ x) (h1 : x ≤ 255) : BRow (w.alloc (.cells #[.int .u8 x] 5)) (some ⟨w.heap.size, 0, none⟩) 1 [x] := by
  refine ⟨rfl, by simp; omega, fun _ => ⟨w.heap.size, 0, rfl, fun i hi => ?_⟩⟩
  obtain rfl : i = 0 := by omega
  simp

theorem own_empty (w : World) : Own (w.alloc (.cells #[] 5)) w.heap.size (.slice (some ⟨w.heap.size, 0, none⟩) 0 0) 0 [] :=
  ⟨World.ownsRow_made w #[] 0 (Nat.le_refl _) (by unfold maxLen; omega) rfl, by simp⟩

theorem below_empty (w : World) : Below w.heap.size w (w.alloc (.cells #[] 5)) := (Below.refl _ _).alloc (Nat.le_refl _) _

theorem Own.alloc {w : World} {base : Nat} {v : Value} {n : Nat} {l : List Int} (h : Own w base v n l) (o : Obj) : Own (w.alloc o) base v n l := ⟨h.1.alloc o, h.2⟩

/-- Behind an append onto a row of one's own. -/
theorem Own.grown {w w' wx : World} {base : Nat} {v : Value} {n : Nat} {l : List Int} (h : Own w base v n l) (hg : w.grownBy w' v.ownBlock) (hb : Below base wx w) (hB : base ≤ w.heap.size) : Below base wx w' :=
  hb.grown hg hB (fun k hk => (h.1.lt k hk).1)
end Go.Proofs.YtajnfknldofjlaaGreatDoor

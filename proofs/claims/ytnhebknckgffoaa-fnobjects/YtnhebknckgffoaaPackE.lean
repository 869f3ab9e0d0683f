import Derived.Test.YtnhebknckgffoaaInsRow
import Derived.Test.YtnhebknckgffoaaAppendB
import Derived.Deep.RegionHeld3
import Derived.Deep.Cut
import Derived.Deep.CutRange
import Derived.Test.YtnhebknckgffoaaIns
/- A number of 32 bits as four bytes, low first: behind what was there (the model). -/
namespace Go.Proofs.Ytnhebknckgffoaa
open Go.RowKit
set_option linter.unusedVariables false
set_option linter.unusedSimpArgs false
set_option maxRecDepth 100000

def four (n : Int) : List Int := [n % 256, n % 4294967296 / 256 % 256, n % 4294967296 / 65536 % 256, n % 4294967296 / 16777216]
def enc6 (x : In6) : List Int := [x.o % 256, x.a % 256, x.b % 256, x.c % 256] ++ (four x.n ++ four x.m)

/-- A new block of four bytes reads as these. -/
theorem four_row (w : World) (x0 x1 x2 x3 : Int) (h0 : 0 ≤ x0 ∧ x0 ≤ 255) (h1 : 0 ≤ x1 ∧ x1 ≤ 255) (h2 : 0 ≤ x2 ∧ x2 ≤ 255) (h3 : 0 ≤ x3 ∧ x3 ≤ 255) : BRow (w.alloc (.cells #[.int .u8 x0, .int .u8 x1, .int .u8 x2, .int .u8 x3] 5)) (some ⟨w.heap.size, 0, none⟩) 4 [x0, x1, x2, x3] := by
  refine ⟨rfl, ?_, fun _ => ⟨w.heap.size, 0, rfl, fun i hi => ?_⟩⟩
  · intro x hx
    simp only [List.mem_cons, List.not_mem_nil, or_false] at hx
    rcases hx with rfl | rfl | rfl | rfl <;> assumption
  · have : i = 0 ∨ i = 1 ∨ i = 2 ∨ i = 3 := by omega
    rcases this with rfl | rfl | rfl | rfl <;> simp

theorem four_bytes (n : Int) : (0 ≤ n % 256 ∧ n % 256 ≤ 255) ∧ (0 ≤ n % 4294967296 / 256 % 256 ∧ n % 4294967296 / 256 % 256 ≤ 255) ∧ (0 ≤ n % 4294967296 / 65536 % 256 ∧ n % 4294967296 / 65536 % 256 ≤ 255) ∧ (0 ≤ n % 4294967296 / 16777216 ∧ n % 4294967296 / 16777216 ≤ 255) := by omega

set_option maxHeartbeats 4000000 in
theorem fourM (base : Nat) (v : Value) (n : Nat) (l : List Int) (m : Int) (w wx : World) (h : Own w base v n l) (hb : Below base wx w) (hB : base ≤ w.heap.size) (hn : n ≤ 1073741824) :
    Calls Try.prog 64 #[v, .int .i64 m] w fun e w' => ∃ v', e = .returned v' ∧ Own w' base v' (n + 4) (l ++ four m) ∧ Below base wx w' ∧ base ≤ w'.heap.size := by
  obtain ⟨b0, b1, b2, b3⟩ := four_bytes m
  have HO : Hid (Own w base v n l) := h
  have HB : Hid (Below base wx w) := hb
  clear h hb
  go_enter Try.func64, Try.ntmps64
  go_wp2_with (at_builtin; refine wpList_appendB rfl _ _ rfl base _ n l rfl (HO.out.alloc _) _ 4 4 _ rfl (four_row _ _ _ _ _ b0 b1 b2 b3) (by intro hh; cases hh) (by omega) (by simp; omega) ?_)
  intro v2 w2 ho2 hg2
  have hb2 := (HO.out.alloc _).grown hg2 (HB.out.alloc hB _) (by simp; omega)
  have hs2 := hg2.size
  simp at hs2
  clear hg2
  go_wp2
  go_ret
  exact ⟨_, rfl, ho2, hb2, by omega⟩
end Go.Proofs.Ytnhebknckgffoaa

/- The bytes of instructions, twelve each (the model). -/
namespace Go.Proofs.Ytnhebknckgffoaa
open Go.RowKit
set_option linter.unusedVariables false
set_option linter.unusedSimpArgs false
set_option maxRecDepth 100000

def encL (l : List In6) : List Int := l.flatMap enc6

theorem enc6_len (x : In6) : (enc6 x).length = 12 := rfl
theorem encL_len (l : List In6) : (encL l).length = 12 * l.length := by
  induction l with
  | nil => rfl
  | cons x l ih => simp only [encL, List.flatMap_cons, List.length_append, enc6_len, List.length_cons] at *; omega
theorem encL_next {l : List In6} {k : Nat} {x : In6} (h : l[k]? = some x) : encL (l.take (k + 1)) = encL (l.take k) ++ enc6 x := by
  obtain ⟨hk, rfl⟩ := List.getElem?_eq_some_iff.1 h
  unfold encL
  rw [List.take_succ_eq_append_getElem hk, List.flatMap_append]
  simp only [List.flatMap_cons, List.flatMap_nil, List.append_nil]

/-- append, as one operation of a drawn region. -/
theorem wp_appendB {w : World} {o : Oper} {a : Act} {K : Act → World → Prop} {Q : Exit → Act → World → Prop} (s x : Operand)
    (ho : o.op = .call { callee := .builtin .append, args := #[s, x], argTypes := #[22, 22] })
    (base : Nat) (v : Value) (n : Nat) (l : List Int) (hs : a.eval s = v) (hown : Own w base v n l)
    (ad : Addr) (m c : Nat) (l2 : List Int) (hx : a.eval x = .slice (some ad) m c) (hr : BRow w (some ad) m l2)
    (hsz : n + m ≤ 1099511627776) (hbase : base ≤ w.heap.size)
    (h : ∀ v' w', Own w' base v' (n + m) (l ++ l2) → w.grownBy w' v.ownBlock → K (a.put o.dst v') w') : Oper.wp Try.prog o a w K Q := by
  obtain ⟨i0, hi, hz0, hz1, hz2⟩ := info_parts info5
  have hby : ∀ x ∈ l ++ l2, 0 ≤ x ∧ x ≤ 255 := fun x hx => (List.mem_append.1 hx).elim (hown.2 x) (hr.2.1 x)
  refine wp_append_own w s x 22 ho base 5 i0 (.int .u8 0) 1 1 Try.underlying22 hi hz0 hz1 hz2 rfl (by decide) v n _ hs hown.1 ad m c (l2.map (Value.int .u8)) hx (by simp [hr.1]) ?_ (ints_oneCell _ _) (by unfold maxLen; omega) (by omega) hbase ?_
  · intro j u hu
    have hp : 0 < (l2.map (Value.int .u8)).length := Nat.lt_of_le_of_lt (Nat.zero_le j) (List.getElem?_eq_some_iff.1 hu).1
    obtain ⟨ad', e, hc⟩ := hr.pos hp
    cases e
    exact hc j u hu
  · intro v' w' ho' hg' _
    exact h v' w' ⟨by simpa using ho', hby⟩ hg'

theorem u8_in (x : Int) : 0 ≤ IntKind.u8.wrap x ∧ IntKind.u8.wrap x ≤ 255 := by rw [IntKind.wrap_u8]; omega

theorem Own.drew {w : World} {base : Nat} {v : Value} {n : Nat} {l : List Int} (h : Own w base v n l) : Own w.drew base v n l := h
theorem own_nil (w : World) (base : Nat) : Own w base (.slice none 0 0) 0 [] := ⟨⟨rfl, .inl ⟨rfl, rfl⟩⟩, by simp⟩
theorem own_cast {w : World} {base : Nat} {v : Value} {n m : Nat} {l k : List Int} (h : Own w base v n l) (e : n = m) (e2 : l = k) : Own w base v m k := by subst e; subst e2; exact h

set_option maxHeartbeats 8000000 in
theorem bytesM (b off n c : Nat) (l : List In6) (w : World) (h : IRow w (some ⟨b, off, none⟩) n l) (hp : 0 < n) (hn : n ≤ 4000) :
    Calls Try.prog 58 #[.slice (some ⟨b, off, none⟩) n c] w fun e w' => ∃ v, e = .returned v ∧ Own w' w.heap.size v (12 * n) (encL l) ∧ Below w.heap.size w w' := by
  have Hl : Hid (l.length = n) := h.1
  have HI : Hid (IRow w (some ⟨b, off, none⟩) n l) := h
  have hbl : b < w.heap.size := by
    obtain ⟨x, hx, p0, _⟩ := h.el hp
    exact World.block_lt_of_cell? w _ p0
  clear h
  go_enter Try.func58, Try.ntmps58
  go_wp2_with fail
  go_loopw [3, 4] (fun out i wr => ∃ k : Nat, k ≤ n ∧ i = .int .i64 k ∧ Hid (Own wr w.heap.size out (12 * k) (encL (l.take k))) ∧ Hid (Below w.heap.size w wr)) (fun _ i _ => n - (intOf i).toNat)
  case atStart => exact ⟨0, Nat.zero_le _, rfl, own_nil _ _, Below.refl _ _⟩
  case round =>
    obtain ⟨k, hk, rfl, ho, hb⟩ := hrel
    by_cases hlt : k < n
    · obtain ⟨x, hx, p0, p1, p2, p3, p4, p5⟩ := IRow.el (IRow.below (show IRow w (some ⟨b, off, none⟩) n l from HI.out) hb.out) hlt
      have HX : Hid _ := hx
      have HS : Hid (∀ {wx : World}, Below w.heap.size w wx → wx.cell? ⟨b, off + k * 6, none⟩ = some (.int .i64 x.o) ∧ wx.cell? ⟨b, off + k * 6 + 1, none⟩ = some (.int .i64 x.a) ∧ wx.cell? ⟨b, off + k * 6 + 2, none⟩ = some (.int .i64 x.b) ∧ wx.cell? ⟨b, off + k * 6 + 3, none⟩ = some (.int .i64 x.c) ∧ wx.cell? ⟨b, off + k * 6 + 4, none⟩ = some (.int .i64 x.n) ∧ wx.cell? ⟨b, off + k * 6 + 5, none⟩ = some (.int .i64 x.m)) := by
        intro wx hbx
        have e1 : ∀ j, wx.cell? ⟨b, j, none⟩ = wr.cell? ⟨b, j, none⟩ := fun j => (hbx.cell (p := ⟨b, j, none⟩) hbl).trans (hb.out.cell (p := ⟨b, j, none⟩) hbl).symm
        simp only [e1]
        exact ⟨p0, p1, p2, p3, p4, p5⟩
      clear hx p0 p1 p2 p3 p4 p5
      go_upto_region 5 with fail
      have HB0 : Hid (Below w.heap.size wr wr.drew) := (Below.refl _ _).drew
      have HO0 : Hid (Own wr.drew w.heap.size u3 (12 * k) (encL (l.take k))) := ho.out
      have HW0 : Hid (Below w.heap.size w wr.drew) := hb.out.drew
      refine wp_region_held_drew (S := fun wx => wx.cell? ⟨b, off + k * 6, none⟩ = some (.int .i64 x.o) ∧ wx.cell? ⟨b, off + k * 6 + 1, none⟩ = some (.int .i64 x.a) ∧ wx.cell? ⟨b, off + k * 6 + 2, none⟩ = some (.int .i64 x.b) ∧ wx.cell? ⟨b, off + k * 6 + 3, none⟩ = some (.int .i64 x.c) ∧ wx.cell? ⟨b, off + k * 6 + 4, none⟩ = some (.int .i64 x.n) ∧ wx.cell? ⟨b, off + k * 6 + 5, none⟩ = some (.int .i64 x.m)) (by kernel_rfl) (HS.out HW0.out) (fun hHeld => ?_)
      generalize wr.drew = wS at HB0 HO0 HW0 hHeld ⊢
      have hs0 : w.heap.size ≤ wS.heap.size := HW0.out.size
      refine wpAnyH_take (i := 0) (oi := ?o501) (v := ?v501) ?i501 (by kernel_rfl) (by kernel_rfl) (by kernel_rfl) ?q501 ?y501 (hHeld) ?r501
      case i501 => exact rfl
      case q501 => exact (fun _ _ _ h => h)
      case y501 =>
        refine Or.inl ⟨by rfl, ?_⟩
        intro w hSw
        (try dsimp only at hSw)
        go_simp
        first | done | rfl
      try simp only [Act.put, List.getElem_toArray, List.getElem_cons_zero, List.getElem_cons_succ, List.setIfInBounds_toArray, List.set_cons_zero, List.set_cons_succ]
      refine wpAnyH_take (i := 1) (oi := ?o502) (v := ?v502) ?i502 (by kernel_rfl) (by kernel_rfl) (by kernel_rfl) ?q502 ?y502 (hHeld) ?r502
      case i502 => exact rfl
      case q502 => exact (fun _ _ _ h => h)
      case y502 =>
        refine Or.inl ⟨by rfl, ?_⟩
        intro w hSw
        (try dsimp only at hSw)
        go_simp
        first | done | rfl
      try simp only [Act.put, List.getElem_toArray, List.getElem_cons_zero, List.getElem_cons_succ, List.setIfInBounds_toArray, List.set_cons_zero, List.set_cons_succ]
      refine wpAnyH_take (i := 2) (oi := ?o503) (v := ?v503) ?i503 (by kernel_rfl) (by kernel_rfl) (by kernel_rfl) ?q503 ?y503 (hHeld) ?r503
      case i503 => exact rfl
      case q503 => exact (fun _ _ _ h => h)
      case y503 =>
        refine Or.inl ⟨by rfl, ?_⟩
        intro w hSw
        (try dsimp only at hSw)
        go_simp
        first | done | rfl
      try simp only [Act.put, List.getElem_toArray, List.getElem_cons_zero, List.getElem_cons_succ, List.setIfInBounds_toArray, List.set_cons_zero, List.set_cons_succ]
      refine wpAnyH_take (i := 3) (oi := ?o504) (v := ?v504) ?i504 (by kernel_rfl) (by kernel_rfl) (by kernel_rfl) ?q504 ?y504 (hHeld) ?r504
      case i504 => exact rfl
      case q504 => exact (fun _ _ _ h => h)
      case y504 =>
        refine Or.inl ⟨by rfl, ?_⟩
        intro w hSw
        (try dsimp only at hSw)
        go_simp
        first | done | rfl
      try simp only [Act.put, List.getElem_toArray, List.getElem_cons_zero, List.getElem_cons_succ, List.setIfInBounds_toArray, List.set_cons_zero, List.set_cons_succ]
      refine wpAnyH_take (i := 4) (oi := ?o505) (v := ?v505) ?i505 (by kernel_rfl) (by kernel_rfl) (by kernel_rfl) ?q505 ?y505 (hHeld) ?r505
      case i505 => exact rfl
      case q505 => exact (fun _ _ _ h => h)
      case y505 =>
        refine Or.inl ⟨by rfl, ?_⟩
        intro w hSw
        (try dsimp only at hSw)
        go_simp
        first | done | rfl
      try simp only [Act.put, List.getElem_toArray, List.getElem_cons_zero, List.getElem_cons_succ, List.setIfInBounds_toArray, List.set_cons_zero, List.set_cons_succ]
      refine wpAnyH_take (i := 5) (oi := ?o506) (v := ?v506) ?i506 (by kernel_rfl) (by kernel_rfl) (by kernel_rfl) ?q506 ?y506 (hHeld) ?r506
      case i506 => exact rfl
      case q506 => exact (fun _ _ _ h => h)
      case y506 =>
        refine Or.inl ⟨by rfl, ?_⟩
        intro w hSw
        (try dsimp only at hSw)
        go_simp
        first | done | rfl
      try simp only [Act.put, List.getElem_toArray, List.getElem_cons_zero, List.getElem_cons_succ, List.setIfInBounds_toArray, List.set_cons_zero, List.set_cons_succ]
      refine wpAnyH_take (i := 6) (oi := ?o507) (v := ?v507) ?i507 (by kernel_rfl) (by kernel_rfl) (by kernel_rfl) ?q507 ?y507 (hHeld) ?r507
      case i507 => exact rfl
      case q507 => exact (fun _ _ _ h => h)
      case y507 =>
        refine Or.inl ⟨by rfl, ?_⟩
        intro w hSw
        (try dsimp only at hSw)
        go_simp
        first | done | rfl
      try simp only [Act.put, List.getElem_toArray, List.getElem_cons_zero, List.getElem_cons_succ, List.setIfInBounds_toArray, List.set_cons_zero, List.set_cons_succ]
      refine wpAnyH_take (i := 7) (oi := ?o508) (v := ?v508) ?i508 (by kernel_rfl) (by kernel_rfl) (by kernel_rfl) ?q508 ?y508 (hHeld) ?r508
      case i508 => exact rfl
      case q508 => exact (fun _ _ _ h => h)
      case y508 =>
        refine Or.inl ⟨by rfl, ?_⟩
        intro w hSw
        (try dsimp only at hSw)
        go_simp
        first | done | rfl
      try simp only [Act.put, List.getElem_toArray, List.getElem_cons_zero, List.getElem_cons_succ, List.setIfInBounds_toArray, List.set_cons_zero, List.set_cons_succ]
      refine wpAnyH_take (i := 8) (oi := ?o509) (v := ?v509) ?i509 (by kernel_rfl) (by kernel_rfl) (by kernel_rfl) ?q509 ?y509 (hHeld) ?r509
      case i509 => exact rfl
      case q509 => exact (fun _ _ _ h => h)
      case y509 =>
        refine Or.inl ⟨by rfl, ?_⟩
        intro w hSw
        (try dsimp only at hSw)
        go_simp
        first | done | rfl
      try simp only [Act.put, List.getElem_toArray, List.getElem_cons_zero, List.getElem_cons_succ, List.setIfInBounds_toArray, List.set_cons_zero, List.set_cons_succ]
      refine wpAnyH_take (i := 9) (oi := ?o510) (v := ?v510) ?i510 (by kernel_rfl) (by kernel_rfl) (by kernel_rfl) ?q510 ?y510 (hHeld) ?r510
      case i510 => exact rfl
      case q510 => exact (fun _ _ _ h => h)
      case y510 =>
        refine Or.inl ⟨by rfl, ?_⟩
        intro w hSw
        (try dsimp only at hSw)
        go_simp
        first | done | rfl
      try simp only [Act.put, List.getElem_toArray, List.getElem_cons_zero, List.getElem_cons_succ, List.setIfInBounds_toArray, List.set_cons_zero, List.set_cons_succ]
      refine wpAnyH_take (i := 10) (oi := ?o511) (v := ?v511) ?i511 (by kernel_rfl) (by kernel_rfl) (by kernel_rfl) ?q511 ?y511 (hHeld) ?r511
      case i511 => exact rfl
      case q511 => exact (fun _ _ _ h => h)
      case y511 =>
        refine Or.inl ⟨by rfl, ?_⟩
        intro w hSw
        (try dsimp only at hSw)
        go_simp
        first | done | rfl
      try simp only [Act.put, List.getElem_toArray, List.getElem_cons_zero, List.getElem_cons_succ, List.setIfInBounds_toArray, List.set_cons_zero, List.set_cons_succ]
      refine wpAnyH_take (i := 11) (oi := ?o512) (v := ?v512) ?i512 (by kernel_rfl) (by kernel_rfl) (by kernel_rfl) ?q512 ?y512 (hHeld) ?r512
      case i512 => exact rfl
      case q512 => exact (fun _ _ _ h => h)
      case y512 =>
        refine Or.inl ⟨by rfl, ?_⟩
        intro w hSw
        (try dsimp only at hSw)
        go_simp
        first | done | rfl
      try simp only [Act.put, List.getElem_toArray, List.getElem_cons_zero, List.getElem_cons_succ, List.setIfInBounds_toArray, List.set_cons_zero, List.set_cons_succ]
      refine wpAnyH_take (i := 12) (oi := ?o513) (v := ?v513) ?i513 (by kernel_rfl) (by kernel_rfl) (by kernel_rfl) ?q513 ?y513 (hHeld) ?r513
      case i513 => exact rfl
      case q513 => exact (fun _ _ _ h => h)
      case y513 =>
        refine Or.inl ⟨by rfl, ?_⟩
        intro w hSw
        (try dsimp only at hSw)
        go_simp
        first | done | rfl
      try simp only [Act.put, List.getElem_toArray, List.getElem_cons_zero, List.getElem_cons_succ, List.setIfInBounds_toArray, List.set_cons_zero, List.set_cons_succ]
      refine wpAnyH_take (i := 13) (oi := ?o514) (v := ?v514) ?i514 (by kernel_rfl) (by kernel_rfl) (by kernel_rfl) ?q514 ?y514 (hHeld) ?r514
      case i514 => exact rfl
      case q514 => exact (fun _ _ _ h => h)
      case y514 =>
        refine Or.inl ⟨by rfl, ?_⟩
        intro w hSw
        (try dsimp only at hSw)
        go_simp
        first | done | rfl
      try simp only [Act.put, List.getElem_toArray, List.getElem_cons_zero, List.getElem_cons_succ, List.setIfInBounds_toArray, List.set_cons_zero, List.set_cons_succ]
      refine wpAnyH_take (i := 14) (oi := ?o515) (v := ?v515) ?i515 (by kernel_rfl) (by kernel_rfl) (by kernel_rfl) ?q515 ?y515 (hHeld) ?r515
      case i515 => exact rfl
      case q515 => exact (fun _ _ _ h => h)
      case y515 =>
        refine Or.inl ⟨by rfl, ?_⟩
        intro w hSw
        (try dsimp only at hSw)
        go_simp
        first | done | rfl
      try simp only [Act.put, List.getElem_toArray, List.getElem_cons_zero, List.getElem_cons_succ, List.setIfInBounds_toArray, List.set_cons_zero, List.set_cons_succ]
      refine wpAnyH_take (i := 15) (oi := ?o516) (v := ?v516) ?i516 (by kernel_rfl) (by kernel_rfl) (by kernel_rfl) ?q516 ?y516 (hHeld) ?r516
      case i516 => exact rfl
      case q516 => exact (fun _ _ _ h => h)
      case y516 =>
        refine Or.inl ⟨by rfl, ?_⟩
        intro w hSw
        (try dsimp only at hSw)
        go_simp
        first | done | rfl
      try simp only [Act.put, List.getElem_toArray, List.getElem_cons_zero, List.getElem_cons_succ, List.setIfInBounds_toArray, List.set_cons_zero, List.set_cons_succ]
      refine wpAnyH_take (i := 16) (oi := ?o517) (v := ?v517) ?i517 (by kernel_rfl) (by kernel_rfl) (by kernel_rfl) ?q517 ?y517 (hHeld) ?r517
      case i517 => exact rfl
      case q517 => exact (fun _ _ _ h => h)
      case y517 =>
        refine Or.inl ⟨by rfl, ?_⟩
        intro w hSw
        (try dsimp only at hSw)
        go_simp
        first | done | rfl
      try simp only [Act.put, List.getElem_toArray, List.getElem_cons_zero, List.getElem_cons_succ, List.setIfInBounds_toArray, List.set_cons_zero, List.set_cons_succ]
      refine wpAnyH_take (i := 17) (oi := ?o518) (v := ?v518) ?i518 (by kernel_rfl) (by kernel_rfl) (by kernel_rfl) ?q518 ?y518 (hHeld) ?r518
      case i518 => exact rfl
      case q518 => exact (fun _ _ _ h => h)
      case y518 =>
        refine Or.inl ⟨by rfl, ?_⟩
        intro w hSw
        (try dsimp only at hSw)
        go_simp
        first | done | rfl
      try simp only [Act.put, List.getElem_toArray, List.getElem_cons_zero, List.getElem_cons_succ, List.setIfInBounds_toArray, List.set_cons_zero, List.set_cons_succ]
      refine wpAnyH_take (i := 18) (oi := ?o519) (v := ?v519) ?i519 (by kernel_rfl) (by kernel_rfl) (by kernel_rfl) ?q519 ?y519 (hHeld) ?r519
      case i519 => exact rfl
      case q519 => exact (fun _ _ _ h => h)
      case y519 =>
        refine Or.inl ⟨by rfl, ?_⟩
        intro w hSw
        (try dsimp only at hSw)
        go_simp
        first | done | rfl
      try simp only [Act.put, List.getElem_toArray, List.getElem_cons_zero, List.getElem_cons_succ, List.setIfInBounds_toArray, List.set_cons_zero, List.set_cons_succ]
      refine wpAnyH_take (i := 19) (oi := ?o520) (v := ?v520) ?i520 (by kernel_rfl) (by kernel_rfl) (by kernel_rfl) ?q520 ?y520 (hHeld) ?r520
      case i520 => exact rfl
      case q520 => exact (fun _ _ _ h => h)
      case y520 =>
        refine Or.inl ⟨by rfl, ?_⟩
        intro w hSw
        (try dsimp only at hSw)
        go_simp
        first | done | rfl
      try simp only [Act.put, List.getElem_toArray, List.getElem_cons_zero, List.getElem_cons_succ, List.setIfInBounds_toArray, List.set_cons_zero, List.set_cons_succ]
      refine wpAnyH_take (i := 20) (oi := ?o521) (v := ?v521) ?i521 (by kernel_rfl) (by kernel_rfl) (by kernel_rfl) ?q521 ?y521 (hHeld) ?r521
      case i521 => exact rfl
      case q521 => exact (fun _ _ _ h => h)
      case y521 =>
        refine Or.inl ⟨by rfl, ?_⟩
        intro w hSw
        (try dsimp only at hSw)
        go_simp
        first | done | rfl
      try simp only [Act.put, List.getElem_toArray, List.getElem_cons_zero, List.getElem_cons_succ, List.setIfInBounds_toArray, List.set_cons_zero, List.set_cons_succ]
      refine wpAnyH_take (i := 21) (oi := ?o522) (v := ?v522) ?i522 (by kernel_rfl) (by kernel_rfl) (by kernel_rfl) ?q522 ?y522 (hHeld) ?r522
      case i522 => exact rfl
      case q522 => exact (fun _ _ _ h => h)
      case y522 =>
        refine Or.inl ⟨by rfl, ?_⟩
        intro w hSw
        (try dsimp only at hSw)
        go_simp
        first | done | rfl
      try simp only [Act.put, List.getElem_toArray, List.getElem_cons_zero, List.getElem_cons_succ, List.setIfInBounds_toArray, List.set_cons_zero, List.set_cons_succ]
      refine wpAnyH_take (i := 22) (oi := ?o523) (v := ?v523) ?i523 (by kernel_rfl) (by kernel_rfl) (by kernel_rfl) ?q523 ?y523 (hHeld) ?r523
      case i523 => exact rfl
      case q523 => exact (fun _ _ _ h => h)
      case y523 =>
        refine Or.inl ⟨by rfl, ?_⟩
        intro w hSw
        (try dsimp only at hSw)
        go_simp
        first | done | rfl
      try simp only [Act.put, List.getElem_toArray, List.getElem_cons_zero, List.getElem_cons_succ, List.setIfInBounds_toArray, List.set_cons_zero, List.set_cons_succ]
      refine wpAnyH_take (i := 23) (oi := ?o524) (v := ?v524) ?i524 (by kernel_rfl) (by kernel_rfl) (by kernel_rfl) ?q524 ?y524 (hHeld) ?r524
      case i524 => exact rfl
      case q524 => exact (fun _ _ _ h => h)
      case y524 =>
        refine Or.inl ⟨by rfl, ?_⟩
        intro w hSw
        (try dsimp only at hSw)
        go_simp
        first | done | rfl
      try simp only [Act.put, List.getElem_toArray, List.getElem_cons_zero, List.getElem_cons_succ, List.setIfInBounds_toArray, List.set_cons_zero, List.set_cons_succ]
      refine wpAnyH_take (i := 24) (oi := ?o525) (v := ?v525) ?i525 (by kernel_rfl) (by kernel_rfl) (by kernel_rfl) ?q525 ?y525 (hHeld) ?r525
      case i525 => exact rfl
      case q525 => exact (fun _ _ _ h => h)
      case y525 =>
        refine Or.inl ⟨by rfl, ?_⟩
        intro w hSw
        (try dsimp only at hSw)
        go_simp
        first | done | rfl
      try simp only [Act.put, List.getElem_toArray, List.getElem_cons_zero, List.getElem_cons_succ, List.setIfInBounds_toArray, List.set_cons_zero, List.set_cons_succ]
      refine wpAnyH_ready (rs := [25]) (by kernel_rfl) (by simp) ?_
      refine AllReadyH.cons (i := 25) (o := ?o526) ?i526 (fun K hK => ?_) AllReadyH.nil
      case i526 => exact rfl
      go_simp
      have hr5 := four_row wS (IntKind.u8.wrap x.o) (IntKind.u8.wrap x.a) (IntKind.u8.wrap x.b) (IntKind.u8.wrap x.c) (u8_in _) (u8_in _) (u8_in _) (u8_in _)
      have ho5 := HO0.out.alloc (.cells #[.int .u8 (IntKind.u8.wrap x.o), .int .u8 (IntKind.u8.wrap x.a), .int .u8 (IntKind.u8.wrap x.b), .int .u8 (IntKind.u8.wrap x.c)] 5)
      have hb5 := HB0.out.alloc hs0 (.cells #[.int .u8 (IntKind.u8.wrap x.o), .int .u8 (IntKind.u8.wrap x.a), .int .u8 (IntKind.u8.wrap x.b), .int .u8 (IntKind.u8.wrap x.c)] 5)
      have hw5 := HW0.out.alloc hs0 (.cells #[.int .u8 (IntKind.u8.wrap x.o), .int .u8 (IntKind.u8.wrap x.a), .int .u8 (IntKind.u8.wrap x.b), .int .u8 (IntKind.u8.wrap x.c)] 5)
      generalize wS.alloc (.cells #[.int .u8 (IntKind.u8.wrap x.o), .int .u8 (IntKind.u8.wrap x.a), .int .u8 (IntKind.u8.wrap x.b), .int .u8 (IntKind.u8.wrap x.c)] 5) = w5 at *
      generalize wS.heap.size = g5 at *
      have HR5 : Hid (BRow w5 (some ⟨g5, 0, none⟩) 4 [IntKind.u8.wrap x.o, IntKind.u8.wrap x.a, IntKind.u8.wrap x.b, IntKind.u8.wrap x.c]) := hr5
      have HO5 : Hid (Own w5 w.heap.size u3 (12 * k) (encL (l.take k))) := ho5
      have HB5 : Hid _ := hb5
      have HW5 : Hid (Below w.heap.size w w5) := hw5
      clear hr5 ho5 hb5 hw5 HO0 HB0 HW0
      refine hK.out _ _ (HS.out HW5.out) (fun hHeld => ?_)
      clear hK K
      try simp only [Act.put, List.getElem_toArray, List.getElem_cons_zero, List.getElem_cons_succ, List.setIfInBounds_toArray, List.set_cons_zero, List.set_cons_succ]
      refine wpAnyH_ready (rs := [26]) (by kernel_rfl) (by simp) ?_
      refine AllReadyH.cons (i := 26) (o := ?oA) ?iA (fun K hK => ?_) AllReadyH.nil
      case iA => exact rfl
      rw [if_pos (by kernel_rfl)]
      refine wp_appendB _ _ rfl w.heap.size _ (12 * k) (encL (l.take k)) rfl HO5.out _ 4 4 _ rfl HR5.out (by omega) HW5.out.size ?_
      intro v6 w6 ho6 hg6
      have hb6 := HO5.out.grown hg6 HB5.out HW5.out.size
      have hw6 := HO5.out.grown hg6 HW5.out HW5.out.size
      have HO6 : Hid (Own w6 w.heap.size v6 (12 * k + 4) (encL (l.take k) ++ [IntKind.u8.wrap x.o, IntKind.u8.wrap x.a, IntKind.u8.wrap x.b, IntKind.u8.wrap x.c])) := ho6
      have HB6 : Hid (Below w.heap.size wr w6) := hb6
      have HW6 : Hid (Below w.heap.size w w6) := hw6
      clear ho6 hg6 hb6 hw6 HR5 HO5 HB5 HW5
      refine hK.out _ _ (HS.out HW6.out) (fun hHeld => ?_)
      clear hK K
      try simp only [Act.put, List.getElem_toArray, List.getElem_cons_zero, List.getElem_cons_succ, List.setIfInBounds_toArray, List.set_cons_zero, List.set_cons_succ]
      refine wpAnyH_take (i := 27) (oi := ?o527) (v := ?v527) ?i527 (by kernel_rfl) (by kernel_rfl) (by kernel_rfl) ?q527 ?y527 (hHeld) ?r527
      case i527 => exact rfl
      case q527 => exact (fun _ _ _ h => h)
      case y527 =>
        refine Or.inl ⟨by rfl, ?_⟩
        intro w hSw
        (try dsimp only at hSw)
        go_simp
        first | done | rfl
      try simp only [Act.put, List.getElem_toArray, List.getElem_cons_zero, List.getElem_cons_succ, List.setIfInBounds_toArray, List.set_cons_zero, List.set_cons_succ]
      refine wpAnyH_done (by kernel_rfl) ?_ _
      go_upto_region 6 with fail
      have HB7 : Hid (Below w.heap.size wr w6.drew) := HB6.out.drew
      have HO7 : Hid (Own w6.drew w.heap.size v6 (12 * k + 4) (encL (l.take k) ++ [IntKind.u8.wrap x.o, IntKind.u8.wrap x.a, IntKind.u8.wrap x.b, IntKind.u8.wrap x.c])) := HO6.out
      have HW7 : Hid (Below w.heap.size w w6.drew) := HW6.out.drew
      refine wp_region_held_drew (S := fun wx => wx.cell? ⟨b, off + k * 6, none⟩ = some (.int .i64 x.o) ∧ wx.cell? ⟨b, off + k * 6 + 1, none⟩ = some (.int .i64 x.a) ∧ wx.cell? ⟨b, off + k * 6 + 2, none⟩ = some (.int .i64 x.b) ∧ wx.cell? ⟨b, off + k * 6 + 3, none⟩ = some (.int .i64 x.c) ∧ wx.cell? ⟨b, off + k * 6 + 4, none⟩ = some (.int .i64 x.n) ∧ wx.cell? ⟨b, off + k * 6 + 5, none⟩ = some (.int .i64 x.m)) (by kernel_rfl) (HS.out HW7.out) (fun hHeld => ?_)
      generalize w6.drew = w7 at HB7 HO7 HW7 hHeld ⊢
      clear HB6 HO6 HW6
      refine wpAnyH_take (i := 0) (oi := ?o528) (v := ?v528) ?i528 (by kernel_rfl) (by kernel_rfl) (by kernel_rfl) ?q528 ?y528 (hHeld) ?r528
      case i528 => exact rfl
      case q528 => exact (fun _ _ _ h => h)
      case y528 =>
        refine Or.inl ⟨by rfl, ?_⟩
        intro w hSw
        (try dsimp only at hSw)
        go_simp
        first | done | rfl
      try simp only [Act.put, List.getElem_toArray, List.getElem_cons_zero, List.getElem_cons_succ, List.setIfInBounds_toArray, List.set_cons_zero, List.set_cons_succ]
      refine wpAnyH_take (i := 1) (oi := ?o529) (v := ?v529) ?i529 (by kernel_rfl) (by kernel_rfl) (by kernel_rfl) ?q529 ?y529 (hHeld) ?r529
      case i529 => exact rfl
      case q529 => exact (fun _ _ _ h => h)
      case y529 =>
        refine Or.inl ⟨by rfl, ?_⟩
        intro w hSw
        (try dsimp only at hSw)
        go_simp
        first | done | rfl
      try simp only [Act.put, List.getElem_toArray, List.getElem_cons_zero, List.getElem_cons_succ, List.setIfInBounds_toArray, List.set_cons_zero, List.set_cons_succ]
      refine wpAnyH_take (i := 2) (oi := ?o530) (v := ?v530) ?i530 (by kernel_rfl) (by kernel_rfl) (by kernel_rfl) ?q530 ?y530 (hHeld) ?r530
      case i530 => exact rfl
      case q530 => exact (fun _ _ _ h => h)
      case y530 =>
        refine Or.inl ⟨by rfl, ?_⟩
        intro w hSw
        (try dsimp only at hSw)
        go_simp
        first | done | rfl
      try simp only [Act.put, List.getElem_toArray, List.getElem_cons_zero, List.getElem_cons_succ, List.setIfInBounds_toArray, List.set_cons_zero, List.set_cons_succ]
      refine wpAnyH_take (i := 3) (oi := ?o531) (v := ?v531) ?i531 (by kernel_rfl) (by kernel_rfl) (by kernel_rfl) ?q531 ?y531 (hHeld) ?r531
      case i531 => exact rfl
      case q531 => exact (fun _ _ _ h => h)
      case y531 =>
        refine Or.inl ⟨by rfl, ?_⟩
        intro w hSw
        (try dsimp only at hSw)
        go_simp
        first | done | rfl
      try simp only [Act.put, List.getElem_toArray, List.getElem_cons_zero, List.getElem_cons_succ, List.setIfInBounds_toArray, List.set_cons_zero, List.set_cons_succ]
      refine wpAnyH_take (i := 4) (oi := ?o532) (v := ?v532) ?i532 (by kernel_rfl) (by kernel_rfl) (by kernel_rfl) ?q532 ?y532 (hHeld) ?r532
      case i532 => exact rfl
      case q532 => exact (fun _ _ _ h => h)
      case y532 =>
        refine Or.inl ⟨by rfl, ?_⟩
        intro w hSw
        (try dsimp only at hSw)
        go_simp
        first | done | rfl
      try simp only [Act.put, List.getElem_toArray, List.getElem_cons_zero, List.getElem_cons_succ, List.setIfInBounds_toArray, List.set_cons_zero, List.set_cons_succ]
      refine wpAnyH_take (i := 5) (oi := ?o533) (v := ?v533) ?i533 (by kernel_rfl) (by kernel_rfl) (by kernel_rfl) ?q533 ?y533 (hHeld) ?r533
      case i533 => exact rfl
      case q533 => exact (fun _ _ _ h => h)
      case y533 =>
        refine Or.inl ⟨by rfl, ?_⟩
        intro w hSw
        (try dsimp only at hSw)
        go_simp
        first | done | rfl
      try simp only [Act.put, List.getElem_toArray, List.getElem_cons_zero, List.getElem_cons_succ, List.setIfInBounds_toArray, List.set_cons_zero, List.set_cons_succ]
      refine wpAnyH_take (i := 7) (oi := ?o534) (v := ?v534) ?i534 (by kernel_rfl) (by kernel_rfl) (by kernel_rfl) ?q534 ?y534 (hHeld) ?r534
      case i534 => exact rfl
      case q534 => exact (fun _ _ _ h => h)
      case y534 =>
        refine Or.inl ⟨by rfl, ?_⟩
        intro w hSw
        (try dsimp only at hSw)
        go_simp
        first | done | rfl
      try simp only [Act.put, List.getElem_toArray, List.getElem_cons_zero, List.getElem_cons_succ, List.setIfInBounds_toArray, List.set_cons_zero, List.set_cons_succ]
      refine wpAnyH_take (i := 8) (oi := ?o535) (v := ?v535) ?i535 (by kernel_rfl) (by kernel_rfl) (by kernel_rfl) ?q535 ?y535 (hHeld) ?r535
      case i535 => exact rfl
      case q535 => exact (fun _ _ _ h => h)
      case y535 =>
        refine Or.inl ⟨by rfl, ?_⟩
        intro w hSw
        (try dsimp only at hSw)
        go_simp
        first | done | rfl
      try simp only [Act.put, List.getElem_toArray, List.getElem_cons_zero, List.getElem_cons_succ, List.setIfInBounds_toArray, List.set_cons_zero, List.set_cons_succ]
      refine wpAnyH_take (i := 9) (oi := ?o536) (v := ?v536) ?i536 (by kernel_rfl) (by kernel_rfl) (by kernel_rfl) ?q536 ?y536 (hHeld) ?r536
      case i536 => exact rfl
      case q536 => exact (fun _ _ _ h => h)
      case y536 =>
        refine Or.inl ⟨by rfl, ?_⟩
        intro w hSw
        (try dsimp only at hSw)
        go_simp
        first | done | rfl
      try simp only [Act.put, List.getElem_toArray, List.getElem_cons_zero, List.getElem_cons_succ, List.setIfInBounds_toArray, List.set_cons_zero, List.set_cons_succ]
      refine wpAnyH_take (i := 10) (oi := ?o537) (v := ?v537) ?i537 (by kernel_rfl) (by kernel_rfl) (by kernel_rfl) ?q537 ?y537 (hHeld) ?r537
      case i537 => exact rfl
      case q537 => exact (fun _ _ _ h => h)
      case y537 =>
        refine Or.inl ⟨by rfl, ?_⟩
        intro w hSw
        (try dsimp only at hSw)
        go_simp
        first | done | rfl
      try simp only [Act.put, List.getElem_toArray, List.getElem_cons_zero, List.getElem_cons_succ, List.setIfInBounds_toArray, List.set_cons_zero, List.set_cons_succ]
      refine wpAnyH_take (i := 11) (oi := ?o538) (v := ?v538) ?i538 (by kernel_rfl) (by kernel_rfl) (by kernel_rfl) ?q538 ?y538 (hHeld) ?r538
      case i538 => exact rfl
      case q538 => exact (fun _ _ _ h => h)
      case y538 =>
        refine Or.inl ⟨by rfl, ?_⟩
        intro w hSw
        (try dsimp only at hSw)
        go_simp
        first | done | rfl
      try simp only [Act.put, List.getElem_toArray, List.getElem_cons_zero, List.getElem_cons_succ, List.setIfInBounds_toArray, List.set_cons_zero, List.set_cons_succ]
      refine wpAnyH_ready (rs := [6]) (by kernel_rfl) (by simp) ?_
      refine AllReadyH.cons (i := 6) (o := ?o539) ?i539 (fun K hK => ?_) AllReadyH.nil
      case i539 => exact rfl
      go_simp
      (with_reducible refine (fourM w.heap.size v6 (12 * k + 4) _ x.n w7 w HO7.out HW7.out HW7.out.size (by omega)).mono ?_)
      rintro e w8 ⟨v8, rfl, ho8, hw8, hs8⟩
      have HO8 : Hid (Own w8 w.heap.size v8 (12 * k + 4 + 4) ((encL (l.take k) ++ [IntKind.u8.wrap x.o, IntKind.u8.wrap x.a, IntKind.u8.wrap x.b, IntKind.u8.wrap x.c]) ++ four x.n)) := ho8
      have HW8 : Hid (Below w.heap.size w w8) := hw8
      clear ho8 hw8 HO7 HW7
      go_wp2_with fail
      refine hK.out _ _ (HS.out HW8.out) (fun hHeld => ?_)
      clear hK K
      try simp only [Act.put, List.getElem_toArray, List.getElem_cons_zero, List.getElem_cons_succ, List.setIfInBounds_toArray, List.set_cons_zero, List.set_cons_succ]
      refine wpAnyH_ready (rs := [12]) (by kernel_rfl) (by simp) ?_
      refine AllReadyH.cons (i := 12) (o := ?o540) ?i540 (fun K hK => ?_) AllReadyH.nil
      case i540 => exact rfl
      go_simp
      (with_reducible refine (fourM w.heap.size v8 (12 * k + 4 + 4) _ x.m w8 w HO8.out HW8.out HW8.out.size (by omega)).mono ?_)
      rintro e w9 ⟨v9, rfl, ho9, hw9, hs9⟩
      have HO9 : Hid (Own w9 w.heap.size v9 (12 * (k + 1)) (encL (l.take (k + 1)))) := by
        refine own_cast ho9 (by omega) ?_
        rw [encL_next HX.out, enc6]
        simp only [IntKind.wrap_u8, List.append_assoc]
      have HW9 : Hid (Below w.heap.size w w9) := hw9
      clear ho9 hw9 HO8 HW8
      go_wp2_with fail
      refine hK.out _ _ (HS.out HW9.out) (fun hHeld => ?_)
      clear hK K
      try simp only [Act.put, List.getElem_toArray, List.getElem_cons_zero, List.getElem_cons_succ, List.setIfInBounds_toArray, List.set_cons_zero, List.set_cons_succ]
      refine wpAnyH_take (i := 13) (oi := ?o541) (v := ?v541) ?i541 (by kernel_rfl) (by kernel_rfl) (by kernel_rfl) ?q541 ?y541 (hHeld) ?r541
      case i541 => exact rfl
      case q541 => exact (fun _ _ _ h => h)
      case y541 =>
        refine Or.inl ⟨by rfl, ?_⟩
        intro w hSw
        (try dsimp only at hSw)
        go_simp
        first | done | rfl
      try simp only [Act.put, List.getElem_toArray, List.getElem_cons_zero, List.getElem_cons_succ, List.setIfInBounds_toArray, List.set_cons_zero, List.set_cons_succ]
      refine wpAnyH_done (by kernel_rfl) ?_ _
      go_wp2_with fail
      go_roundw
      case rel => exact ⟨k + 1, by omega, by go_num, HO9, HW9⟩
      case measure => simp [intOf]; omega
    · have : k = n := by omega
      subst this
      go_wp2_with fail
      go_ret
      exact ⟨_, rfl, by have := ho.out; rwa [List.take_of_length_le (by rw [Hl.out]; exact Nat.le_refl _)] at this, hb.out⟩
end Go.Proofs.Ytnhebknckgffoaa

/- What may be an instruction: InsOk, built and model. -/
namespace Go.Proofs.Ytnhebknckgffoaa
open Go.RowKit
set_option linter.unusedVariables false
set_option linter.unusedSimpArgs false
set_option maxRecDepth 100000

end Go.Proofs.Ytnhebknckgffoaa

/- Encode, the model: whole bytes just where every instruction may be one, and there are no more than MaxWords. -/
namespace Go.Proofs.Ytnhebknckgffoaa
open Go.RowKit
set_option linter.unusedVariables false
set_option linter.unusedSimpArgs false
set_option maxRecDepth 100000

def okI (x : In6) : Bool := insB x.o x.a x.b x.c x.n x.m
def encOk (l : List In6) (n : Nat) : Bool := decide (n ≤ 4000) && l.all okI
def encR (l : List In6) (n : Nat) : List Int := bif encOk l n then encL l else []

theorem bytes0 (a : Option Addr) (c : Nat) (w : World) :
    Calls Try.prog 58 #[.slice a 0 c] w fun e w' => e = .returned (.slice none 0 0) ∧ w' = w := by
  go_enter Try.func58, Try.ntmps58
  go_wp2_with fail
  refine wp_loop_rounds 1 ?_
  rw [rounds_succ]
  go_wp2_with fail
  go_ret
  exact ⟨rfl, rfl⟩

theorem bytesAll (a : Option Addr) (n c : Nat) (l : List In6) (w : World) (h : IRow w a n l) (hn : n ≤ 4000) :
    Calls Try.prog 58 #[.slice a n c] w fun e w' => ∃ v, e = .returned v ∧ Own w' w.heap.size v (12 * n) (encL l) ∧ Below w.heap.size w w' := by
  rcases Nat.eq_zero_or_pos n with h0 | hp
  · subst h0
    have : l = [] := List.length_eq_zero_iff.1 h.1
    subst this
    refine (bytes0 a c w).mono ?_
    rintro e w' ⟨rfl, rfl⟩
    exact ⟨_, rfl, own_nil _ _, Below.refl _ _⟩
  · obtain ⟨b, off, rfl, _⟩ := h.2 hp
    exact bytesM b off n c l w h hp hn

theorem all_take {l : List In6} {k : Nat} {x : In6} (h : (l.take k).all okI = true) (hx : l[k]? = some x) (ho : okI x = true) : (l.take (k + 1)).all okI = true := by
  obtain ⟨hk, rfl⟩ := List.getElem?_eq_some_iff.1 hx
  rw [List.take_succ_eq_append_getElem hk, List.all_append, h]
  simp [ho]

theorem ok_of_all {l : List In6} {k : Nat} {x : In6} (h : l.all okI = true) (hx : l[k]? = some x) : okI x = true :=
  List.all_eq_true.1 h x (List.mem_of_getElem? hx)

end Go.Proofs.Ytnhebknckgffoaa

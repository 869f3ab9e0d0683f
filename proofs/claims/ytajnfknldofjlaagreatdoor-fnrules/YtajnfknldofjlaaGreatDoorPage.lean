/- A text that is being written: bytes behind bytes. -/
import Derived.Test.YtajnfknldofjlaaGreatDoorModHead2
import Derived.Test.YtajnfknldofjlaaGreatDoorAppendB
import Derived.Test.YtajnfknldofjlaaGreatDoorBytesEq
import Derived.Lib.AppendStr
import Derived.Deep.RegionHeld3
import Derived.Test.YtajnfknldofjlaaGreatDoorTk
namespace Go.Proofs.YtajnfknldofjlaaGreatDoor
open Go.RowKit
set_option linter.unusedVariables false
set_option linter.unusedSimpArgs false
set_option maxRecDepth 100000

/-- The letters of a string, as ints. -/
def sI (s : ByteArray) : List Int := s.data.toList.map fun b => (b.toNat : Int)
theorem sI_byte (s : ByteArray) : ∀ x ∈ sI s, 0 ≤ x ∧ x ≤ 255 := by
  intro x hx
  obtain ⟨b, _, rfl⟩ := List.mem_map.1 hx
  have := b.toNat_lt
  omega

/-- A block of bytes. -/
def isBytes (o : Option Obj) : Prop := ∃ cs, o = some (.cells cs 5 (0, 0))

/-- Nothing that was there has changed, but blocks of bytes from base on, and the block x. -/
structure Wrote (base : Nat) (x : Option Nat) (w w' : World) : Prop where
  os : w'.os = w.os
  tape : w'.tape = w.tape
  output : w'.output = w.output
  size : w.heap.size ≤ w'.heap.size
  block : ∀ k, k < w.heap.size → (k < base ∨ ¬ isBytes w.heap[k]?) → some k ≠ x → w'.heap[k]? = w.heap[k]?

theorem Wrote.refl (base : Nat) (x : Option Nat) (w : World) : Wrote base x w w := ⟨rfl, rfl, rfl, Nat.le_refl _, fun _ _ _ _ => rfl⟩
theorem Wrote.trans {base : Nat} {x : Option Nat} {a b c : World} (h : Wrote base x a b) (k : Wrote base x b c) : Wrote base x a c :=
  ⟨k.os.trans h.os, k.tape.trans h.tape, k.output.trans h.output, Nat.le_trans h.size k.size, fun i hi ho hx => by
    have h1 := h.block i hi ho hx
    exact (k.block i (Nat.lt_of_lt_of_le hi h.size) (by rw [h1]; exact ho) hx).trans h1⟩
theorem Wrote.of {base : Nat} {x : Option Nat} {w w' : World} (h : w.grownBy w' none) : Wrote base x w w' :=
  ⟨h.os, h.tape, h.output, h.size, fun k hk _ _ => h.block k hk (by simp)⟩
theorem Wrote.own {base : Nat} {x : Option Nat} {w w' : World} {v : Value} {n : Nat} {l : List Int} (ho : Own w base v n l) (h : w.grownBy w' v.ownBlock) : Wrote base x w w' := by
  refine ⟨h.os, h.tape, h.output, h.size, fun k hk hn _ => h.block k hk (fun e => ?_)⟩
  rcases ho.1.2 with ⟨rfl, _⟩ | ⟨g, cap, cur, rfl, hg, hh, _⟩
  · simp [Value.ownBlock] at e
  · simp only [Value.ownBlock, Option.some.injEq] at e
    subst e
    rcases hn with hn | hn
    · omega
    · exact hn ⟨_, hh⟩
theorem Wrote.below {base : Nat} {x : Option Nat} {w0 w w' : World} (h : Wrote base x w w') (hb : Below w0.heap.size w0 w) (h0 : w0.heap.size ≤ base) (hx : ∀ k, x = some k → w0.heap.size ≤ k) : Below w0.heap.size w0 w' :=
  ⟨h.os.trans hb.os, h.tape.trans hb.tape, h.output.trans hb.output, Nat.le_trans hb.size h.size, fun k hk => (h.block k (Nat.lt_of_lt_of_le hk hb.size) (.inl (by omega)) (fun e => by have := hx k e.symm; omega)).trans (hb.block k hk)⟩
theorem Wrote.blk {base g : Nat} {x : Option Nat} {w w' : World} {T : TypeId} {vs : List Value} (h : Wrote base x w w') (hb : Blk w g T vs) (hT : T ≠ 5) (hx : some g ≠ x) : Blk w' g T vs := by
  refine (h.block g hb.lt (.inr ?_) hx).trans hb
  rintro ⟨cs, e⟩
  have := hb.symm.trans e
  simp only [Option.some.injEq, Obj.cells.injEq] at this
  exact hT this.2.1
theorem Wrote.wide {base : Nat} {w w' : World} (h : Wrote base none w w') (x : Option Nat) : Wrote base x w w' := ⟨h.os, h.tape, h.output, h.size, fun k hk ho _ => h.block k hk ho (by simp)⟩
theorem Wrote.mono {base base' : Nat} {x : Option Nat} {w w' : World} (h : Wrote base x w w') (hb : base' ≤ base) : Wrote base' x w w' :=
  ⟨h.os, h.tape, h.output, h.size, fun k hk ho hx => h.block k hk (ho.imp (fun h => by omega) id) hx⟩
theorem Wrote.put {base g i : Nat} {w : World} {v : Value} : Wrote base (some g) w (w.setCell ⟨g, i, none⟩ v) :=
  ⟨rfl, rfl, rfl, by simp, fun k hk _ hne => heap_setCell_other w ⟨g, i, none⟩ k v (fun e => hne (by simp at e; rw [e]))⟩

theorem Own.free {w : World} {base g : Nat} {v : Value} {n : Nat} {l : List Int} {T : TypeId} {vs : List Value} (h : Own w base v n l) (hb : Blk w g T vs) (hT : T ≠ 5) : v.ownBlock ≠ some g := by
  intro e
  rcases h.1.2 with ⟨rfl, _⟩ | ⟨k, cap, cur, rfl, hg, hh, _⟩
  · simp [Value.ownBlock] at e
  · simp only [Value.ownBlock, Option.some.injEq] at e
    subst e
    have := hb.symm.trans hh
    simp only [Option.some.injEq, Obj.cells.injEq] at this
    exact hT this.2.1

/-- The page: a block with the text, and the text so far. -/
structure Pg (w : World) (base g : Nat) (l : List Int) (v : Value) : Prop where
  blk : Blk w g 102 [v]
  own : Own w base v l.length l
  le : base ≤ w.heap.size

theorem Own.setOther {w : World} {base g i : Nat} {v u : Value} {n : Nat} {l : List Int} (h : Own w base v n l) (hne : v.ownBlock ≠ some g) : Own (w.setCell ⟨g, i, none⟩ u) base v n l :=
  h.kept (row := some g) grown_put (.inr hne)

theorem Blk.below_row {w w' : World} {g : Nat} {T : TypeId} {vs : List Value} {row : Option Nat} (h : Blk w g T vs) (hg : w.grownBy w' row) (hne : row ≠ some g) : Blk w' g T vs := (hg.block g h.lt (fun e => hne e.symm)).trans h

theorem Pg.grown {w w' : World} {base g : Nat} {l : List Int} {v : Value} (h : Pg w base g l v) (hg : w.grownBy w' none) : Pg w' base g l v :=
  ⟨h.blk.below (below_grown hg) h.blk.lt, h.own.below (below_grown hg), Nat.le_trans h.le hg.size⟩

def lits : List (List UInt8) := [[59], [66, 69, 71, 73, 78], [84, 72, 69, 78], [69, 76, 83, 69], [68, 79]]
def behI (s : ByteArray) : Int := if s.toList ∈ lits then 10 else 32
theorem behI_byte (s : ByteArray) : 0 ≤ behI s ∧ behI s ≤ 255 := by unfold behI; split <;> omega

theorem behindC (s : ByteArray) (w : World) : Calls Tryz.prog 126 #[.string s] w fun e w' => e = .returned (.int .u8 (behI s)) ∧ w' = w := by
  by_cases h0 : s.toList = [59]
  · have he : Hid (behI s = 10) := if_pos (by rw [h0]; decide)
    go_enter Tryz.func126, Tryz.ntmps126
    go_wp2_with fail
    go_ret
    exact ⟨ret_int he.out.symm, rfl⟩
  have g0 : (s.toList == [59]) = false := by simpa using h0
  by_cases h1 : s.toList = [66, 69, 71, 73, 78]
  · have he : Hid (behI s = 10) := if_pos (by rw [h1]; decide)
    clear h0
    go_enter Tryz.func126, Tryz.ntmps126
    go_wp2_with fail
    go_ret
    exact ⟨ret_int he.out.symm, rfl⟩
  have g1 : (s.toList == [66, 69, 71, 73, 78]) = false := by simpa using h1
  by_cases h2 : s.toList = [84, 72, 69, 78]
  · have he : Hid (behI s = 10) := if_pos (by rw [h2]; decide)
    clear h0 h1
    go_enter Tryz.func126, Tryz.ntmps126
    go_wp2_with fail
    go_ret
    exact ⟨ret_int he.out.symm, rfl⟩
  have g2 : (s.toList == [84, 72, 69, 78]) = false := by simpa using h2
  by_cases h3 : s.toList = [69, 76, 83, 69]
  · have he : Hid (behI s = 10) := if_pos (by rw [h3]; decide)
    clear h0 h1 h2
    go_enter Tryz.func126, Tryz.ntmps126
    go_wp2_with fail
    go_ret
    exact ⟨ret_int he.out.symm, rfl⟩
  have g3 : (s.toList == [69, 76, 83, 69]) = false := by simpa using h3
  by_cases h4 : s.toList = [68, 79]
  · have he : Hid (behI s = 10) := if_pos (by rw [h4]; decide)
    clear h0 h1 h2 h3
    go_enter Tryz.func126, Tryz.ntmps126
    go_wp2_with fail
    go_ret
    exact ⟨ret_int he.out.symm, rfl⟩
  have g4 : (s.toList == [68, 79]) = false := by simpa using h4
  have he : Hid (behI s = 32) := if_neg (by simp only [lits, List.mem_cons, List.not_mem_nil, or_false, not_or]; exact ⟨h0, h1, h2, h3, h4⟩)
  clear h0 h1 h2 h3 h4
  go_enter Tryz.func126, Tryz.ntmps126
  go_wp2_with fail
  go_ret
  exact ⟨ret_int he.out.symm, rfl⟩

/-- append of a row of bytes as one operation of a drawn region. -/
theorem wp_appendB1 {w : World} {o : Oper} {a : Act} {K : Act → World → Prop} {Q : Exit → Act → World → Prop} (s x : Operand)
    (ho : o.op = .call { callee := .builtin .append, args := #[s, x], argTypes := #[22, 22] })
    (base : Nat) (v : Value) (n : Nat) (l : List Int) (hs : a.eval s = v) (hown : Own w base v n l)
    (g : Nat) (l2 : List Int) (m c : Nat) (hx : a.eval x = .slice (some ⟨g, 0, none⟩) m c) (hr : BRow w (some ⟨g, 0, none⟩) m l2) (hsz : n + m ≤ 1099511627776) (hbase : base ≤ w.heap.size)
    (h : ∀ v' w', Own w' base v' (n + m) (l ++ l2) → w.grownBy w' v.ownBlock → K (a.put o.dst v') w') : Oper.wp Tryz.prog o a w K Q := by
  obtain ⟨i0, hi, hz0, hz1, hz2⟩ := info_parts info5
  have hby : ∀ x ∈ l ++ l2, 0 ≤ x ∧ x ≤ 255 := fun x hx => (List.mem_append.1 hx).elim (hown.2 x) (hr.2.1 x)
  refine wp_append_own w s x 22 ho base 5 i0 (.int .u8 0) 1 1 Tryz.underlying22 hi hz0 hz1 hz2 rfl (by decide) v n _ hs hown.1 ⟨g, 0, none⟩ m c (l2.map (Value.int .u8)) hx (by simp [hr.1]) ?_ (ints_oneCell _ _) (by unfold maxLen; omega) (by omega) hbase ?_
  · intro j u hu
    have hp : 0 < (l2.map (Value.int .u8)).length := Nat.lt_of_le_of_lt (Nat.zero_le j) (List.getElem?_eq_some_iff.1 hu).1
    obtain ⟨ad', e, hc⟩ := hr.pos hp
    cases e
    exact hc j u hu
  · intro v' w' ho' hg' _
    exact h v' w' ⟨by simpa using ho', hby⟩ hg'

def putT (s : ByteArray) : List Int := sI s ++ [behI s]
def putAll (ts : List ByteArray) : List Int := ts.flatMap putT

theorem wpList_appendS {w : World} {ops : Array Oper} {rest : List Oper} {o : Oper} {a : Act} {Q : Exit → Act → World → Prop} (hgd : o.guard = none) (s x : Operand)
    (ho : o.op = .call { callee := .builtin .append, args := #[s, x], argTypes := #[22, 9] })
    (base : Nat) (v : Value) (n : Nat) (l : List Int) (hs : a.eval s = v) (hown : Own w base v n l)
    (t : ByteArray) (hx : a.eval x = .string t) (hsz : n + t.size ≤ 1099511627776) (hbase : base ≤ w.heap.size)
    (h : ∀ v' w', Own w' base v' (n + t.size) (l ++ sI t) → w.grownBy w' v.ownBlock → wpList Tryz.prog ops Q rest (a.put o.dst v') w') : wpList Tryz.prog ops Q (o :: rest) a w := by
  obtain ⟨i0, hi, hz0, hz1, hz2⟩ := info_parts info5
  refine Lib.wpList_append_own_string w hgd s x 22 9 ho base 5 i0 Tryz.underlying22 Tryz.underlying9 hi hz0 hz1 hz2 v n _ hs hown.1 t hx (by unfold maxLen; omega) (by omega) hbase ?_
  intro v' w' ho' hg' _
  refine h v' w' ⟨?_, fun x hx => (List.mem_append.1 hx).elim (hown.2 x) (sI_byte t x)⟩ hg'
  have e : (l ++ sI t).map (Value.int .u8) = l.map (Value.int .u8) ++ Lib.strCells t := by
    rw [List.map_append]
    congr 1
    unfold sI Lib.strCells
    rw [List.map_map]
    rfl
  rw [e]
  exact ho'

theorem size_sI (s : ByteArray) : (sI s).length = s.size := by unfold sI; rw [List.length_map, Array.length_toList]; rfl

theorem putAll_next {ts : List ByteArray} {j : Nat} {t : ByteArray} (h : ts[j]? = some t) : putAll (ts.take (j + 1)) = putAll (ts.take j) ++ putT t := by
  obtain ⟨hk, rfl⟩ := List.getElem?_eq_some_iff.1 h
  unfold putAll
  rw [List.take_succ_eq_append_getElem hk, List.flatMap_append]
  simp
theorem putAll_take (ts : List ByteArray) (j : Nat) : (putAll (ts.take j)).length ≤ (putAll ts).length := by
  unfold putAll
  conv => rhs; rw [← List.take_append_drop j ts, List.flatMap_append, List.length_append]
  omega

set_option maxHeartbeats 4000000 in
theorem putC (ts : List ByteArray) (b m c : Nat) (w : World) (base g : Nat) (l : List Int) (v : Value) (hp : Pg w base g l v) (hm : ts.length = m) (hB : Blk w b 9 (ts.map Value.string)) (hbg : b ≠ g) (hsz : l.length + (putAll ts).length ≤ 1000000000) (hg : base ≤ g) :
    Calls Tryz.prog 92 #[.pointer (some ⟨g, 0, none⟩), .slice (some ⟨b, 0, none⟩) m m] w fun e w' => e = .returned (.tuple #[]) ∧ (∃ v', Pg w' base g (l ++ putAll ts) v') ∧ Wrote base (some g) w w' := by
  have hts : ts.length ≤ (putAll ts).length := by
    clear hB hm hsz
    induction ts with
    | nil => simp
    | cons t ts ih => simp [putAll, putT] at ih ⊢; omega
  have hmm : m ≤ 1000000000 := by omega
  have HB : Hid (Blk w b 9 (ts.map Value.string)) := hB
  have Hm : Hid (ts.length = m) := hm
  have HP : Hid (Pg w base g l v) := hp
  have HS : Hid (l.length + (putAll ts).length ≤ 1000000000) := hsz
  clear hB hm hp hsz hts
  go_enter Tryz.func92, Tryz.ntmps92
  go_wp2_with fail
  go_loopw [5, 8] (fun _ i wr => ∃ j : Nat, j ≤ m ∧ i = .int .i64 j ∧ Hid (∃ v', Pg wr base g (l ++ putAll (ts.take j)) v') ∧ Hid (Wrote base (some g) w wr)) (fun _ i _ => m - (intOf i).toNat)
  case atStart => exact ⟨0, Nat.zero_le _, rfl, ⟨v, by simpa [putAll] using HP.out⟩, Wrote.refl _ _ _⟩
  case round =>
    obtain ⟨j, hj, rfl, hp, hw⟩ := hrel
    by_cases hlt : j < m
    · obtain ⟨v1, hp⟩ := hp.out
      obtain ⟨t, ht⟩ : ∃ t, ts[j]? = some t := ⟨ts[j]'(by rw [Hm.out]; exact hlt), List.getElem?_eq_getElem _⟩
      have hbk := (Wrote.blk hw.out HB.out (by decide) (by simpa using hbg))
      have q0 : wr.cell? ⟨b, j, none⟩ = some (.string t) := by exact hbk.cell (by rw [List.getElem?_map, ht]; rfl)
      have q1 := hp.blk.cell (i := 0) rfl
      have z1 := hp.blk.free 0
      have hlen : (l ++ putAll (ts.take j)).length + (putT t).length ≤ 1000000000 := by
        have h1 := putAll_take ts (j + 1)
        rw [putAll_next ht] at h1
        simp only [List.length_append] at h1 ⊢
        have := HS.out
        omega
      have hts : (sI t).length + 1 = (putT t).length := by simp [putT]
      have HN : Hid (putAll (ts.take (j + 1)) = putAll (ts.take j) ++ (sI t ++ [behI t])) := putAll_next ht
      generalize hL : l ++ putAll (ts.take j) = L at *
      have HLe : Hid (l ++ putAll (ts.take j) = L) := hL
      obtain ⟨hk, ho, hle⟩ := hp
      clear hL
      generalize hnL : L.length = nL at *
      have HNL : Hid (L.length = nL) := hnL
      clear hnL
      obtain ⟨a1, c1, rfl, _⟩ := ho.shape
      have hst : t.size + 1 ≤ (putT t).length := by rw [← size_sI]; omega
      clear ht hbk
      go_wp2_with (at_builtin; refine wpList_appendS rfl _ _ rfl base _ nL L rfl ho t rfl (by omega) hle ?_)
      intro v2 w2 ho2 hg2
      have hb2 := hk.below_row hg2 (ho.free hk (by decide))
      have hw2 := Wrote.own (x := some g) ho hg2
      have q2 := hb2.cell (i := 0) rfl
      have z2 := hb2.free 0
      obtain ⟨a2, c2, rfl, _⟩ := ho2.shape
      have hne2 := ho2.free hb2 (by decide)
      clear q1 z1 q0
      go_upto_region 4 with fail
      have hb3 := hb2.set (i := 0) (.slice a2 (nL + t.size) c2)
      have ho3 := ho2.setOther (g := g) (i := 0) (u := .slice a2 (nL + t.size) c2) hne2
      have hw3 := hw2.trans (Wrote.put (base := base) (g := g) (i := 0) (w := w2) (v := .slice a2 (nL + t.size) c2))
      have hs3 : base ≤ (w2.setCell ⟨g, 0, none⟩ (.slice a2 (nL + t.size) c2)).heap.size := by have := hw3.size; omega
      generalize w2.setCell ⟨g, 0, none⟩ (.slice a2 (nL + t.size) c2) = w3 at *
      clear q2 z2 hb2 ho2 hw2 hg2 hne2
      refine wp_region_held_drew (S := fun _ => True) (by kernel_rfl) trivial (fun hHeld => ?_)
      have q3 : w3.drew.cell? ⟨g, 0, none⟩ = some (.slice a2 (nL + t.size) c2) := hb3.cell (i := 0) rfl
      replace hb3 : Blk w3.drew g 102 [.slice a2 (nL + t.size) c2] := hb3
      replace ho3 : Own w3.drew base (.slice a2 (nL + t.size) c2) (nL + t.size) (L ++ sI t) := ho3
      replace hw3 : Wrote base (some g) wr w3.drew := ⟨hw3.os, hw3.tape, hw3.output, hw3.size, hw3.block⟩
      replace hs3 : base ≤ w3.drew.heap.size := hs3
      generalize w3.drew = w4 at *
      refine tk (i := 0) (v := ?v501) rfl (by kernel_rfl) (.inl ⟨by rfl, ?y501⟩) hHeld (fun _ _ _ h => h) ?_
      case y501 => intro w hSw; (try dsimp only at hSw); go_simp; first | done | rfl
      refine tk (i := 1) (v := ?v502) rfl (by kernel_rfl) (.inl ⟨by rfl, ?y502⟩) hHeld (fun _ _ _ h => h) ?_
      case y502 => intro w hSw; (try dsimp only at hSw); go_simp; first | done | rfl
      refine tk (i := 2) (v := ?v503) rfl (by kernel_rfl) (.inl ⟨by rfl, ?y503⟩) hHeld (fun _ _ _ h => h) ?_
      case y503 => intro w hSw; (try dsimp only at hSw); go_simp; first | done | rfl
      try simp only [nrm]
      refine tk (i := 3) (v := ?v504) rfl (by kernel_rfl) (.inl ⟨by rfl, ?y504⟩) hHeld (fun _ _ _ h => h) ?_
      case y504 => intro w hSw; (try dsimp only at hSw); go_simp; first | done | rfl
      refine tk (i := 5) (v := ?v505) rfl (by kernel_rfl) (.inl ⟨by rfl, ?y505⟩) hHeld (fun _ _ _ h => h) ?_
      case y505 => intro w hSw; (try dsimp only at hSw); go_simp; first | done | rfl
      try simp only [nrm]
      refine wpAnyH_ready (rs := [4, 6]) (by kernel_rfl) (by simp) ?_
      refine AllReadyH.cons (i := 4) (o := ?oK7) ?iK7 ?gK7 (AllReadyH.cons (i := 6) (o := ?oK8) ?iK8 ?gK8 AllReadyH.nil)
      case iK7 => exact rfl
      case iK8 => exact rfl
      case gK7 =>
        intro K hK
        go_simp
        refine hK.out _ _ trivial (fun hHeld => ?_)
        clear hK K
        try simp only [nrm]
        refine wpAnyH_ready (rs := [6]) (by kernel_rfl) (by simp) ?_
        refine AllReadyH.cons (i := 6) (o := ?oK2) ?iK2 ?gK2 AllReadyH.nil
        case iK2 => exact rfl
        case gK2 =>
          intro K hK
          go_simp
          (with_reducible refine (behindC t _).mono ?_)
          rintro e w4 ⟨rfl, rfl⟩
          go_wp2_with fail
          refine hK.out _ _ trivial (fun hHeld => ?_)
          clear hK K
          try simp only [nrm]
          refine wpAnyH_ready (rs := [7]) (by kernel_rfl) (by simp) ?_
          refine AllReadyH.cons (i := 7) (o := ?oK1) ?iK1 ?gK1 AllReadyH.nil
          case iK1 => exact rfl
          case gK1 =>
            intro K hK
            go_simp
            refine hK.out _ _ trivial (fun hHeld => ?_)
            clear hK K
            try simp only [nrm]
            have o4 := Own.alloc ho3 (.cells #[.int .u8 (behI t)] 5)
            have k4 := Blk.old hb3 (o := .cells #[.int .u8 (behI t)] 5)
            have hr4 := one_row w4 (behI t) (behI_byte t).1 (behI_byte t).2
            have hw4 : Wrote base (some g) wr (w4.alloc (.cells #[.int .u8 (behI t)] 5)) := hw3.trans (Wrote.of (grown_alloc w4 _ none))
            have hs4 : base ≤ (w4.alloc (.cells #[.int .u8 (behI t)] 5)).heap.size := by simp; omega
            generalize w4.alloc (.cells #[.int .u8 (behI t)] 5) = w5 at *
            generalize w4.heap.size = g4 at *
            clear ho3 hb3 hw3 hs3 q3
            refine wpAnyH_ready (rs := [8]) (by kernel_rfl) (by simp) ?_
            refine AllReadyH.cons (i := 8) (o := ?oA) ?iA (fun K hK => ?_) AllReadyH.nil
            case iA => exact rfl
            rw [if_pos (by kernel_rfl)]
            refine wp_appendB1 _ _ rfl base (.slice a2 (nL + t.size) c2) (nL + t.size) (L ++ sI t) rfl o4 g4 [behI t] 1 1 rfl hr4 (by omega) hs4 ?_
            intro v6 w6 ho6 hg6
            have k6 := k4.below_row hg6 (o4.free k4 (by decide))
            have hw6 := hw4.trans (Wrote.own (x := some g) o4 hg6)
            have hs6 : base ≤ w6.heap.size := Nat.le_trans hs4 hg6.size
            obtain ⟨a6, c6, rfl, _⟩ := ho6.shape
            have q6 := k6.cell (i := 0) rfl
            have z6 := k6.free 0
            have hne6 := ho6.free k6 (by decide)
            clear o4 k4 hr4 hw4 hs4 hg6
            refine hK.out _ _ trivial (fun hHeld => ?_)
            clear hK K
            try simp only [nrm]
            refine tk (i := 9) (v := ?v506) rfl (by kernel_rfl) (.inl ⟨by rfl, ?y506⟩) hHeld (fun _ _ _ h => h) ?_
            case y506 => intro w hSw; (try dsimp only at hSw); go_simp; first | done | rfl
            refine tk (i := 10) (v := ?v507) rfl (by kernel_rfl) (.inl ⟨by rfl, ?y507⟩) hHeld (fun _ _ _ h => h) ?_
            case y507 => intro w hSw; (try dsimp only at hSw); go_simp; first | done | rfl
            try simp only [nrm]
            have k7 := k6.set (i := 0) (.slice a6 (nL + t.size + 1) c6)
            have ho7 := ho6.setOther (g := g) (i := 0) (u := .slice a6 (nL + t.size + 1) c6) hne6
            have hw7 := hw6.trans (Wrote.put (base := base) (g := g) (i := 0) (w := w6) (v := .slice a6 (nL + t.size + 1) c6))
            refine wpAnyH_ready (rs := [11]) (by kernel_rfl) (by simp) ?_
            refine AllReadyH.cons (i := 11) (o := ?o508) ?i508 (fun K hK => ?_) AllReadyH.nil
            case i508 => exact rfl
            go_simp
            have HP7 : Hid (∃ v', Pg (w6.setCell ⟨g, 0, none⟩ (.slice a6 (nL + t.size + 1) c6)) base g (l ++ putAll (ts.take (j + 1))) v') := by
              refine ⟨_, k7, ?_, by simp; omega⟩
              have e1 : l ++ putAll (ts.take (j + 1)) = L ++ sI t ++ [behI t] := by rw [HN.out, ← HLe.out]; simp
              have e2 : (l ++ putAll (ts.take (j + 1))).length = nL + t.size + 1 := by rw [e1, List.length_append, List.length_append, HNL.out, size_sI]; rfl
              rw [e2, e1]
              exact ho7
            have HW7 : Hid (Wrote base (some g) w (w6.setCell ⟨g, 0, none⟩ (.slice a6 (nL + t.size + 1) c6))) := hw.out.trans hw7
            clear k6 ho6 hw6 hs6 q6 z6 hne6 k7 ho7 hw7
            generalize w6.setCell ⟨g, 0, none⟩ (.slice a6 (nL + t.size + 1) c6) = w7 at *
            refine hK.out _ _ (trivial) (fun hHeld => ?_)
            clear hK K
            try simp only [nrm]
            refine wpAnyH_done (by kernel_rfl) ?_ _
            go_wp2_with fail
            go_roundw
            case rel => exact ⟨j + 1, by omega, by go_num, HP7, HW7⟩
            case measure => simp [intOf]; omega
      case gK8 =>
        intro K hK
        go_simp
        (with_reducible refine (behindC t _).mono ?_)
        rintro e w4 ⟨rfl, rfl⟩
        go_wp2_with fail
        refine hK.out _ _ trivial (fun hHeld => ?_)
        clear hK K
        try simp only [nrm]
        refine wpAnyH_ready (rs := [4, 7]) (by kernel_rfl) (by simp) ?_
        refine AllReadyH.cons (i := 4) (o := ?oK5) ?iK5 ?gK5 (AllReadyH.cons (i := 7) (o := ?oK6) ?iK6 ?gK6 AllReadyH.nil)
        case iK5 => exact rfl
        case iK6 => exact rfl
        case gK5 =>
          intro K hK
          go_simp
          refine hK.out _ _ trivial (fun hHeld => ?_)
          clear hK K
          try simp only [nrm]
          refine wpAnyH_ready (rs := [7]) (by kernel_rfl) (by simp) ?_
          refine AllReadyH.cons (i := 7) (o := ?oK3) ?iK3 ?gK3 AllReadyH.nil
          case iK3 => exact rfl
          case gK3 =>
            intro K hK
            go_simp
            refine hK.out _ _ trivial (fun hHeld => ?_)
            clear hK K
            try simp only [nrm]
            have o4 := Own.alloc ho3 (.cells #[.int .u8 (behI t)] 5)
            have k4 := Blk.old hb3 (o := .cells #[.int .u8 (behI t)] 5)
            have hr4 := one_row w4 (behI t) (behI_byte t).1 (behI_byte t).2
            have hw4 : Wrote base (some g) wr (w4.alloc (.cells #[.int .u8 (behI t)] 5)) := hw3.trans (Wrote.of (grown_alloc w4 _ none))
            have hs4 : base ≤ (w4.alloc (.cells #[.int .u8 (behI t)] 5)).heap.size := by simp; omega
            generalize w4.alloc (.cells #[.int .u8 (behI t)] 5) = w5 at *
            generalize w4.heap.size = g4 at *
            clear ho3 hb3 hw3 hs3 q3
            refine wpAnyH_ready (rs := [8]) (by kernel_rfl) (by simp) ?_
            refine AllReadyH.cons (i := 8) (o := ?oA) ?iA (fun K hK => ?_) AllReadyH.nil
            case iA => exact rfl
            rw [if_pos (by kernel_rfl)]
            refine wp_appendB1 _ _ rfl base (.slice a2 (nL + t.size) c2) (nL + t.size) (L ++ sI t) rfl o4 g4 [behI t] 1 1 rfl hr4 (by omega) hs4 ?_
            intro v6 w6 ho6 hg6
            have k6 := k4.below_row hg6 (o4.free k4 (by decide))
            have hw6 := hw4.trans (Wrote.own (x := some g) o4 hg6)
            have hs6 : base ≤ w6.heap.size := Nat.le_trans hs4 hg6.size
            obtain ⟨a6, c6, rfl, _⟩ := ho6.shape
            have q6 := k6.cell (i := 0) rfl
            have z6 := k6.free 0
            have hne6 := ho6.free k6 (by decide)
            clear o4 k4 hr4 hw4 hs4 hg6
            refine hK.out _ _ trivial (fun hHeld => ?_)
            clear hK K
            try simp only [nrm]
            refine tk (i := 9) (v := ?v509) rfl (by kernel_rfl) (.inl ⟨by rfl, ?y509⟩) hHeld (fun _ _ _ h => h) ?_
            case y509 => intro w hSw; (try dsimp only at hSw); go_simp; first | done | rfl
            refine tk (i := 10) (v := ?v510) rfl (by kernel_rfl) (.inl ⟨by rfl, ?y510⟩) hHeld (fun _ _ _ h => h) ?_
            case y510 => intro w hSw; (try dsimp only at hSw); go_simp; first | done | rfl
            try simp only [nrm]
            have k7 := k6.set (i := 0) (.slice a6 (nL + t.size + 1) c6)
            have ho7 := ho6.setOther (g := g) (i := 0) (u := .slice a6 (nL + t.size + 1) c6) hne6
            have hw7 := hw6.trans (Wrote.put (base := base) (g := g) (i := 0) (w := w6) (v := .slice a6 (nL + t.size + 1) c6))
            refine wpAnyH_ready (rs := [11]) (by kernel_rfl) (by simp) ?_
            refine AllReadyH.cons (i := 11) (o := ?o511) ?i511 (fun K hK => ?_) AllReadyH.nil
            case i511 => exact rfl
            go_simp
            have HP7 : Hid (∃ v', Pg (w6.setCell ⟨g, 0, none⟩ (.slice a6 (nL + t.size + 1) c6)) base g (l ++ putAll (ts.take (j + 1))) v') := by
              refine ⟨_, k7, ?_, by simp; omega⟩
              have e1 : l ++ putAll (ts.take (j + 1)) = L ++ sI t ++ [behI t] := by rw [HN.out, ← HLe.out]; simp
              have e2 : (l ++ putAll (ts.take (j + 1))).length = nL + t.size + 1 := by rw [e1, List.length_append, List.length_append, HNL.out, size_sI]; rfl
              rw [e2, e1]
              exact ho7
            have HW7 : Hid (Wrote base (some g) w (w6.setCell ⟨g, 0, none⟩ (.slice a6 (nL + t.size + 1) c6))) := hw.out.trans hw7
            clear k6 ho6 hw6 hs6 q6 z6 hne6 k7 ho7 hw7
            generalize w6.setCell ⟨g, 0, none⟩ (.slice a6 (nL + t.size + 1) c6) = w7 at *
            refine hK.out _ _ (trivial) (fun hHeld => ?_)
            clear hK K
            try simp only [nrm]
            refine wpAnyH_done (by kernel_rfl) ?_ _
            go_wp2_with fail
            go_roundw
            case rel => exact ⟨j + 1, by omega, by go_num, HP7, HW7⟩
            case measure => simp [intOf]; omega
        case gK6 =>
          intro K hK
          go_simp
          refine hK.out _ _ trivial (fun hHeld => ?_)
          clear hK K
          try simp only [nrm]
          have q3' := (Blk.old hb3 (o := .cells #[.int .u8 (behI t)] 5)).cell (i := 0) rfl
          refine wpAnyH_ready (rs := [4]) (by kernel_rfl) (by simp) ?_
          refine AllReadyH.cons (i := 4) (o := ?oK4) ?iK4 ?gK4 AllReadyH.nil
          case iK4 => exact rfl
          case gK4 =>
            intro K hK
            go_simp
            refine hK.out _ _ trivial (fun hHeld => ?_)
            clear hK K
            try simp only [nrm]
            have o4 := Own.alloc ho3 (.cells #[.int .u8 (behI t)] 5)
            have k4 := Blk.old hb3 (o := .cells #[.int .u8 (behI t)] 5)
            have hr4 := one_row w4 (behI t) (behI_byte t).1 (behI_byte t).2
            have hw4 : Wrote base (some g) wr (w4.alloc (.cells #[.int .u8 (behI t)] 5)) := hw3.trans (Wrote.of (grown_alloc w4 _ none))
            have hs4 : base ≤ (w4.alloc (.cells #[.int .u8 (behI t)] 5)).heap.size := by simp; omega
            generalize w4.alloc (.cells #[.int .u8 (behI t)] 5) = w5 at *
            generalize w4.heap.size = g4 at *
            clear ho3 hb3 hw3 hs3 q3 q3'
            refine wpAnyH_ready (rs := [8]) (by kernel_rfl) (by simp) ?_
            refine AllReadyH.cons (i := 8) (o := ?oA) ?iA (fun K hK => ?_) AllReadyH.nil
            case iA => exact rfl
            rw [if_pos (by kernel_rfl)]
            refine wp_appendB1 _ _ rfl base (.slice a2 (nL + t.size) c2) (nL + t.size) (L ++ sI t) rfl o4 g4 [behI t] 1 1 rfl hr4 (by omega) hs4 ?_
            intro v6 w6 ho6 hg6
            have k6 := k4.below_row hg6 (o4.free k4 (by decide))
            have hw6 := hw4.trans (Wrote.own (x := some g) o4 hg6)
            have hs6 : base ≤ w6.heap.size := Nat.le_trans hs4 hg6.size
            obtain ⟨a6, c6, rfl, _⟩ := ho6.shape
            have q6 := k6.cell (i := 0) rfl
            have z6 := k6.free 0
            have hne6 := ho6.free k6 (by decide)
            clear o4 k4 hr4 hw4 hs4 hg6
            refine hK.out _ _ trivial (fun hHeld => ?_)
            clear hK K
            try simp only [nrm]
            refine tk (i := 9) (v := ?v512) rfl (by kernel_rfl) (.inl ⟨by rfl, ?y512⟩) hHeld (fun _ _ _ h => h) ?_
            case y512 => intro w hSw; (try dsimp only at hSw); go_simp; first | done | rfl
            refine tk (i := 10) (v := ?v513) rfl (by kernel_rfl) (.inl ⟨by rfl, ?y513⟩) hHeld (fun _ _ _ h => h) ?_
            case y513 => intro w hSw; (try dsimp only at hSw); go_simp; first | done | rfl
            try simp only [nrm]
            have k7 := k6.set (i := 0) (.slice a6 (nL + t.size + 1) c6)
            have ho7 := ho6.setOther (g := g) (i := 0) (u := .slice a6 (nL + t.size + 1) c6) hne6
            have hw7 := hw6.trans (Wrote.put (base := base) (g := g) (i := 0) (w := w6) (v := .slice a6 (nL + t.size + 1) c6))
            refine wpAnyH_ready (rs := [11]) (by kernel_rfl) (by simp) ?_
            refine AllReadyH.cons (i := 11) (o := ?o514) ?i514 (fun K hK => ?_) AllReadyH.nil
            case i514 => exact rfl
            go_simp
            have HP7 : Hid (∃ v', Pg (w6.setCell ⟨g, 0, none⟩ (.slice a6 (nL + t.size + 1) c6)) base g (l ++ putAll (ts.take (j + 1))) v') := by
              refine ⟨_, k7, ?_, by simp; omega⟩
              have e1 : l ++ putAll (ts.take (j + 1)) = L ++ sI t ++ [behI t] := by rw [HN.out, ← HLe.out]; simp
              have e2 : (l ++ putAll (ts.take (j + 1))).length = nL + t.size + 1 := by rw [e1, List.length_append, List.length_append, HNL.out, size_sI]; rfl
              rw [e2, e1]
              exact ho7
            have HW7 : Hid (Wrote base (some g) w (w6.setCell ⟨g, 0, none⟩ (.slice a6 (nL + t.size + 1) c6))) := hw.out.trans hw7
            clear k6 ho6 hw6 hs6 q6 z6 hne6 k7 ho7 hw7
            generalize w6.setCell ⟨g, 0, none⟩ (.slice a6 (nL + t.size + 1) c6) = w7 at *
            refine hK.out _ _ (trivial) (fun hHeld => ?_)
            clear hK K
            try simp only [nrm]
            refine wpAnyH_done (by kernel_rfl) ?_ _
            go_wp2_with fail
            go_roundw
            case rel => exact ⟨j + 1, by omega, by go_num, HP7, HW7⟩
            case measure => simp [intOf]; omega
    · have : j = m := by omega
      subst this
      go_wp2_with fail
      obtain ⟨v', hp⟩ := hp.out
      rw [List.take_of_length_le (by rw [Hm.out]; exact Nat.le_refl _)] at hp
      exact bodyPost_end (results_none rfl _ _ _) rfl ⟨rfl, ⟨v', hp⟩, hw.out⟩
end Go.Proofs.YtajnfknldofjlaaGreatDoor

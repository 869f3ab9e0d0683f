/- A drawn list of instructions; drawn bytes, and a place in them. -/
import Derived.Test.YtcidckmocmdijaaDoorDrawE
import Derived.Test.YtcidckmocmdijaaDoorSpoil
import Derived.Deep.Cut
namespace Go.Proofs.YtcidckmocmdijaaDoor
open Go.RowKit
set_option linter.unusedVariables false
set_option linter.unusedSimpArgs false
set_option maxRecDepth 100000

theorem flatI_append (l m : List In6) : flatI (l ++ m) = flatI l ++ flatI m := by
  induction l with
  | nil => rfl
  | cons x l ih => simp [flatI, ih]

/-- Instructions in a row of one's own, and a cursor below it. -/
structure NS (w wr : World) (g B : Nat) (v : Value) (n : Nat) (l : List In6) : Prop where
  row : wr.ownsRow B 26 6 v n (flatI l)
  len : l.length = n
  cur : Cur wr g
  bel : Below w.heap.size w wr
  ne : g < B ∧ w.heap.size ≤ g ∧ B ≤ wr.heap.size
theorem NS.ge {w wr : World} {g B n : Nat} {v : Value} {l : List In6} (h : NS w wr g B v n l) : ∀ k, v.ownBlock = some k → B ≤ k := fun k hk => (h.row.lt k hk).1
theorem NS.drawn {w wr w' : World} {g B n : Nat} {v : Value} {l : List In6} (h : NS w wr g B v n l) (hd : Drawn wr w' g) : NS w w' g B v n l := by
  have := h.ne
  refine ⟨h.row.kept hd.2 ?_, h.len, hd.1, Below.drawn h.bel hd.2 h.bel.size (by omega), by have := hd.2.size; omega⟩
  cases hv : v.ownBlock with
  | none => exact .inl rfl
  | some k => right; intro e; have := h.ge k hv; have := Option.some.inj e; omega
theorem NS.below {w wr w' : World} {g B n : Nat} {v : Value} {l : List In6} (h : NS w wr g B v n l) (hb : Below wr.heap.size wr w') : NS w w' g B v n l := by
  have hg : wr.grownBy w' none := below_grows hb
  exact ⟨h.row.kept hg (by cases hv : v.ownBlock with
    | none => exact .inl rfl
    | some k => exact .inr (by intro e; cases e)), h.len, h.cur.kept hg (by intro k hk; cases hk), h.bel.trans (hb.mono h.bel.size), by have := h.ne; have := hb.size; omega⟩
theorem NS.push {w wr w' : World} {g B n : Nat} {v v' : Value} {l : List In6} {x : In6} (h : NS w wr g B v n l) (ho : w'.ownsRow B 26 6 v' (n + 1) (flatI l ++ x.vals)) (hg : wr.grownBy w' v.ownBlock) : NS w w' g B v' (n + 1) (l ++ [x]) := by
  have := h.ne
  refine ⟨by rw [flatI_append]; simpa [flatI] using ho, by simp [h.len], h.cur.kept hg (fun k hk => by have := h.ge k hk; omega), h.bel.grown hg h.bel.size (fun k hk => by have := h.ge k hk; omega), by have := hg.size; omega⟩
theorem NS.shape {w wr : World} {g B n : Nat} {v : Value} {l : List In6} (h : NS w wr g B v n l) : ∃ a c, v = .slice a n c ∧ IRow wr a n l ∧ n ≤ c ∧ c ≤ maxLen := by
  rcases h.row.2 with ⟨rfl, rfl⟩ | ⟨q, cap, cur, rfl, hg, hh, hnc, hcm, hs, ht⟩
  · exact ⟨none, 0, rfl, ⟨h.len, by omega⟩, by omega, by simp⟩
  · refine ⟨some ⟨q, 0, none⟩, cap, rfl, ⟨h.len, fun _ => ⟨q, 0, rfl, fun i u hu => ?_⟩⟩, hnc, hcm⟩
    rw [Nat.zero_add, cell_of_row wr q i cur _ (0, 0) hh]
    have hi : i < (flatI l).length := (List.getElem?_eq_some_iff.1 hu).1
    rw [flatI_len, h.len] at hi
    have e : (cur.toList.take (n * 6))[i]? = cur[i]? := by rw [List.getElem?_take, if_pos hi]; simp
    rw [← e, ht]
    exact hu

theorem wpList_appendI {w : World} {ops : Array Oper} {rest : List Oper} {o : Oper} {a : Act} {Q : Exit → Act → World → Prop} (hgd : o.guard = none) (s x : Operand)
    (ho : o.op = .call { callee := .builtin .append, args := #[s, x], argTypes := #[27, 27] })
    (base : Nat) (v : Value) (n : Nat) (l : List In6) (hs : a.eval s = v) (hown : w.ownsRow base 26 6 v n (flatI l))
    (g : Nat) (y : In6) (hx : a.eval x = .slice (some ⟨g, 0, none⟩) 1 1) (hr : w.heap[g]? = some (.cells #[.int .i64 y.o, .int .i64 y.a, .int .i64 y.b, .int .i64 y.c, .int .i64 y.n, .int .i64 y.m] 26 (0, 0)))
    (hsz : n ≤ 1000) (hbase : base ≤ w.heap.size)
    (h : ∀ v' w', w'.ownsRow base 26 6 v' (n + 1) (flatI l ++ y.vals) → w.grownBy w' v.ownBlock → wpList Tryd.prog ops Q rest (a.put o.dst v') w') : wpList Tryd.prog ops Q (o :: rest) a w := by
  obtain ⟨i0, hi, hz0, hz1, hz2⟩ := info_parts infoI
  refine wpList_append_own w hgd s x 27 ho base 26 i0 (.agg #[.int .i64 0, .int .i64 0, .int .i64 0, .int .i64 0, .int .i64 0, .int .i64 0]) 6 48 Tryd.underlying27 hi hz0 hz1 hz2 rfl (by decide) v n _ hs hown ⟨g, 0, none⟩ 1 1 y.vals hx rfl ?_ (by intro u hu; simp [In6.vals] at hu; rcases hu with e | e | e | e | e | e <;> subst e <;> rfl) (by unfold maxLen; omega) (by omega) hbase ?_
  · obtain ⟨q0, q1, q2, q3, q4, q5, _⟩ := row6 hr
    intro j u hu
    match j, hu with
    | 0, hu => simp [In6.vals] at hu; subst hu; exact q0
    | 1, hu => simp [In6.vals] at hu; subst hu; exact q1
    | 2, hu => simp [In6.vals] at hu; subst hu; exact q2
    | 3, hu => simp [In6.vals] at hu; subst hu; exact q3
    | 4, hu => simp [In6.vals] at hu; subst hu; exact q4
    | 5, hu => simp [In6.vals] at hu; subst hu; exact q5
    | j + 6, hu => simp [In6.vals] at hu
  · intro v' w' ho' hg' _
    exact h v' w' ho' hg'

set_option maxHeartbeats 8000000 in
theorem drawEncodeM (a : Option Addr) (n c : Nat) (l : List Int) (w : World) (h : BRow w a n l) (hn : n ≤ 9223372036854775807) :
    Calls Tryd.prog 5 #[.slice a n c] w fun e w' => ∃ a' n' c' l', e = .returned (.slice a' n' c') ∧ n' ≤ 6 ∧ IRow w' a' n' l' ∧ Below w.heap.size w w' := by
  go_enter Tryd.func5, Tryd.ntmps5
  go_wp2_with fail
  refine (newM a n c l w h hn).mono ?_
  rintro e w1 ⟨g, rfl, hg, hc, hb⟩
  have HR : Hid (BRow w a n l) := h
  have B1 : Hid (Below w.heap.size w w1) := hb
  clear h hb
  go_wp2_with fail
  refine (belowM g _ w1 hc (by omega)).mono ?_
  rintro e w2 ⟨x, rfl, x0, x1, _, hd⟩
  replace x1 : x < 6 := x1 (by omega)
  obtain ⟨m, rfl⟩ := Int.eq_ofNat_of_zero_le x0
  have hm : m < 6 := by omega
  clear x0 x1 hc
  obtain ⟨B, hB⟩ : ∃ B, B = w2.heap.size := ⟨_, rfl⟩
  have hgB := hd.1.lt
  have N2 : Hid (NS w w2 g B (.slice none 0 0) 0 []) := ⟨World.ownsRow_nil _ _ _ _, rfl, hd.1, Below.drawn B1.out hd.2 B1.out.size hg, by omega⟩
  clear hd hB B1 hgB
  go_wp2_with fail
  go_loopw [4, 6] (fun v i wr => ∃ j : Nat, j ≤ m ∧ i = .int .i64 j ∧ ∃ a' c', v = .slice a' j c' ∧ Hid (∃ l', NS w wr g B (.slice a' j c') j l')) (fun _ i _ => m - (intOf i).toNat)
  case atStart => exact ⟨0, Nat.zero_le _, rfl, none, 0, rfl, [], N2.out⟩
  case round =>
    obtain ⟨j, hj, rfl, a', c', rfl, HR⟩ := hrel
    by_cases hlt : j < m
    · obtain ⟨l', hN⟩ := HR.out
      have HN : Hid (NS w wr g B (.slice a' j c') j l') := hN
      clear hN HR
      go_wp2_with fail
      refine (l4insM g wr HN.out.cur).mono ?_
      rintro e w3 ⟨xo, xa, xb, xc, xn, xm, rfl, hd⟩
      have HN3 : Hid (NS w w3 g B (.slice a' j c') j l') := HN.out.drawn hd
      clear HN hd
      have HN4 : Hid (NS w (w3.alloc (.cells #[.int .i64 xo, .int .i64 xa, .int .i64 xb, .int .i64 xc, .int .i64 xn, .int .i64 xm] 26)) g B (.slice a' j c') j l') := HN3.out.below ((Below.refl _ _).alloc (Nat.le_refl _) _)
      have hB4 : B ≤ w3.heap.size := HN3.out.ne.2.2
      go_wp2_with (at_builtin; refine wpList_appendI rfl _ _ rfl B _ j l' rfl HN4.out.row w3.heap.size ⟨xo, xa, xb, xc, xn, xm⟩ rfl (heap_new w3 _ _) (by omega) (by simp; omega) ?_)
      intro v5 w5 ho hg5
      have hN5 := HN4.out.push (x := ⟨xo, xa, xb, xc, xn, xm⟩) ho hg5
      obtain ⟨a5, c5, e5, _⟩ := hN5.shape
      subst e5
      have HF : Hid (∃ l'', NS w w5 g B (.slice a5 (j + 1) c5) (j + 1) l'') := ⟨_, hN5⟩
      clear hN5 ho hg5 HN3 HN4
      go_wp2_with fail
      go_roundw
      case rel => exact ⟨j + 1, by omega, by go_num, a5, c5, rfl, HF⟩
      case measure => simp [intOf]; omega
    · have hjm : j = m := by omega
      subst hjm
      obtain ⟨l', hN⟩ := HR.out
      have HN : Hid (NS w wr g B (.slice a' j c') j l') := hN
      clear hN HR
      go_wp2_with fail
      refine (onceM g _ wr HN.out.cur (by omega)).mono ?_
      rintro e w6 ⟨q, rfl, hd⟩
      have HN6 : Hid (NS w w6 g B (.slice a' j c') j l') := HN.out.drawn hd
      clear HN hd
      cases q
      · go_wp2_with fail
        go_ret
        obtain ⟨a9, c9, e9, hI, h1, h2⟩ := HN6.out.shape
        simp only [Value.slice.injEq, true_and] at e9
        obtain ⟨rfl, rfl⟩ := e9
        exact ⟨_, _, _, _, rfl, by omega, hI, HN6.out.bel⟩
      · go_wp2_with fail
        refine (drawInsOkM a n c l w6 (BRow.below HR.out HN6.out.bel) hn).mono ?_
        rintro e w7 ⟨xo, xa, xb, xc, xn, xm, rfl, hb7⟩
        have HN7 : Hid (NS w w7 g B (.slice a' j c') j l') := HN6.out.below hb7
        have HN8 : Hid (NS w (w7.alloc (.cells #[.int .i64 xo, .int .i64 xa, .int .i64 xb, .int .i64 xc, .int .i64 xn, .int .i64 xm] 26)) g B (.slice a' j c') j l') := HN7.out.below ((Below.refl _ _).alloc (Nat.le_refl _) _)
        have hB7 : B ≤ w7.heap.size := HN7.out.ne.2.2
        clear hb7 HN6
        go_wp2_with (at_builtin; refine wpList_appendI rfl _ _ rfl B _ j l' rfl HN8.out.row w7.heap.size ⟨xo, xa, xb, xc, xn, xm⟩ rfl (heap_new w7 _ _) (by omega) (by simp; omega) ?_)
        intro v5 w9 ho hg5
        have hN9 := HN8.out.push (x := ⟨xo, xa, xb, xc, xn, xm⟩) ho hg5
        obtain ⟨a5, c5, e5, hI, h1, h2⟩ := hN9.shape
        subst e5
        have HF : Hid (IRow w9 a5 (j + 1) (l' ++ [⟨xo, xa, xb, xc, xn, xm⟩]) ∧ Below w.heap.size w w9) := ⟨hI, hN9.bel⟩
        clear hN9 ho hg5 HN7 HN8 hI h1 h2
        go_wp2_with fail
        go_ret
        exact ⟨_, _, _, _, rfl, by omega, HF.out.1, HF.out.2⟩

/-- Bytes in new memory, and the cursor. -/
structure Tail (w wr : World) (g : Nat) (a : Option Addr) (n c : Nat) (l : List Int) : Prop where
  row : BRow wr a n l
  cap : n ≤ c
  most : c ≤ maxLen
  nil : a = none → c = 0
  small : n ≤ 100
  cur : Cur wr g
  bel : Below w.heap.size w wr
  low : w.heap.size ≤ g
  apart : ∀ b off, a = some ⟨b, off, none⟩ → g < b
theorem Tail.drawn {w wr w' : World} {g n c : Nat} {a : Option Addr} {l : List Int} (h : Tail w wr g a n c l) (hd : Drawn wr w' g) : Tail w w' g a n c l :=
  ⟨h.row.grown hd.2 (by intro b off e e2; have := h.apart b off e; have := Option.some.inj e2; omega), h.cap, h.most, h.nil, h.small, hd.1, Below.drawn h.bel hd.2 h.bel.size h.low, h.low, h.apart⟩
theorem Tail.below {w wr w' : World} {g n c : Nat} {a : Option Addr} {l : List Int} (h : Tail w wr g a n c l) (hb : Below wr.heap.size wr w') : Tail w w' g a n c l :=
  ⟨h.row.below hb, h.cap, h.most, h.nil, h.small, h.cur.kept (below_grows (row := none) hb) (by intro k hk; cases hk), h.bel.trans (hb.mono h.bel.size), h.low, h.apart⟩

set_option maxHeartbeats 8000000 in
theorem drawDecodeM (a : Option Addr) (n c : Nat) (l : List Int) (w : World) (h : BRow w a n l) (hn : n ≤ 9223372036854775807) :
    Calls Tryd.prog 8 #[.slice a n c] w fun e w' => ∃ a' n' c' l' k, e = .returned (.tuple #[.slice a' n' c', .int .i64 k]) ∧ BRow w' a' n' l' ∧ n' ≤ c' ∧ c' ≤ maxLen ∧ (a' = none → c' = 0) ∧ n' ≤ 100 ∧ InInt k ∧ Below w.heap.size w w' := by
  go_enter Tryd.func8, Tryd.ntmps8
  go_wp2_with fail
  refine (newM a n c l w h hn).mono ?_
  rintro e w1 ⟨g, rfl, hg, hc, hb⟩
  have HR : Hid (BRow w a n l) := h
  have B1 : Hid (Below w.heap.size w w1) := hb
  clear h hb
  go_wp2_with fail
  refine (belowM g _ w1 hc (by omega)).mono ?_
  rintro e w2 ⟨x, rfl, x0, x1, _, hd⟩
  replace x1 : x < 5 := x1 (by omega)
  obtain ⟨m, rfl⟩ := Int.eq_ofNat_of_zero_le x0
  have hm : m < 5 := by omega
  clear x0 x1 hc
  obtain ⟨B, hB⟩ : ∃ B, B = w2.heap.size := ⟨_, rfl⟩
  have hgB := hd.1.lt
  have N2 : Hid (NS w w2 g B (.slice none 0 0) 0 []) := ⟨World.ownsRow_nil _ _ _ _, rfl, hd.1, Below.drawn B1.out hd.2 B1.out.size hg, by omega⟩
  clear hd hB B1 hgB
  go_wp2_with fail
  go_loopw [5, 7] (fun v i wr => ∃ j : Nat, j ≤ m ∧ i = .int .i64 j ∧ ∃ a' c', v = .slice a' j c' ∧ Hid (∃ l', NS w wr g B (.slice a' j c') j l')) (fun _ i _ => m - (intOf i).toNat)
  case atStart => exact ⟨0, Nat.zero_le _, rfl, none, 0, rfl, [], N2.out⟩
  case round =>
    obtain ⟨j, hj, rfl, a', c', rfl, HR⟩ := hrel
    by_cases hlt : j < m
    · obtain ⟨l', hN⟩ := HR.out
      have HN : Hid (NS w wr g B (.slice a' j c') j l') := hN
      clear hN HR
      go_wp2_with fail
      refine (l4insM g wr HN.out.cur).mono ?_
      rintro e w3 ⟨xo, xa, xb, xc, xn, xm, rfl, hd⟩
      have HN3 : Hid (NS w w3 g B (.slice a' j c') j l') := HN.out.drawn hd
      clear HN hd
      have HN4 : Hid (NS w (w3.alloc (.cells #[.int .i64 xo, .int .i64 xa, .int .i64 xb, .int .i64 xc, .int .i64 xn, .int .i64 xm] 26)) g B (.slice a' j c') j l') := HN3.out.below ((Below.refl _ _).alloc (Nat.le_refl _) _)
      have hB4 : B ≤ w3.heap.size := HN3.out.ne.2.2
      go_wp2_with (at_builtin; refine wpList_appendI rfl _ _ rfl B _ j l' rfl HN4.out.row w3.heap.size ⟨xo, xa, xb, xc, xn, xm⟩ rfl (heap_new w3 _ _) (by omega) (by simp; omega) ?_)
      intro v5 w5 ho hg5
      have hN5 := HN4.out.push (x := ⟨xo, xa, xb, xc, xn, xm⟩) ho hg5
      obtain ⟨a5, c5, e5, _⟩ := hN5.shape
      subst e5
      have HF : Hid (∃ l'', NS w w5 g B (.slice a5 (j + 1) c5) (j + 1) l'') := ⟨_, hN5⟩
      clear hN5 ho hg5 HN3 HN4
      go_wp2_with fail
      go_roundw
      case rel => exact ⟨j + 1, by omega, by go_num, a5, c5, rfl, HF⟩
      case measure => simp [intOf]; omega
    · have hjm : j = m := by omega
      subst hjm
      obtain ⟨l', hN⟩ := HR.out
      have HN : Hid (NS w wr g B (.slice a' j c') j l') := hN
      clear hN HR
      obtain ⟨a9, c9, e9, hI, h1, h2⟩ := HN.out.shape
      simp only [Value.slice.injEq, true_and] at e9
      obtain ⟨rfl, rfl⟩ := e9
      have H1 := bytesAll a' j c' l' wr hI (by omega)
      have hlen := HN.out.len
      clear hI
      go_wp2_with fail
      refine H1.mono ?_
      rintro e w4 ⟨v4, rfl, ho4, hb4⟩
      have hN4 : NS w w4 g B (.slice a' j c') j l' := HN.out.below hb4
      obtain ⟨a4, c4, e4, hm4⟩ := ho4.made hb4
      subst e4
      have hr4 : BRow w4 a4 (12 * j) (encL l') := hm4.row
      have hc4 := hm4.cap
      have hm4' := hm4.most
      have hn4 := hm4.nil
      have N4 : Hid (Cur w4 g ∧ Below w.heap.size w w4) := ⟨hN4.cur, hN4.bel⟩
      have HRow : Hid (BRow w4 a4 (12 * j) (encL l')) := hr4
      have hgw : w.heap.size ≤ g := hN4.ne.2.1
      have hab4 : Hid (∀ b off, a4 = some ⟨b, off, none⟩ → g < b) := by
        intro b off e
        have hk := hm4.block b (by rw [e]; rfl)
        have := HN.out.cur.lt
        omega
      clear hm4 hr4 ho4 hb4 hN4 H1 HN
      go_wp2_with fail
      refine (onceM g _ w4 N4.out.1 (by omega)).mono ?_
      rintro e w5 ⟨q, rfl, hd⟩
      have N5 : Hid (Cur w5 g ∧ Below w.heap.size w w5) := ⟨hd.1, Below.drawn N4.out.2 hd.2 N4.out.2.size hgw⟩
      have R5 : Hid (BRow w5 a4 (12 * j) (encL l')) := HRow.out.grown hd.2 (by intro b off e e2; have := hab4.out b off e; have := Option.some.inj e2; omega)
      clear hd N4 HRow
      cases q
      · have T : Hid (Tail w w5 g a4 (12 * j) c4 (encL l')) := ⟨R5.out, hc4, hm4', hn4, by omega, N5.out.1, N5.out.2, hgw, hab4.out⟩
        clear R5 N5 hc4 hm4' hn4 hab4
        go_wp2_with fail
        refine (belowM g _ w5 T.out.cur (by omega)).mono ?_
        rintro e w8 ⟨y, rfl, y0, y1, _, hd⟩
        replace y1 : y < (j : Int) + 1 := y1 (by omega)
        have T8 : Hid (Tail w w8 g a4 (12 * j) c4 (encL l')) := T.out.drawn hd
        clear hd T
        have hints := ints_block w8 [0, 1, (j : Int), (j : Int) - 1, -1, 9223372036854775807, -9223372036854775808, y] (by
          intro v hv
          simp only [List.mem_cons, List.not_mem_nil, or_false] at hv
          unfold InInt
          rcases hv with e | e | e | e | e | e | e | e <;> omega)
        have T9 : Hid (Tail w (w8.alloc (.cells #[.int .i64 0, .int .i64 1, .int .i64 (j : Int), .int .i64 ((j : Int) - 1), .int .i64 (-1), .int .i64 9223372036854775807, .int .i64 (-9223372036854775808), .int .i64 y] 3)) g a4 (12 * j) c4 (encL l')) := T8.out.below ((Below.refl _ _).alloc (Nat.le_refl _) _)
        go_wp2_with fail
        refine (pickM g w8.heap.size 8 8 _ T9.out.cur T8.out.cur.lt (by omega) (by omega) hints).mono ?_
        rintro e w10 ⟨k, rfl, hk, hd⟩
        have T10 : Hid (Tail w w10 g a4 (12 * j) c4 (encL l')) := T9.out.drawn hd
        clear hd T9 T8 hints
        go_wp2_with fail
        go_ret2
        exact ⟨_, _, _, _, _, rfl, T10.out.row, T10.out.cap, T10.out.most, T10.out.nil, T10.out.small, hk, T10.out.bel⟩
      · go_wp2_with fail
        refine (spoilM g a4 (12 * j) c4 (encL l') w5 N5.out.1 R5.out hn4 (by omega)).mono ?_
        rintro e w6 ⟨a6, n6, c6, l6, rfl, hn6, hm6⟩
        have T : Hid (Tail w w6 g a6 n6 c6 l6) := ⟨hm6.row, hm6.cap, hm6.most, hm6.nil, by omega, hm6.drawn.1, Below.drawn N5.out.2 hm6.drawn.2 N5.out.2.size hgw, hgw, by
          intro b off e
          have hk := hm6.block b (by rw [e]; rfl)
          have := N5.out.1.lt
          omega⟩
        clear hm6 R5 N5 hc4 hm4' hn4 hab4
        go_wp2_with fail
        refine (belowM g _ w6 T.out.cur (by omega)).mono ?_
        rintro e w8 ⟨y, rfl, y0, y1, _, hd⟩
        replace y1 : y < (j : Int) + 1 := y1 (by omega)
        have T8 : Hid (Tail w w8 g a6 n6 c6 l6) := T.out.drawn hd
        clear hd T
        have hints := ints_block w8 [0, 1, (j : Int), (j : Int) - 1, -1, 9223372036854775807, -9223372036854775808, y] (by
          intro v hv
          simp only [List.mem_cons, List.not_mem_nil, or_false] at hv
          unfold InInt
          rcases hv with e | e | e | e | e | e | e | e <;> omega)
        have T9 : Hid (Tail w (w8.alloc (.cells #[.int .i64 0, .int .i64 1, .int .i64 (j : Int), .int .i64 ((j : Int) - 1), .int .i64 (-1), .int .i64 9223372036854775807, .int .i64 (-9223372036854775808), .int .i64 y] 3)) g a6 n6 c6 l6) := T8.out.below ((Below.refl _ _).alloc (Nat.le_refl _) _)
        go_wp2_with fail
        refine (pickM g w8.heap.size 8 8 _ T9.out.cur T8.out.cur.lt (by omega) (by omega) hints).mono ?_
        rintro e w10 ⟨k, rfl, hk, hd⟩
        have T10 : Hid (Tail w w10 g a6 n6 c6 l6) := T9.out.drawn hd
        clear hd T9 T8 hints
        go_wp2_with fail
        go_ret2
        exact ⟨_, _, _, _, _, rfl, T10.out.row, T10.out.cap, T10.out.most, T10.out.nil, T10.out.small, hk, T10.out.bel⟩
end Go.Proofs.YtcidckmocmdijaaDoor

/- Bytes that are spoilt, long ones too. -/
import Derived.Test.YtnhebknckgffoaaSpoil
namespace Go.Proofs.Ytnhebknckgffoaa
open Go.RowKit
set_option linter.unusedVariables false

set_option maxRecDepth 100000 in
set_option maxHeartbeats 4000000 in
theorem spoilLongM (g : Nat) (a : Option Addr) (n c : Nat) (l : List Int) (w : World) (h : Cur w g) (hr : BRow w a n l) (hnil : a = none → c = 0) (hn : n ≤ 100000) :
    Calls Try.prog 32 #[.pointer (some ⟨g, 0, none⟩), .slice a n c] w fun e w' => ∃ a' n' c' l', e = .returned (.slice a' n' c') ∧ n' ≤ n + 1 ∧ MadeD w w' g a' n' c' l' := by
  have hgl := h.lt
  have hE := own_empty w
  have hBE := below_empty w
  have hrE := hr.below hBE
  have hcE : Cur (w.alloc (.cells #[] 5)) g := h.alloc _
  clear hr h
  go_enter Try.func32, Try.ntmps32
  go_wp2_with (at_builtin; refine wpList_appendB rfl _ _ rfl w.heap.size _ 0 [] rfl hE a n c l rfl hrE hnil (by omega) (by simp) ?_)
  intro v1 w1 ho1 hg1
  have hkE := hE.1.lt
  have hc1 := hcE.kept hg1 (fun k hk => by have := (hkE k hk).1; omega)
  have hgr1 : w.grownBy w1 (some g) := grown_over (grown_over (World.grownBy.refl w (some g)) (World.grownBy_alloc w _ none) (by intro k hk; cases hk)) hg1 (fun k hk => (hkE k hk).1)
  have ho2 : Own w1 w.heap.size v1 n l := by simpa using ho1
  have hs1 := hgr1.size
  clear hE hBE hrE hcE hnil hg1 ho1 hkE
  have hk2 := ho2.1.lt
  by_cases hn0 : n = 0
  · subst hn0
    obtain ⟨a1, c1, hv, _⟩ := ho2.shape
    subst hv
    go_wp2_with fail
    refine (byteM g _ hc1).mono ?_
    rintro e w2 ⟨x, rfl, hx0, hx1, hc2, hd2⟩
    have ho3 := ho2.keptBy hd2 (fun k hkk e => by have h1 := (hk2 k hkk).1; cases e; omega)
    have hgr2 := grown_trans hgr1 hd2
    have hs2 := hgr2.size
    clear ho2 hc1 hd2 hgr1
    go_wp2_with (at_builtin; refine wpList_appendB rfl _ _ rfl w.heap.size _ 0 l rfl (ho3.alloc _) _ 1 1 _ rfl (one_row _ _ (by omega) (by omega)) (by intro hh; cases hh) (by omega) (by simp; omega) ?_)
    intro v3 w3 ho4 hg3
    have hc3 := (hc2.alloc _).kept hg3 (fun k hkk => by have := (hk2 k hkk).1; omega)
    have hg4 := grown_over (grown_over hgr2 (World.grownBy_alloc w2 _ none) (by intro k hk; cases hk)) hg3 (fun k hkk => (hk2 k hkk).1)
    obtain ⟨a', c', hv, hmd⟩ := ho4.madeD ⟨hc3, hg4⟩
    subst hv
    clear hg3 hgr2 hc2 ho3 hk2 ho4 hc3 hg4
    go_wp2
    go_ret
    exact ⟨_, _, _, _, rfl, by omega, hmd⟩
  · have hq : ∃ q c1, v1 = .slice (some ⟨q, 0, none⟩) n c1 ∧ n ≤ c1 ∧ c1 ≤ maxLen := by
      rcases ho2.1.2 with ⟨e, e2⟩ | ⟨q, cap, cur, e, _, _, h1, h2, _⟩
      · omega
      · exact ⟨q, cap, e, h1, h2⟩
    obtain ⟨q, c1, hv, hq1, hq2⟩ := hq
    subst hv
    have hqb := (hk2 q rfl).1
    clear hk2
    have hob : ∀ k, (Value.slice (some ⟨q, 0, none⟩) n c1).ownBlock = some k → k = q := by
      intro k hk
      have : some q = some k := hk
      exact (Option.some.inj this).symm
    have hnz : ((n : Int) == 0) = false := by simp; omega
    unfold maxLen at hq2
    go_wp2_with fail
    refine (belowM g _ _ hc1 (by omega)).mono ?_
    rintro e w2 ⟨x, rfl, hx0, hx1, _, hc2, hd2⟩
    replace hx1 : x < n := hx1 (by omega)
    obtain ⟨i, rfl⟩ := Int.eq_ofNat_of_zero_le hx0
    have ho3 := ho2.keptBy hd2 (fun k hkk e => hob_ne hob hqb hgl k hkk e)
    have hgr2 := grown_trans hgr1 hd2
    clear ho2 hc1 hd2 hgr1
    go_wp2_with fail
    refine (belowM g _ _ hc2 (by omega)).mono ?_
    rintro e w3 ⟨y, rfl, hy0, hy1, _, hc3, hd3⟩
    replace hy1 : y < 5 := hy1 (by omega)
    have ho4 := ho3.keptBy hd3 (fun k hkk e => hob_ne hob hqb hgl k hkk e)
    have hgr3 := grown_trans hgr2 hd3
    have hs3 := hgr3.size
    clear ho3 hc2 hd3 hgr2
    have hrow := ho4.row
    have hbyi := byte_at hrow.2.1 i
    have hcell : w3.cell? ⟨q, i, none⟩ = some (.int .u8 (l[i]?.getD 0)) := by
      obtain ⟨b, off, e, hc⟩ := hrow.2.2 (by omega)
      simp only [Option.some.injEq, Addr.mk.injEq, and_true] at e
      obtain ⟨rfl, rfl⟩ := e
      simpa using hc i (by omega)
    have hfro : w3.frozen? ⟨q, i, none⟩ = false := ho4.1.frozenAt i
    have hy : y = 0 ∨ y = 1 ∨ y = 2 ∨ y = 3 ∨ y = 4 := by omega
    rcases hy with rfl | rfl | rfl | rfl | rfl
    · obtain ⟨a', c', hv, hmd⟩ := (ho4.cut (i := i) (by omega)).madeD ⟨hc3, hgr3⟩
      simp only [Value.slice.injEq, true_and] at hv
      obtain ⟨rfl, rfl⟩ := hv
      clear ho4 hrow hcell hfro
      go_wp2
      go_ret
      exact ⟨_, _, _, _, rfl, by omega, hmd⟩
    · clear hcell hfro hrow
      go_wp2_with fail
      refine (byteM g _ hc3).mono ?_
      rintro e w4 ⟨x, rfl, hx0', hx1', hc4, hd4⟩
      have ho5 := ho4.keptBy hd4 (fun k hkk e => hob_ne hob hqb hgl k hkk e)
      have hgr4 := grown_trans hgr3 hd4
      have hs4 := hgr4.size
      clear ho4 hc3 hd4 hgr3
      go_wp2_with (at_builtin; refine wpList_appendB rfl _ _ rfl w.heap.size _ n l rfl (ho5.alloc _) _ 1 1 _ rfl (one_row _ _ (by omega) (by omega)) (by intro hh; cases hh) (by omega) (by simp; omega) ?_)
      intro v3 w5 ho6 hg5
      have hc5 := (hc4.alloc _).kept hg5 (fun k hkk => by have h1 := hob k hkk; omega)
      have hg6 := grown_over (grown_over hgr4 (World.grownBy_alloc w4 _ none) (by intro k hk; cases hk)) hg5 (fun k hkk => by have h1 := hob k hkk; omega)
      obtain ⟨a', c', hv, hmd⟩ := ho6.madeD ⟨hc5, hg6⟩
      subst hv
      clear hg5 hgr4 hc4 ho5 ho6 hc5 hg6
      go_wp2
      go_ret
      exact ⟨_, _, _, _, rfl, by omega, hmd⟩
    · go_wp2_with fail
      refine (byteM g _ hc3).mono ?_
      rintro e w4 ⟨x, rfl, hx0', hx1', hc4, hd4⟩
      have ho5 := ho4.keptBy hd4 (fun k hkk e => hob_ne hob hqb hgl k hkk e)
      have hgr4 := grown_trans hgr3 hd4
      have hcell4 : w4.cell? ⟨q, i, none⟩ = some (.int .u8 (l[i]?.getD 0)) := hd4.cell hcell (by simp; omega)
      have hfro4 : w4.frozen? ⟨q, i, none⟩ = false := ho5.1.frozenAt i
      obtain ⟨ho6, hg6⟩ := ho5.storedB i x hx0' hx1'
      have hc6 := hc4.kept hg6 (fun k hkk => by have h1 := Option.some.inj hkk; omega)
      have hg7 := grown_over hgr4 hg6 (fun k hkk => by have h1 := Option.some.inj hkk; omega)
      obtain ⟨a', c', hv, hmd⟩ := ho6.madeD ⟨hc6, hg7⟩
      simp only [Value.slice.injEq, true_and] at hv
      obtain ⟨rfl, rfl⟩ := hv
      clear ho4 hc3 hd4 hgr3 hrow hcell hfro ho5 ho6 hg6 hc6 hg7 hgr4 hc4
      go_wp2
      go_ret
      exact ⟨_, _, _, _, rfl, by omega, hmd⟩
    · clear hfro
      have hE3 : Own (w3.alloc (.cells #[] 5)) w.heap.size (.slice (some ⟨w3.heap.size, 0, none⟩) 0 0) 0 [] := (own_empty w3).mono hs3
      have hR1 : BRow (w3.alloc (.cells #[] 5)) (some ⟨q, 0, none⟩) i (l.take i) := (ho4.cut (i := i) (by omega)).row.below (below_empty w3)
      have hic : i ≤ c1 := by omega
      have hin1 : i + 1 ≤ n := by omega
      have hin0 : (0 : Int) ≤ (i : Int) + 1 := by omega
      have hil : (i : Int) ≤ (i : Int) + 1 := by omega
      have hin2 : (i : Int) + 1 ≤ (n : Int) := by omega
      have hwr : IntKind.i64.wrap ((i : Int) + 1) = (i : Int) + 1 := by rw [IntKind.wrap_i64]; omega
      have hq3 : q < w3.heap.size := World.block_lt_of_cell? w3 _ hcell
      have hR2 : BRow (w3.alloc (.cells #[] 5)) (some ⟨q, 0 + (i + 1), none⟩) (n - (i + 1)) (l.drop (i + 1)) := (hrow.tail (lo := i + 1) (by omega)).below (below_empty w3)
      rw [Nat.zero_add] at hR2
      clear hcell
      by_cases hcc : c1 = i + 1
      · have hne : n = i + 1 := by omega
        subst hne
        subst hcc
        have hZ : ∀ wx : World, BRow wx (some ⟨q, 0, none⟩) (i + 1 - (i + 1)) [] := fun wx => by rw [Nat.sub_self]; exact BRow.empty _
        have HZ : Hid _ := hZ
        clear hZ
        go_wp2_with fail
        go_region_law (first
          | (refine step_appendB rfl (.tmp 59) (.tmp 62) rfl w.heap.size _ 0 [] rfl (by exact hE3) ⟨q, 0, none⟩ i _ (l.take i) rfl (by exact hR1) (by omega) (by simp; omega) ?_; intro v5 w5 ho5 hg5)
          | (refine step_appendB rfl (.tmp 63) (.tmp 67) rfl w.heap.size _ (0 + i) ([] ++ l.take i) rfl (by exact ho5) ⟨q, 0, none⟩ _ _ [] rfl (by first | exact HZ.out _ | exact BRow.empty _) (by omega) (by have := hg5.size; simp at this; omega) ?_; intro v6 w6 ho6 hg6))
        all_goals
          have hk5 := ho5.1.lt
          have hc5 := Cur.kept (show Cur ((w3.alloc (.cells #[] 5)).drew) g from hc3.alloc _) hg5 (fun k hkk => by have h1 := Option.some.inj hkk; simp at h1; omega)
          have hc6 := hc5.kept hg6 (fun k hkk => by have := (hk5 k hkk).1; omega)
          have hgr5 := grown_over (w1 := (w3.alloc (.cells #[] 5)).drew) (grown_drew (grown_over hgr3 (World.grownBy_alloc w3 _ none) (by intro k hk; cases hk))) hg5 (fun k hkk => by have h1 := Option.some.inj hkk; simp at h1; omega)
          have hgr6 := grown_over hgr5 hg6 (fun k hkk => (hk5 k hkk).1)
          obtain ⟨a', c', hv, hmd⟩ := ho6.madeD ⟨hc6, hgr6⟩
          subst hv
          clear ho4 hrow hE3 hR1 hR2 HZ ho5 ho6 hg5 hg6 hc5 hc6 hgr5 hgr6 hk5 hgr3 hc3
          go_wp2
          go_ret
          exact ⟨_, _, _, _, rfl, by omega, hmd⟩
      · have hcc' : ¬ c1 = ((i : Int) + 1).toNat := by omega
        go_wp2_with fail
        go_region_law (first
          | (refine step_appendB rfl (.tmp 59) (.tmp 62) rfl w.heap.size _ 0 [] rfl (by exact hE3) ⟨q, 0, none⟩ i c1 (l.take i) rfl (by exact hR1) (by omega) (by simp; omega) ?_; intro v5 w5 ho5 hg5; have hR5 := BRow.grown (show BRow ((w3.alloc (.cells #[] 5)).drew) _ _ _ from hR2) hg5 (fun b off e e2 => row_ne e e2 hq3))
          | (refine step_appendB rfl (.tmp 63) (.tmp 67) rfl w.heap.size _ (0 + i) ([] ++ l.take i) rfl (by exact ho5) ⟨q, i + 1, none⟩ (n - (i + 1)) _ (l.drop (i + 1)) rfl (by exact hR5) (by omega) (by have := hg5.size; simp at this; omega) ?_; intro v6 w6 ho6 hg6))
        all_goals
          have hk5 := ho5.1.lt
          have hc5 := Cur.kept (show Cur ((w3.alloc (.cells #[] 5)).drew) g from hc3.alloc _) hg5 (fun k hkk => by have h1 := Option.some.inj hkk; simp at h1; omega)
          have hc6 := hc5.kept hg6 (fun k hkk => by have := (hk5 k hkk).1; omega)
          have hgr5 := grown_over (w1 := (w3.alloc (.cells #[] 5)).drew) (grown_drew (grown_over hgr3 (World.grownBy_alloc w3 _ none) (by intro k hk; cases hk))) hg5 (fun k hkk => by have h1 := Option.some.inj hkk; simp at h1; omega)
          have hgr6 := grown_over hgr5 hg6 (fun k hkk => (hk5 k hkk).1)
          obtain ⟨a', c', hv, hmd⟩ := ho6.madeD ⟨hc6, hgr6⟩
          subst hv
          clear ho4 hrow hE3 hR1 hR2 hR5 ho5 ho6 hg5 hg6 hc5 hc6 hgr5 hgr6 hk5 hgr3 hc3
          go_wp2
          go_ret
          exact ⟨_, _, _, _, rfl, by omega, hmd⟩
    · have hcell4 : Hid (∀ w4 : World, w3.grownBy w4 (some g) → w4.cell? ⟨q, i, none⟩ = some (.int .u8 (l[i]?.getD 0)) ∧ w4.frozen? ⟨q, i, none⟩ = false) := by
        intro w4 hd4
        exact ⟨hd4.cell hcell (by simp; omega), (ho4.keptBy hd4 (fun k hkk e => hob_ne hob hqb hgl k hkk e)).1.frozenAt i⟩
      have hlt : (i : Int) < (n : Int) := by omega
      go_wp2_with fail
      go_region_with (go_at_call 33; refine (belowM g _ _ (by exact hc3) (by omega)).mono ?_; rintro e w4 ⟨z, rfl, hz0, hz1, _, hd4⟩; have hd5 := grown_undrew hd4.2; obtain ⟨hq4, hf4⟩ := hcell4.out w4 hd5; replace hz1 : z < 8 := hz1 (by omega))
      all_goals
        obtain ⟨X, hX⟩ : ∃ X, X = bits BinOp.xor IntKind.u8 (l[i]?.getD 0) (IntKind.u8.wrap (2 ^ z.toNat)) := ⟨_, rfl⟩
        have hXb : 0 ≤ X ∧ X ≤ 255 := by rw [hX]; exact bits_u8 _ _
        rw [← hX]
        have ho5 := ho4.keptBy hd5 (fun k hkk e => hob_ne hob hqb hgl k hkk e)
        have hgr4 := grown_trans hgr3 hd5
        obtain ⟨ho6, hg6⟩ := ho5.storedB i X hXb.1 hXb.2
        have hc6 := hd4.1.kept hg6 (fun k hkk => by have h1 := Option.some.inj hkk; omega)
        have hg7 := grown_over hgr4 hg6 (fun k hkk => by have h1 := Option.some.inj hkk; omega)
        obtain ⟨a', c', hv, hmd⟩ := ho6.madeD ⟨hc6, hg7⟩
        simp only [Value.slice.injEq, true_and] at hv
        obtain ⟨rfl, rfl⟩ := hv
        clear ho4 hc3 hd4 hgr3 hrow hcell hfro ho5 ho6 hg6 hc6 hg7 hgr4 hd5 hq4 hf4 hX hcell4
        go_wp2
        go_ret
        exact ⟨_, _, _, _, rfl, by omega, hmd⟩
end Go.Proofs.Ytnhebknckgffoaa

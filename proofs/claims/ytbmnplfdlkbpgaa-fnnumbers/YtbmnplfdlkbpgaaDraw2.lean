/- Numbers out of lists, and the drawn arguments of PutNum and PutText. -/
import Derived.Test.YtbmnplfdlkbpgaaDraw1
namespace Go.Proofs.Ytbmnplfdlkbpgaa
open Go.RowKit
set_option linter.unusedVariables false

def InInt (v : Int) : Prop := -9223372036854775808 ≤ v ∧ v ≤ 9223372036854775807

set_option maxRecDepth 100000 in
set_option maxHeartbeats 2000000 in
theorem pickM (g b : Nat) (n c : Nat) (w : World) (h : Cur w g) (hbg : g < b) (hn0 : 0 < n) (hn : n ≤ 1000) (hc : ∀ j, j < n → ∃ v, w.cell? ⟨b, j, none⟩ = some (.int .i64 v) ∧ InInt v) :
    Calls Try.prog 25 #[.pointer (some ⟨g, 0, none⟩), .slice (some ⟨b, 0, none⟩) n c] w fun e w' => ∃ v, e = .returned (.int .i64 v) ∧ InInt v ∧ Drawn w w' g := by
  go_enter Try.func25, Try.ntmps25
  go_wp2_with fail
  refine (belowM g _ _ h (by omega)).mono ?_
  rintro e w1 ⟨x, rfl, hx0, hx1, _, hd⟩
  replace hx1 : x < n := hx1 (by omega)
  obtain ⟨j, rfl⟩ := Int.eq_ofNat_of_zero_le hx0
  obtain ⟨v, hv, hin⟩ := hc j (by omega)
  have hv1 : w1.cell? ⟨b, j, none⟩ = some (.int .i64 v) := hd.2.cell hv (by simp; omega)
  clear hv hc h
  go_wp2
  go_ret
  exact ⟨_, rfl, hin, hd⟩

theorem ints_block (w : World) (cs : List Int) (hin : ∀ v ∈ cs, InInt v) : ∀ j, j < cs.length → ∃ v, (w.alloc (.cells (cs.map (Value.int .i64)).toArray 3)).cell? ⟨w.heap.size, j, none⟩ = some (.int .i64 v) ∧ InInt v := by
  intro j hj
  refine ⟨cs[j], ?_, hin _ (List.getElem_mem hj)⟩
  rw [cell_of_row _ w.heap.size j _ _ (0, 0) (heap_alloc_new w _)]
  simp [hj]

theorem inInt_all (cs : List Int) (h : cs.all (fun v => decide (-9223372036854775808 ≤ v) && decide (v ≤ 9223372036854775807)) = true) : ∀ v ∈ cs, InInt v := by
  intro v hv
  have := List.all_eq_true.1 h v hv
  simpa [InInt] using this

set_option maxRecDepth 100000 in
set_option maxHeartbeats 4000000 in
theorem numM (g : Nat) (w : World) (h : Cur w g) :
    Calls Try.prog 16 #[.pointer (some ⟨g, 0, none⟩)] w fun e w' => ∃ v, e = .returned (.int .i64 v) ∧ InInt v ∧ Drawn w w' g := by
  go_enter Try.func16, Try.ntmps16
  go_wp2_with fail
  refine (belowM g _ _ h (by omega)).mono ?_
  rintro e w1 ⟨x, rfl, hx0, hx1, _, hc1, hd1⟩
  replace hx1 : x < 6 := hx1 (by omega)
  have hl1 := hc1.lt
  clear h
  by_cases hz : x = 0
  · subst hz
    go_wp2_with fail
    refine (pickM g w1.heap.size 8 8 _ (hc1.alloc _) hl1 (by omega) (by omega) (ints_block w1 [0, 1, 127, 128, 16383, 16384, 2147483647, 2147483646] (inInt_all _ (by decide)))).mono ?_
    rintro e w2 ⟨v, rfl, hv, hd2⟩
    have hd : Drawn w w2 g := ⟨hd2.1, grown_trans (grown_trans hd1 (World.grownBy_alloc w1 _ _)) hd2.2⟩
    clear hd1 hd2 hc1
    go_wp2
    go_ret
    exact ⟨_, rfl, hv, hd⟩
  · by_cases ho : x = 1
    · subst ho
      clear hz
      go_wp2_with fail
      refine (pickM g w1.heap.size 5 5 _ (hc1.alloc _) hl1 (by omega) (by omega) (ints_block w1 [-1, 2147483648, 4611686018427387904, -9223372036854775808, 9223372036854775807] (inInt_all _ (by decide)))).mono ?_
      rintro e w2 ⟨v, rfl, hv, hd2⟩
      have hd : Drawn w w2 g := ⟨hd2.1, grown_trans (grown_trans hd1 (World.grownBy_alloc w1 _ _)) hd2.2⟩
      clear hd1 hd2 hc1
      go_wp2
      go_ret
      exact ⟨_, rfl, hv, hd⟩
    · have hz' : (x == 0) = false := by simpa using hz
      have ho' : (x == 1) = false := by simpa using ho
      clear hz ho
      go_wp2_with fail
      refine (belowM g _ _ hc1 (by omega)).mono ?_
      rintro e w2 ⟨y, rfl, hy0, hy1, _, hd2⟩
      replace hy1 : y < 40000 := hy1 (by omega)
      have hd : Drawn w w2 g := ⟨hd2.1, grown_trans hd1 hd2.2⟩
      clear hd1 hd2 hc1
      go_wp2
      go_ret
      exact ⟨_, rfl, ⟨by omega, by omega⟩, hd⟩

set_option maxRecDepth 100000 in
set_option maxHeartbeats 2000000 in
theorem drawPutNumM (a : Option Addr) (n c : Nat) (l : List Int) (w : World) (h : BRow w a n l) (hn : n ≤ 9223372036854775807) :
    Calls Try.prog 4 #[.slice a n c] w fun e w' => ∃ a' n' c' l' v, e = .returned (.tuple #[.slice a' n' c', .int .i64 v]) ∧ n' ≤ 4 ∧ InInt v ∧ Made w w' a' n' c' l' := by
  go_enter Try.func4, Try.ntmps4
  go_wp2_with fail
  refine (newM a n c l _ h hn).mono ?_
  rintro e w1 ⟨g, rfl, hg, hc1, hb1⟩
  clear h
  go_wp2_with fail
  refine (someM g _ _ hc1 (by omega) (by omega)).mono ?_
  rintro e w2 ⟨a2, n2, c2, l2, rfl, hn2, m2⟩
  have hs1 := hb1.size
  have hb2 : Below w.heap.size w w2 := Below.drawn hb1 m2.drawn.2 hs1 hg
  have ho2 := m2.own
  have hbl := m2.block
  have hgl := hc1.lt
  go_wp2_with fail
  refine (numM g _ m2.drawn.1).mono ?_
  rintro e w3 ⟨v, rfl, hv, hd3⟩
  have hb3 : Below w.heap.size w w3 := Below.drawn hb2 hd3.2 hb2.size hg
  replace ho2 : Own w3 w.heap.size (.slice a2 n2 c2) n2 l2 := (ho2.keptBy hd3.2 (fun k hk e => by have := (hbl k hk).1; cases e; omega)).mono hs1
  obtain ⟨a', c', e', hm⟩ := ho2.made hb3
  simp only [Value.slice.injEq, true_and] at e'
  obtain ⟨rfl, rfl⟩ := e'
  clear m2 hd3 hb2 hb1 hc1 hbl ho2
  go_wp2
  go_ret2
  exact ⟨_, _, _, _, _, rfl, by omega, hv, hm⟩

set_option maxRecDepth 100000 in
set_option maxHeartbeats 4000000 in
theorem drawPutTextM (a : Option Addr) (n c : Nat) (l : List Int) (w : World) (h : BRow w a n l) (hn : n ≤ 9223372036854775807) :
    Calls Try.prog 7 #[.slice a n c] w fun e w' => ∃ a1 n1 c1 l1 a2 n2 c2 l2, e = .returned (.tuple #[.slice a1 n1 c1, .slice a2 n2 c2]) ∧ n1 ≤ 3 ∧ n2 ≤ 41 ∧ Made w w' a1 n1 c1 l1 ∧ Made w w' a2 n2 c2 l2 := by
  obtain ⟨i0, hi, hz0, hz1, hz2⟩ := info_parts info5
  go_enter Try.func7, Try.ntmps7
  go_wp2_with fail
  refine (newM a n c l _ h hn).mono ?_
  rintro e w1 ⟨g, rfl, hg, hc1, hb1⟩
  clear h
  go_wp2_with fail
  refine (someM g _ _ hc1 (by omega) (by omega)).mono ?_
  rintro e w2 ⟨a2, n2, c2, l2, rfl, hn2, m2⟩
  have hs1 := hb1.size
  have hb2 : Below w.heap.size w w2 := Below.drawn hb1 m2.drawn.2 hs1 hg
  have ho2 := m2.own
  have hbl := m2.block
  have hgl := hc1.lt
  have hc2 := m2.drawn.1
  clear m2 hb1 hc1
  go_wp2_with fail
  refine (someM g _ _ hc2 (by omega) (by omega)).mono ?_
  rintro e w3 ⟨a3, n3, c3, l3, rfl, hn3, m3⟩
  have hs2 := hb2.size
  have hb3 : Below w.heap.size w w3 := Below.drawn hb2 m3.drawn.2 hs2 hg
  replace ho2 := ho2.keptBy m3.drawn.2 (fun k hk e => by have := (hbl k hk).1; cases e; omega)
  have ho3 := m3.own
  have hbl3 := m3.block
  have hgl2 := hc2.lt
  have hc3 := m3.drawn.1
  clear m3 hb2 hc2
  go_wp2_with fail
  refine (onceM g _ _ hc3 (by omega)).mono ?_
  rintro e w4 ⟨bo, rfl, hd4⟩
  have hs3 := hb3.size
  have hb4 : Below w.heap.size w w4 := Below.drawn hb3 hd4.2 hs3 hg
  replace ho2 := ho2.keptBy hd4.2 (fun k hk e => by have := (hbl k hk).1; cases e; omega)
  replace ho3 := ho3.keptBy hd4.2 (fun k hk e => by have := (hbl3 k hk).1; cases e; omega)
  have hc4 := hd4.1
  clear hd4 hb3 hc3
  have hs4 := hb4.size
  cases bo with
  | false =>
    obtain ⟨a', c', e', hm⟩ := (ho2.mono hs1).made hb4
    simp only [Value.slice.injEq, true_and] at e'
    obtain ⟨rfl, rfl⟩ := e'
    obtain ⟨a', c', e', hm3⟩ := (ho3.mono hs2).made hb4
    simp only [Value.slice.injEq, true_and] at e'
    obtain ⟨rfl, rfl⟩ := e'
    clear ho2 ho3 hbl hbl3 hc4 hb4
    go_wp2
    go_ret2
    exact ⟨_, _, _, _, _, _, _, _, rfl, by omega, by omega, hm, hm3⟩
  | true =>
    clear ho3 hbl3
    go_wp2_with fail
    refine (belowM g _ _ hc4 (by omega)).mono ?_
    rintro e w5 ⟨x, rfl, hx0, hx1, _, hd5⟩
    replace hx1 : x < 2 := hx1 (by omega)
    obtain ⟨xn, rfl⟩ := Int.eq_ofNat_of_zero_le hx0
    have hb5 : Below w.heap.size w w5 := Below.drawn hb4 hd5.2 hs4 hg
    replace ho2 := ho2.keptBy hd5.2 (fun k hk e => by have := (hbl k hk).1; cases e; omega)
    clear hd5 hb4 hc4
    have hs5 := hb5.size
    go_wp2_with (at_make; refine wpList_make_full _ rfl _ _ 22 rfl w.heap.size 5 i0 (.int .u8 0) 1 Try.underlying22 hi hz0 hz1 _ _ _ _ (40 + xn) rfl rfl (by omega) (by omega) (by rw [hz2]; omega) (by unfold maxLen; omega) hs5 ?_)
    intro w6 hown hgrow
    have hb6 : Below w.heap.size w w6 := hb5.grown hgrow hs5 (by intro k hk; cases hk)
    replace ho2 := ho2.keptBy hgrow (fun k hk e => by cases e)
    have ho6 : Own w6 w.heap.size (.slice (some ⟨w5.heap.size, 0, none⟩) (40 + xn) (40 + xn)) (40 + xn) (List.replicate (40 + xn) 0) := by
      have e : (madeCells #[Value.int IntKind.u8 0] (40 + xn)).toList = List.replicate (40 + xn) (Value.int IntKind.u8 0) := toList_madeCells_one _ _
      rw [e] at hown
      refine ⟨by simpa using hown, ?_⟩
      intro y hy
      rw [(List.mem_replicate.1 hy).2]; omega
    obtain ⟨a', c', e', hm⟩ := (ho2.mono hs1).made hb6
    simp only [Value.slice.injEq, true_and] at e'
    obtain ⟨rfl, rfl⟩ := e'
    obtain ⟨a', c', e', hm3⟩ := ho6.made hb6
    simp only [Value.slice.injEq, true_and] at e'
    obtain ⟨rfl, rfl⟩ := e'
    clear ho2 ho6 hbl hb6 hown hgrow hb5
    go_wp2
    go_ret2
    exact ⟨_, _, _, _, _, _, _, _, rfl, by omega, by omega, hm, hm3⟩
end Go.Proofs.Ytbmnplfdlkbpgaa

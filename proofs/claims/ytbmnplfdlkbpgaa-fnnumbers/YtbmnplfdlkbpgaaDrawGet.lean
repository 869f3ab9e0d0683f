/- The drawn arguments of GetNum. -/
import Derived.Test.YtbmnplfdlkbpgaaSpoil
namespace Go.Proofs.Ytbmnplfdlkbpgaa
open Go.RowKit
set_option linter.unusedVariables false

theorem picks6 (n : Nat) (h : n ≤ 1000) : ∀ v ∈ [(-1 : Int), 0, (n : Int), (n : Int) + 1, 9223372036854775807, -9223372036854775808], InInt v := by
  intro v hv
  simp only [List.mem_cons, List.not_mem_nil, or_false] at hv
  unfold InInt
  omega

set_option maxRecDepth 100000 in
set_option maxHeartbeats 4000000 in
theorem drawGetNumM (a : Option Addr) (n c : Nat) (l : List Int) (w : World) (h : BRow w a n l) (hn : n ≤ 9223372036854775807) :
    Calls Try.prog 11 #[.slice a n c] w fun e w' => ∃ a' n' c' l' v, e = .returned (.tuple #[.slice a' n' c', .int .i64 v]) ∧ n' ≤ 100 ∧ InInt v ∧ Made w w' a' n' c' l' := by
  go_enter Try.func11, Try.ntmps11
  go_wp2_with fail
  refine (newM a n c l _ h hn).mono ?_
  rintro e w1 ⟨g, rfl, hg, hc1, hb1⟩
  clear h
  go_wp2_with fail
  refine (someM g _ _ hc1 (by omega) (by omega)).mono ?_
  rintro e w2 ⟨a2, n2, c2, l2, rfl, hn2, m2⟩
  have hs1 := hb1.size
  have hb2 : Below w.heap.size w w2 := Below.drawn hb1 m2.drawn.2 hs1 hg
  have ho2 := m2.own
  have hbl := m2.block
  have hgl := hc1.lt
  have hc2 := m2.drawn.1
  have hnil2 := m2.nil
  clear m2 hb1 hc1
  go_wp2_with fail
  refine (numM g _ hc2).mono ?_
  rintro e w3 ⟨v, rfl, hv, hc3, hd3⟩
  have hs2 := hb2.size
  have hb3 : Below w.heap.size w w3 := Below.drawn hb2 hd3 hs2 hg
  replace ho2 := ho2.keptBy hd3 (fun k hk e => by have := (hbl k hk).1; cases e; omega)
  have hgl2 := hc2.lt
  have hs3 := hb3.size
  clear hd3 hb2 hc2
  go_wp2_with fail
  refine (specPutM _ _ _ l2 v _ ho2.row hnil2 (by omega)).mono ?_
  rintro e w4 ⟨a4, c4, rfl, m4⟩
  have hp5 := putL_len v
  have ho4 := m4.own
  have hbl4 := m4.block
  have hb4 : Below w.heap.size w w4 := hb3.trans (m4.below.mono hs3)
  have hgl3 := hc3.lt
  have hc4 : Cur w4 g := hc3.kept ⟨m4.below.os, m4.below.tape, m4.below.output, m4.below.size, fun k hk _ => m4.below.block k hk⟩ (row := none) (by intro k hk; cases hk)
  have s34 := m4.below.size
  clear m4 hb3 hc3 ho2 hbl hnil2
  have hs4 := hb4.size
  generalize putL v = r at *
  go_wp2_with fail
  refine (someM g _ _ hc4 (by omega) (by omega)).mono ?_
  rintro e w5 ⟨a5, n5, c5, l5, rfl, hn5, m5⟩
  replace ho4 := ho4.keptBy m5.drawn.2 (fun k hk e => by have := (hbl4 k hk).1; cases e; omega)
  have hb5 : Below w.heap.size w w5 := Below.drawn hb4 m5.drawn.2 hs4 hg
  have hr5 := m5.row
  have hnil5 := m5.nil
  have hc5 := m5.drawn.1
  have s45 := m5.drawn.2.size
  clear m5 hb4 hc4
  go_wp2_with (at_builtin; refine wpList_appendB rfl _ _ rfl w3.heap.size _ (n2 + r.length) (l2 ++ r) rfl ho4 a5 n5 c5 l5 rfl hr5 hnil5 (by omega) (by omega) ?_)
  intro v6 w6 ho6 hg6
  have hk4 := ho4.1.lt
  have hc6 := hc5.kept hg6 (fun k hkk => by have := (hk4 k hkk).1; omega)
  have hb6 : Below w.heap.size w w6 := hb5.grown hg6 hb5.size (fun k hkk => by have := (hk4 k hkk).1; omega)
  have s56 := hg6.size
  clear ho4 hg6 hr5 hnil5 hc5 hb5 hk4 hbl4
  obtain ⟨a6, c6, hv6, hm6⟩ := (ho6.mono hs3).made hb6
  subst hv6
  generalize hN : n2 + r.length + n5 = n6 at *
  have hn6 : n6 ≤ 20 := by omega
  have HNN : Hid _ := hN
  clear hN
  go_wp2_with fail
  refine (onceM g _ _ hc6 (by omega)).mono ?_
  rintro e w7 ⟨bo, rfl, hd7⟩
  have hb7 : Below w.heap.size w w7 := Below.drawn hb6 hd7.2 hb6.size hg
  have ho7 := ho6.keptBy hd7.2 (fun k hk e => by have := (ho6.1.lt k hk).1; cases e; omega)
  have hc7 := hd7.1
  have hnil6 := hm6.nil
  have s67 := hd7.2.size
  clear hd7 hb6 ho6 hc6 hm6
  have hs7 := hb7.size
  cases bo with
  | false =>
    clear hnil6
    go_wp2_with fail
    refine (onceM g _ _ hc7 (by omega)).mono ?_
    rintro e w9 ⟨b2, rfl, hd9⟩
    have hb9 : Below w.heap.size w w9 := Below.drawn hb7 hd9.2 hb7.size hg
    have ho9 := ho7.keptBy hd9.2 (fun k hk e => by have := (ho7.1.lt k hk).1; cases e; omega)
    have hc9 := hd9.1
    have hl9 := hc9.lt
    clear hd9 hb7 ho7 hc7
    cases b2 with
    | false =>
      obtain ⟨a', c', e', hm⟩ := (ho9.mono hs3).made hb9
      simp only [Value.slice.injEq, true_and] at e'
      obtain ⟨rfl, rfl⟩ := e'
      clear ho9 hc9 hb9
      go_wp2
      go_ret2
      exact ⟨_, _, _, _, _, rfl, by omega, ⟨by omega, by omega⟩, hm⟩
    | true =>
      go_wp2_with fail
      refine (pickM g w9.heap.size 6 6 _ (hc9.alloc _) hl9 (by omega) (by omega) (ints_block w9 [-1, 0, (n6 : Int), (n6 : Int) + 1, 9223372036854775807, -9223372036854775808] (picks6 n6 (by omega)))).mono ?_
      rintro e w10 ⟨x, rfl, hx, hd10⟩
      have hb10 : Below w.heap.size w w10 := Below.drawn (hb9.alloc hb9.size _) hd10.2 (by have := hb9.size; simp; omega) hg
      have ho10 := (ho9.alloc _).keptBy hd10.2 (fun k hk e => by have := (ho9.1.lt k hk).1; cases e; omega)
      obtain ⟨a', c', e', hm⟩ := (ho10.mono hs3).made hb10
      simp only [Value.slice.injEq, true_and] at e'
      obtain ⟨rfl, rfl⟩ := e'
      clear ho9 hc9 hb9 ho10 hb10 hd10
      go_wp2
      go_ret2
      exact ⟨_, _, _, _, _, rfl, by omega, hx, hm⟩
  | true =>
    go_wp2_with fail
    refine (spoilM g _ _ _ _ _ hc7 ho7.row hnil6 (by omega)).mono ?_
    rintro e w8 ⟨a8, n8, c8, l8, rfl, hn8, m8⟩
    have hb8 : Below w.heap.size w w8 := Below.drawn hb7 m8.drawn.2 hs7 hg
    have ho8 : Own w8 w3.heap.size (.slice a8 n8 c8) n8 l8 := m8.own.mono (by omega)
    have hc8 := m8.drawn.1
    clear m8 hb7 ho7 hc7 hnil6
    go_wp2_with fail
    refine (onceM g _ _ hc8 (by omega)).mono ?_
    rintro e w9 ⟨b2, rfl, hd9⟩
    have hb9 : Below w.heap.size w w9 := Below.drawn hb8 hd9.2 hb8.size hg
    have ho9 := ho8.keptBy hd9.2 (fun k hk e => by have := (ho8.1.lt k hk).1; cases e; omega)
    have hc9 := hd9.1
    have hl9 := hc9.lt
    clear hd9 hb8 ho8 hc8
    cases b2 with
    | false =>
      obtain ⟨a', c', e', hm⟩ := (ho9.mono hs3).made hb9
      simp only [Value.slice.injEq, true_and] at e'
      obtain ⟨rfl, rfl⟩ := e'
      clear ho9 hc9 hb9
      go_wp2
      go_ret2
      exact ⟨_, _, _, _, _, rfl, by omega, ⟨by omega, by omega⟩, hm⟩
    | true =>
      go_wp2_with fail
      refine (pickM g w9.heap.size 6 6 _ (hc9.alloc _) hl9 (by omega) (by omega) (ints_block w9 [-1, 0, (n8 : Int), (n8 : Int) + 1, 9223372036854775807, -9223372036854775808] (picks6 n8 (by omega)))).mono ?_
      rintro e w10 ⟨x, rfl, hx, hd10⟩
      have hb10 : Below w.heap.size w w10 := Below.drawn (hb9.alloc hb9.size _) hd10.2 (by have := hb9.size; simp; omega) hg
      have ho10 := (ho9.alloc _).keptBy hd10.2 (fun k hk e => by have := (ho9.1.lt k hk).1; cases e; omega)
      obtain ⟨a', c', e', hm⟩ := (ho10.mono hs3).made hb10
      simp only [Value.slice.injEq, true_and] at e'
      obtain ⟨rfl, rfl⟩ := e'
      clear ho9 hc9 hb9 ho10 hb10 hd10
      go_wp2
      go_ret2
      exact ⟨_, _, _, _, _, rfl, by omega, hx, hm⟩
end Go.Proofs.Ytbmnplfdlkbpgaa

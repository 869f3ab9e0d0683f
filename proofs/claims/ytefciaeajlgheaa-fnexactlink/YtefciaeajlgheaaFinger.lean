/- Finger: both bodies sum the name's bytes and a byte for each kind. -/
import Derived.Test.YtefciaeajlgheaaSum
import Derived.Test.YtefciaeajlgheaaInts
import Derived.Test.YtefciaeajlgheaaAppendB
import Derived.Test.YtefciaeajlgheaaJoined
namespace Go.Proofs.Ytefciaeajlgheaa
open Go.RowKit

/-- The byte of a kind. -/
def kindB (k : Int) : Int := if k = 0 then 0 else 1
def kindsB (l : List Int) : List Int := l.map kindB

theorem kindB_byte (k : Int) : 0 ≤ kindB k ∧ kindB k ≤ 255 := by unfold kindB; split <;> omega
theorem kindsB_len (l : List Int) : (kindsB l).length = l.length := by simp [kindsB]
theorem kindsB_at {l : List Int} {j : Nat} (h : j < l.length) : (kindsB l)[j]?.getD 0 = kindB (l[j]?.getD 0) := by simp [kindsB, h]
theorem kindsB_byte (l : List Int) : ∀ x ∈ kindsB l, 0 ≤ x ∧ x ≤ 255 := by
  intro x hx
  obtain ⟨k, _, rfl⟩ := List.mem_map.1 hx
  exact kindB_byte k

theorem kinds_next {l k : List Int} {j : Nat} (h : j < k.length) : l ++ (kindsB k).take (j + 1) = l ++ ((kindsB k).take j ++ [kindB (k[j]?.getD 0)]) := by
  rw [List.take_succ_eq_append_getElem (by rw [kindsB_len]; exact h)]
  congr 3
  simp [kindsB, h]

set_option maxRecDepth 100000 in
set_option maxHeartbeats 1000000 in
theorem specFinger (a : Option Addr) (n c : Nat) (l : List Int) (a2 : Option Addr) (n2 c2 : Nat) (k : List Int) (w : World) (h : BRow w a n l) (hnil : a = none → c = 0) (h2 : NRow w a2 n2 k) (hn : n ≤ 1048576) (hn2 : n2 ≤ 1048576) :
    Calls Try.prog 18 #[.slice a n c, .slice a2 n2 c2] w fun e w' => e = .returned (.int .i64 (sumTo (l ++ kindsB k) (n + n2))) ∧ Below w.heap.size w w' := by
  obtain ⟨hl2, hin, hc2⟩ := h2
  have hE := own_empty w
  have hBE := below_empty w
  have hrE := h.below hBE
  have Hl2 : Hid (k.length = n2) := hl2
  clear h hl2
  go_enter Try.func18, Try.ntmps18
  go_wp2_with (at_builtin; refine wpList_appendB rfl _ _ rfl w.heap.size _ 0 [] rfl hE a n c l rfl hrE hnil (by omega) (by simp) ?_)
  intro v1 w1 ho1 hg1
  have hb1 := hE.grown hg1 hBE (by simp)
  have ho2 : Own w1 w.heap.size v1 (n + 0) (l ++ (kindsB k).take 0) := by simpa using ho1
  have ho3 : Own w1 w.heap.size v1 n l := by simpa using ho1
  clear hE hBE hrE hnil hg1 ho1
  obtain ⟨a1, c1, rfl, _⟩ := ho3.made (w := w) hb1
  clear ho3
  go_wp2
  go_loopw [5, 6] (fun s i wr => ∃ j : Nat, j ≤ n2 ∧ i = .int .i64 j ∧ Hid (∃ a c, s = .slice a (n + j) c) ∧ Hid (Own wr w.heap.size s (n + j) (l ++ (kindsB k).take j)) ∧ Below w.heap.size w wr) (fun _ i _ => n2 - (intOf i).toNat)
  case atStart => exact ⟨0, Nat.zero_le _, rfl, ⟨_, _, rfl⟩, ho2, hb1⟩
  case round =>
    obtain ⟨j, hj, rfl, hsh, ho, hb⟩ := hrel
    obtain ⟨a3, c3, rfl⟩ := hsh.out
    clear ho2 hb1
    by_cases hlt : j < n2
    · obtain ⟨b, off, rfl, hd⟩ := hc2 (by omega)
      have hx := (hb.cell (World.block_lt_of_cell? w _ (hd j hlt))).trans (hd j hlt)
      have hs := hb.size
      have HK : Hid (l ++ (kindsB k).take (j + 1) = l ++ ((kindsB k).take j ++ [kindB (k[j]?.getD 0)])) := kinds_next (by rw [Hl2.out]; exact hlt)
      have HO := ho.out
      clear hc2 hd ho
      by_cases h0 : k[j]?.getD 0 = 0
      · have hk : kindB (k[j]?.getD 0) = 0 := by simp [kindB, h0]
        rw [h0] at hx
        have HE := HK.out
        rw [hk] at HE
        have HE' : Hid _ := HE
        clear HE hk HK h0
        have hO' := HO.alloc (.cells #[.int .u8 0] 5)
        have hone := one_row wr 0 (by omega) (by omega)
        have hb' : Below w.heap.size w (wr.alloc (.cells #[.int .u8 0] 5)) := hb.alloc hs _
        have hs' := hb'.size
        clear HO
        go_wp2_with (at_builtin; refine wpList_appendB rfl _ _ rfl w.heap.size _ (n + j) _ rfl hO' _ 1 1 [0] rfl hone (by simp) (by omega) hs' ?_)
        intro v4 w4 ho4 hg4
        have hb4 := hO'.grown hg4 hb' hs'
        rw [← HE'.out] at ho4
        have HO4 : Hid (Own w4 w.heap.size v4 (n + (j + 1)) (l ++ (kindsB k).take (j + 1))) := ho4
        obtain ⟨a4, c4, rfl, _⟩ := ho4.made (w := w) hb4
        clear ho4 hO' hone hb' hg4 hb
        go_wp2
        go_roundw
        case rel => exact ⟨j + 1, by omega, by go_num, ⟨_, _, rfl⟩, HO4, hb4⟩
        case measure => simp [intOf]; omega
      · have hk : kindB (k[j]?.getD 0) = 1 := by simp [kindB, h0]
        have HE := HK.out
        rw [hk] at HE
        have HE' : Hid _ := HE
        have hne : (k[j]?.getD 0 != 0) = true := by simp [h0]
        clear HE hk HK
        have hO' := HO.alloc (.cells #[.int .u8 1] 5)
        have hone := one_row wr 1 (by omega) (by omega)
        have hb' : Below w.heap.size w (wr.alloc (.cells #[.int .u8 1] 5)) := hb.alloc hs _
        have hs' := hb'.size
        clear HO
        generalize k[j]?.getD 0 = x at *
        go_wp2_with (at_builtin; refine wpList_appendB rfl _ _ rfl w.heap.size _ (n + j) _ rfl hO' _ 1 1 [1] rfl hone (by simp) (by omega) hs' ?_)
        intro v4 w4 ho4 hg4
        have hb4 := hO'.grown hg4 hb' hs'
        rw [← HE'.out] at ho4
        have HO4 : Hid (Own w4 w.heap.size v4 (n + (j + 1)) (l ++ (kindsB k).take (j + 1))) := ho4
        obtain ⟨a4, c4, rfl, _⟩ := ho4.made (w := w) hb4
        clear ho4 hO' hone hb' hg4 hb
        go_wp2
        go_roundw
        case rel => exact ⟨j + 1, by omega, by go_num, ⟨_, _, rfl⟩, HO4, hb4⟩
        case measure => simp [intOf]; omega
    · have hjn : j = n2 := by omega
      subst hjn
      have hr := ho.out.row
      rw [List.take_of_length_le (by rw [kindsB_len, Hl2.out]; exact Nat.le_refl _)] at hr
      clear hc2 ho
      go_wp2_with fail
      refine (specSum _ _ _ _ _ hr (by omega)).mono ?_
      rintro e w5 ⟨rfl, rfl⟩
      go_wp2
      go_ret
      exact ⟨rfl, hb⟩

theorem truthC (x : Bool) (w : World) : Calls Try.prog 59 #[.bool x] w fun e w' => e = .returned (.int .i64 (if x then 1 else 0)) ∧ w' = w := by
  cases x
  · go_enter Try.func59, Try.ntmps59
    go_wp2
    go_ret
    exact ⟨rfl, rfl⟩
  · go_enter Try.func59, Try.ntmps59
    go_wp2
    go_ret
    exact ⟨rfl, rfl⟩

set_option maxRecDepth 100000 in
set_option maxHeartbeats 1000000 in
theorem implFinger (a : Option Addr) (n c : Nat) (l : List Int) (a2 : Option Addr) (n2 c2 : Nat) (k : List Int) (w : World) (h : BRow w a n l) (h2 : NRow w a2 n2 k) (hn : n ≤ 1048576) (hn2 : n2 ≤ 1048576) :
    Calls Try.prog 27 #[.slice a n c, .slice a2 n2 c2] w fun e w' => e = .returned (.int .i64 (sumTo (l ++ kindsB k) (n + n2))) ∧ Below w.heap.size w w' := by
  obtain ⟨i0, hi, hz0, hz1, hz2⟩ := info_parts info5
  obtain ⟨hl2, hin, hc2⟩ := h2
  have Hl2 : Hid (k.length = n2) := hl2
  clear hl2
  go_enter Try.func27, Try.ntmps27
  go_wp2_with (at_make; refine wpList_make_full _ rfl _ _ 38 rfl w.heap.size 5 i0 (.int .u8 0) 1 Try.underlying38 hi hz0 hz1 _ _ _ _ n2 rfl rfl rfl rfl (by rw [hz2]; omega) (by unfold maxLen; omega) (Nat.le_refl _) ?_)
  intro w1 hown hgrow
  have hb : Below w.heap.size w w1 := (Below.refl _ _).grown hgrow (Nat.le_refl _) (by intro k hk; cases hk)
  have HO : w1.ownsRow w.heap.size 5 1 (.slice (some ⟨w.heap.size, 0, none⟩) n2 n2) n2 (((kindsB k).take 0 ++ (List.replicate n2 0).drop 0).map (Value.int .u8)) := by
    have e : (madeCells #[Value.int IntKind.u8 0] n2).toList = List.replicate n2 (Value.int IntKind.u8 0) := toList_madeCells_one _ _
    rw [e] at hown
    simpa using hown
  clear hown hgrow
  go_wp2
  go_loopw [6, 7, 13] (fun _ _ i wr => ∃ j : Nat, j ≤ n2 ∧ i = .int .i64 j ∧ Hid (wr.ownsRow w.heap.size 5 1 (.slice (some ⟨w.heap.size, 0, none⟩) n2 n2) n2 (((kindsB k).take j ++ (List.replicate n2 0).drop j).map (Value.int .u8))) ∧ Below w.heap.size w wr) (fun _ _ i _ => n2 - (intOf i).toNat)
  case atStart => exact ⟨0, Nat.zero_le _, rfl, HO, hb⟩
  case round =>
    obtain ⟨j, hj, rfl, hown, hbr⟩ := hrel
    clear HO hb
    by_cases hlt : j < n2
    · obtain ⟨b, off, rfl, hd⟩ := hc2 (by omega)
      have hx := (hbr.cell (World.block_lt_of_cell? w _ (hd j hlt))).trans (hd j hlt)
      have hcy : ∃ u, wr.cell? ⟨w.heap.size, j, none⟩ = some u := by
        rw [hown.out.cellAt j (by omega)]
        exact ⟨_, List.getElem?_eq_getElem (by have := hown.out.1; omega)⟩
      obtain ⟨u, hcy⟩ := hcy
      have hfy : wr.frozen? ⟨w.heap.size, j, none⟩ = false := hown.out.frozenAt j
      have R := copy_round (l := kindsB k) (by rw [kindsB_len]; exact Hl2.out) (List.length_replicate) hlt (Nat.le_refl _) hown.out hbr
      rw [kindsB_at (by rw [Hl2.out]; exact hlt)] at R
      simp only [kindB] at R
      have R1 : Hid _ := R.1
      have R2 : Hid _ := R.2
      clear R hown hc2 hd
      generalize k[j]?.getD 0 = x at *
      go_wp2_with fail
      refine (truthC _ _).mono ?_
      rintro e w5 ⟨rfl, rfl⟩
      go_wp2
      go_roundw
      case rel =>
        exact ⟨j + 1, by omega, by go_num, R1, R2.out⟩
      case measure => simp [intOf]; omega
    · have hjn : j = n2 := by omega
      subst hjn
      have hrow : BRow wr (some ⟨w.heap.size, 0, none⟩) j (kindsB k) := by
        have ho : Own wr w.heap.size (.slice (some ⟨w.heap.size, 0, none⟩) j j) j (kindsB k) := by
          refine ⟨?_, kindsB_byte k⟩
          have := hown.out
          rwa [List.take_of_length_le (by rw [kindsB_len, Hl2.out]; exact Nat.le_refl _), List.drop_of_length_le (by simp), List.append_nil] at this
        exact ho.row
      have hr := h.below hbr
      clear hc2 hown h
      go_wp2_with fail
      refine (joinedV _ _ _ _ _ _ _ _ _ hr hrow (by omega) (by omega)).mono ?_
      rintro e w5 ⟨v, rfl, ho, hb5⟩
      have hb6 := hbr.trans (hb5.mono hbr.size)
      obtain ⟨a6, c6, rfl, m6⟩ := ho.made hb5
      have hr6 := m6.row
      clear m6 ho hb5 hbr hrow hr
      go_wp2_with fail
      refine (implSum _ _ _ _ _ hr6 (by omega)).mono ?_
      rintro e w7 ⟨rfl, rfl⟩
      go_wp2
      go_ret
      exact ⟨rfl, hb6⟩
end Go.Proofs.Ytefciaeajlgheaa

/- joined: two rows of bytes, one behind the other, in new memory. -/
import Derived.Test.YtefciaeajlgheaaBase
namespace Go.Proofs.Ytefciaeajlgheaa
open Go.RowKit

theorem splice_two {α : Type} (Z X Y : List α) (n1 n2 : Nat) (h1 : X.length = n1) (h2 : Y.length = n2) (hz : Z.length = n1 + n2) : splice (splice Z 0 X) n1 Y = X ++ Y := by
  subst h1; subst h2
  have e : splice Z 0 X = X ++ Z.drop X.length := by simp [splice]
  rw [e]
  unfold splice
  rw [List.take_left, List.drop_append, List.drop_of_length_le (by omega), List.nil_append, List.drop_of_length_le (by simp; omega), List.append_nil]

set_option maxHeartbeats 1000000 in
theorem joinedB (a1 : Option Addr) (n1 c1 : Nat) (l1 : List Int) (a2 : Option Addr) (n2 c2 : Nat) (l2 : List Int) (w : World) (h1 : BRow w a1 n1 l1) (h2 : BRow w a2 n2 l2) (hn1 : n1 ≤ 1073741824) (hn2 : n2 ≤ 1073741824) :
    Calls Try.prog 61 #[.slice a1 n1 c1, .slice a2 n2 c2] w fun e w' => e = .returned (.slice (some ⟨w.heap.size, 0, none⟩) (n1 + n2) (n1 + n2)) ∧ Own w' w.heap.size (.slice (some ⟨w.heap.size, 0, none⟩) (n1 + n2) (n1 + n2)) (n1 + n2) (l1 ++ l2) ∧ Below w.heap.size w w' := by
  obtain ⟨i0, hi, hz0, hz1, hz2⟩ := info_parts info5
  have hsz : (Try.prog.info? 5).map (·.size) = some 1 := by kernel_rfl
  have hl1 := h1.1
  have hl2 := h2.1
  have HL1 : Hid _ := hl1
  have HL2 : Hid _ := hl2
  obtain ⟨X1, hX1⟩ : ∃ X, X = l1.map (Value.int .u8) := ⟨_, rfl⟩
  obtain ⟨X2, hX2⟩ : ∃ X, X = l2.map (Value.int .u8) := ⟨_, rfl⟩
  have hx1 : X1.length = n1 := by rw [hX1]; simpa using hl1
  have hx2 : X2.length = n2 := by rw [hX2]; simpa using hl2
  have HX1 : Hid _ := hX1
  have HX2 : Hid _ := hX2
  have HN1 : Hid _ := hx1
  have HN2 : Hid _ := hx2
  have one1 : ∀ v ∈ X1, v.oneCell' = true := by rw [hX1]; exact ints_oneCell _ _
  have one2 : ∀ v ∈ X2, v.oneCell' = true := by rw [hX2]; exact ints_oneCell _ _
  clear hX1 hX2 hx1 hx2 hl1 hl2
  go_enter Try.func61, Try.ntmps61
  go_wp2_with (at_make; refine wpList_make_full _ rfl _ _ 38 rfl w.heap.size 5 i0 (.int .u8 0) 1 Try.underlying38 hi hz0 hz1 _ _ _ _ (n1 + n2) rfl rfl (by omega) (by omega) (by rw [hz2]; omega) (by unfold maxLen; omega) (Nat.le_refl _) ?_)
  intro w1 hown hgrow
  have hb : Below w.heap.size w w1 := (Below.refl _ _).grown hgrow (Nat.le_refl _) (by intro k hk; cases hk)
  have hg := block_of_owns hown
  have e : (madeCells #[Value.int IntKind.u8 0] (n1 + n2)).toList = List.replicate (n1 + n2) (Value.int IntKind.u8 0) := toList_madeCells_one _ _
  rw [e] at hg
  obtain ⟨Z, hZ⟩ : ∃ Z, Z = List.replicate (n1 + n2) (Value.int IntKind.u8 0) := ⟨_, rfl⟩
  rw [← hZ] at hg
  have hzl : Hid (Z.length = n1 + n2) := by show Z.length = n1 + n2; rw [hZ]; simp
  have HG : Hid _ := hg
  clear hZ e hown hgrow hg
  have P1 : Hid (0 < X1.length → ∃ ad, a1 = some ad ∧ ∀ j v, X1[j]? = some v → w1.cell? (ad.add j) = some v) := by
    intro hp; rw [HX1.out] at hp ⊢; exact (h1.below hb).pos hp
  have N1 : Hid (X1.length = Nat.min n1 (n1 + n2)) := by
    show X1.length = Nat.min n1 (n1 + n2); rw [HN1.out]; exact (Nat.min_eq_left (by omega)).symm
  have F1 : Hid (0 + X1.length ≤ Z.length) := by show 0 + X1.length ≤ Z.length; rw [HN1.out, hzl.out]; omega
  go_wp2_with (refine wpList_copy_splice rfl (.tmp 12) (.tmp 13) 38 38 rfl 5 Try.underlying38 hsz _ _ _ _ _ _ rfl rfl w.heap.size 0 Z 5 HG.out X1 N1.out (fun hp => ⟨rfl, P1.out hp⟩) F1.out one1 w.heap.size w hb (Nat.le_refl _) ?_)
  intro w2 hg2 hb2
  clear P1 N1 F1 HG one1
  have P2 : Hid (0 < X2.length → ∃ ad, a2 = some ad ∧ ∀ j v, X2[j]? = some v → w2.cell? (ad.add j) = some v) := by
    intro hp; rw [HX2.out] at hp ⊢; exact (h2.below hb2).pos hp
  have N2 : Hid (X2.length = Nat.min n2 n2) := by
    show X2.length = Nat.min n2 n2; rw [HN2.out]; exact (Nat.min_eq_left (by omega)).symm
  have F2 : Hid (n1 + X2.length ≤ (splice Z 0 X1).length) := by
    show n1 + X2.length ≤ (splice Z 0 X1).length; rw [length_splice _ _ _ (by rw [HN1.out, hzl.out]; omega), HN2.out, hzl.out]; omega
  have fin : ∀ w' : World, Hid (w'.heap[w.heap.size]? = some (.cells (splice (splice Z 0 X1) n1 X2).toArray 5 (0, 0))) → Own w' w.heap.size (.slice (some ⟨w.heap.size, 0, none⟩) (n1 + n2) (n1 + n2)) (n1 + n2) (l1 ++ l2) := by
    intro w' hg
    have hg' := hg.out
    rw [splice_two Z X1 X2 n1 n2 HN1.out HN2.out hzl.out, HX1.out, HX2.out, ← List.map_append] at hg'
    have := own_of_block (base := w.heap.size) hg' (Nat.le_refl _) (by rw [List.length_append, HL1.out, HL2.out]; unfold maxLen; omega) (fun x hx => (List.mem_append.1 hx).elim (h1.2.1 x) (h2.2.1 x))
    rwa [List.length_append, HL1.out, HL2.out] at this
  clear h1 h2 hb HL1 HL2 HX1 HX2
  by_cases hz : n2 = 0
  · subst hz
    go_wp2_with (refine wpList_copy_splice rfl (.tmp 18) (.tmp 19) 38 38 rfl 5 Try.underlying38 hsz _ _ _ _ _ _ rfl rfl w.heap.size n1 (splice Z 0 X1) 5 hg2.out X2 N2.out (fun hp => ⟨absurd hp (by have := HN2.out; omega), P2.out hp⟩) F2.out one2 w.heap.size w hb2 (Nat.le_refl _) ?_)
    intro w3 hg3 hb3
    go_wp2
    go_ret
    exact ⟨rfl, fin _ hg3, hb3⟩
  · go_wp2_with (refine wpList_copy_splice rfl (.tmp 18) (.tmp 19) 38 38 rfl 5 Try.underlying38 hsz _ _ _ _ _ _ rfl rfl w.heap.size n1 (splice Z 0 X1) 5 hg2.out X2 N2.out (fun hp => ⟨rfl, P2.out hp⟩) F2.out one2 w.heap.size w hb2 (Nat.le_refl _) ?_)
    intro w3 hg3 hb3
    go_wp2
    go_ret
    exact ⟨rfl, fin _ hg3, hb3⟩

theorem joinedV (a1 : Option Addr) (n1 c1 : Nat) (l1 : List Int) (a2 : Option Addr) (n2 c2 : Nat) (l2 : List Int) (w : World) (h1 : BRow w a1 n1 l1) (h2 : BRow w a2 n2 l2) (hn1 : n1 ≤ 1073741824) (hn2 : n2 ≤ 1073741824) :
    Calls Try.prog 61 #[.slice a1 n1 c1, .slice a2 n2 c2] w fun e w' => ∃ v, e = .returned v ∧ Own w' w.heap.size v (n1 + n2) (l1 ++ l2) ∧ Below w.heap.size w w' := by
  refine (joinedB a1 n1 c1 l1 a2 n2 c2 l2 w h1 h2 hn1 hn2).mono ?_
  rintro e w' ⟨rfl, ho, hb⟩
  exact ⟨_, rfl, ho, hb⟩
end Go.Proofs.Ytefciaeajlgheaa

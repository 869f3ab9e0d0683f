/- PutText: both bodies put a text's length and its bytes behind what was there; too long a text adds nothing. -/
import Derived.Test.YtplbblilgalopaaPutImpl
namespace Go.Proofs.Ytplbblilgalopaa
open Go.RowKit

/-- What PutText puts behind what was there. -/
def textL (t : List Int) : List Int := if t.length ≤ 40 then num t.length ++ t else []

theorem textL_le (t : List Int) : (textL t).length ≤ 45 := by
  unfold textL
  split
  · have := num_len5 t.length (by omega); simp; omega
  · simp

set_option maxRecDepth 100000 in
set_option maxHeartbeats 1000000 in
theorem specTextM (a : Option Addr) (n c : Nat) (l : List Int) (a2 : Option Addr) (n2 c2 : Nat) (l2 : List Int) (w : World) (h : BRow w a n l) (hnil : a = none → c = 0) (h2 : BRow w a2 n2 l2) (hnil2 : a2 = none → c2 = 0) (hn : n ≤ 1073741824) (hn2 : n2 ≤ 1073741824) :
    Calls Try.prog 63 #[.slice a n c, .slice a2 n2 c2] w fun e w' => ∃ a' c', e = .returned (.slice a' (n + (textL l2).length) c') ∧ Made w w' a' (n + (textL l2).length) c' (l ++ textL l2) := by
  refine Calls.made ?_
  have hl2 := h2.1
  by_cases hlong : 40 < n2
  · have ht : textL l2 = [] := by unfold textL; rw [if_neg (by omega)]
    have hE := own_empty w
    have hBE := below_empty w
    have hrE := h.below hBE
    have HT : Hid _ := ht
    clear h h2 hl2 ht hnil2
    go_enter Try.func63, Try.ntmps63
    go_wp2_with (at_builtin; refine wpList_appendB rfl _ _ rfl w.heap.size _ 0 [] rfl hE a n c l rfl hrE hnil (by omega) (by simp) ?_)
    intro v1 w1 ho1 hg1
    have hb1 := hE.grown hg1 hBE (by simp)
    have ho2 : Own w1 w.heap.size v1 n l := by simpa using ho1
    clear hE hBE hrE hnil hg1 ho1
    go_wp2
    go_ret
    refine ⟨v1, rfl, ?_, hb1⟩
    rw [HT.out]
    simpa using ho2
  · have ht : textL l2 = num n2 ++ l2 := by unfold textL; rw [if_pos (by omega), hl2]
    have hp : putL (n2 : Int) = num n2 := by unfold putL; rw [if_pos (by omega), Int.toNat_natCast]
    have h5 := num_len5 n2 (by omega)
    have HT : Hid _ := ht
    have HP : Hid _ := hp
    have h2l : Hid _ := hl2
    clear ht hp hl2
    go_enter Try.func63, Try.ntmps63
    go_wp2_with fail
    refine (specPutM _ _ _ l (n2 : Int) _ h hnil hn).mono ?_
    rintro e w1 ⟨a1, c1, rfl, m1⟩
    rw [HP.out] at m1 ⊢
    have o1 := m1.own
    have b1 := m1.below
    have r2 := h2.below b1
    have s1 := b1.size
    clear m1 h h2
    generalize num n2 = d at *
    go_wp2_with (at_builtin; refine wpList_appendB rfl _ _ rfl w.heap.size _ (n + d.length) (l ++ d) rfl o1 a2 n2 c2 l2 rfl r2 hnil2 (by omega) s1 ?_)
    intro v2 w2 ho2 hg2
    have hb2 := o1.grown hg2 b1 s1
    clear hg2 o1 b1 r2 hnil2
    go_wp2
    go_ret
    refine ⟨v2, rfl, ?_, hb2⟩
    rw [HT.out, List.length_append]
    simpa [Nat.add_assoc, h2l.out] using ho2

set_option maxRecDepth 100000 in
set_option maxHeartbeats 1000000 in
theorem implTextM (a : Option Addr) (n c : Nat) (l : List Int) (a2 : Option Addr) (n2 c2 : Nat) (l2 : List Int) (w : World) (h : BRow w a n l) (h2 : BRow w a2 n2 l2) (hn : n ≤ 1000000000) (hn2 : n2 ≤ 1073741824) :
    Calls Try.prog 35 #[.slice a n c, .slice a2 n2 c2] w fun e w' => ∃ a' c', e = .returned (.slice a' (n + (textL l2).length) c') ∧ Made w w' a' (n + (textL l2).length) c' (l ++ textL l2) := by
  refine Calls.made ?_
  have hl2 := h2.1
  by_cases hlong : 40 < n2
  · have ht : textL l2 = [] := by unfold textL; rw [if_neg (by omega)]
    have HT : Hid _ := ht
    clear h2 hl2 ht
    go_enter Try.func35, Try.ntmps35
    go_wp2_with fail
    refine (joinedV _ _ _ l _ 0 _ [] _ h (nil_row _) (by omega) (by omega)).mono ?_
    rintro e w3 ⟨v, rfl, ho3, hb3⟩
    clear h
    go_wp2
    go_ret
    refine ⟨v, rfl, ?_, hb3⟩
    rw [HT.out]
    exact ho3
  · have ht : textL l2 = num n2 ++ l2 := by unfold textL; rw [if_pos (by omega), hl2]
    have hp : putL (n2 : Int) = num n2 := by unfold putL; rw [if_pos (by omega), Int.toNat_natCast]
    have h5 := num_len5 n2 (by omega)
    have HT : Hid _ := ht
    have HP : Hid _ := hp
    have h2l : Hid _ := hl2
    clear ht hp hl2
    go_enter Try.func35, Try.ntmps35
    go_wp2_with fail
    refine (implPutM _ _ _ l (n2 : Int) _ h (by omega)).mono ?_
    rintro e w1 ⟨a1, c1, rfl, m1⟩
    rw [HP.out] at m1 ⊢
    have r1 := m1.row
    have b1 := m1.below
    have r2 := h2.below b1
    have s1 := b1.size
    clear m1 h h2
    generalize num n2 = d at *
    go_wp2_with fail
    refine (joinedV _ _ _ (l ++ d) _ _ _ l2 _ r1 r2 (by omega) (by omega)).mono ?_
    rintro e w3 ⟨v, rfl, ho3, hb3⟩
    have ho4 := ho3.mono s1
    have hb4 : Below w.heap.size w w3 := b1.trans (hb3.mono s1)
    clear ho3 hb3 r1 r2 b1
    go_wp2
    go_ret
    refine ⟨v, rfl, ?_, hb4⟩
    rw [HT.out, List.length_append]
    simpa [Nat.add_assoc, h2l.out] using ho4
end Go.Proofs.Ytplbblilgalopaa

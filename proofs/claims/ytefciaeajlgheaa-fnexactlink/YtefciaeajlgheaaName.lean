/- Names: both bodies tell the same of every slice of bytes. -/
import Derived.Test.YtefciaeajlgheaaBase
namespace Go.Proofs.Ytefciaeajlgheaa
open Go.RowKit

def lowB (x : Int) : Bool := decide (97 ≤ x) && decide (x ≤ 122)
def upB (x : Int) : Bool := decide (65 ≤ x) && decide (x ≤ 90)
def digB (x : Int) : Bool := decide (48 ≤ x) && decide (x ≤ 57)

/-- May the byte at j stand there? -/
def okAt (l : List Int) (g : Bool) (j : Nat) : Bool :=
  if j = 0 then (if g then upB (l[0]?.getD 0) else lowB (l[0]?.getD 0)) else (lowB (l[j]?.getD 0) || digB (l[j]?.getD 0))

/-- May these bytes be a name? -/
def nameOk (l : List Int) (g : Bool) : Bool := decide (1 ≤ l.length) && decide (l.length ≤ 8) && (List.range l.length).all (okAt l g)

theorem nameOk_short {l : List Int} {g : Bool} (h : l.length < 1) : nameOk l g = false := by
  unfold nameOk; rw [decide_eq_false (by omega : ¬ 1 ≤ l.length)]; rfl

theorem nameOk_long {l : List Int} {g : Bool} (h : 8 < l.length) : nameOk l g = false := by
  unfold nameOk; rw [decide_eq_false (by omega : ¬ l.length ≤ 8)]; simp

theorem nameOk_not {l : List Int} {g : Bool} {j : Nat} (h : j < l.length) (hb : okAt l g j = false) : nameOk l g = false := by
  have : (List.range l.length).all (okAt l g) = false := by
    rw [List.all_eq_false]
    exact ⟨j, List.mem_range.2 h, by simp [hb]⟩
  unfold nameOk; rw [this]; simp

theorem nameOk_yes {l : List Int} {g : Bool} (h1 : 1 ≤ l.length) (h8 : l.length ≤ 8) (h : ∀ j < l.length, okAt l g j = true) : nameOk l g = true := by
  have : (List.range l.length).all (okAt l g) = true := List.all_eq_true.2 fun j hj => h j (List.mem_range.1 hj)
  unfold nameOk; rw [this, decide_eq_true h1, decide_eq_true h8]; rfl

theorem classes (x : Int) : x < 48 ∨ (48 ≤ x ∧ x ≤ 57) ∨ (57 < x ∧ x < 65) ∨ (65 ≤ x ∧ x ≤ 90) ∨ (90 < x ∧ x < 97) ∨ (97 ≤ x ∧ x ≤ 122) ∨ 122 < x := by omega

theorem before_next {P : Nat → Prop} {k : Nat} (h : ∀ j < k, P j) (hk : P k) : ∀ j < k + 1, P j := by
  intro j hj
  rcases Nat.lt_or_ge j k with h1 | h1
  · exact h j h1
  · have : j = k := by omega
    subst this; exact hk

set_option maxRecDepth 4000 in
set_option maxHeartbeats 4000000 in
theorem specNameOk (a : Option Addr) (n c : Nat) (l : List Int) (g : Bool) (w : World) (h : BRow w a n l) (hn : n ≤ 1073741824) :
    Calls Try.prog 42 #[.slice a n c, .bool g] w fun e w' => e = .returned (.bool (nameOk l g)) ∧ w' = w := by
  obtain ⟨hl, hby, hc⟩ := h
  by_cases h0 : n < 1
  · have hd : Hid (nameOk l g = false) := nameOk_short (by omega)
    clear hc hl hby
    go_enter Try.func42, Try.ntmps42
    go_wp2
    go_ret
    exact ⟨ret_bool hd.out.symm, rfl⟩
  by_cases h8 : 8 < n
  · have hd : Hid (nameOk l g = false) := nameOk_long (by omega)
    clear hc hl hby
    go_enter Try.func42, Try.ntmps42
    go_wp2
    go_ret
    exact ⟨ret_bool hd.out.symm, rfl⟩
  obtain ⟨b, off, rfl, hd⟩ := hc (by omega)
  clear hc
  have Hl : Hid (l.length = n) := hl
  clear hl
  go_enter Try.func42, Try.ntmps42
  go_wp2
  go_loop [5, 6, 7, 8] (fun i _ _ _ => ∃ j : Nat, j ≤ n ∧ i = .int .i64 j ∧ Hid (∀ m < j, okAt l g m = true)) (fun i _ _ _ => n - (intOf i).toNat)
  case atStart => exact ⟨0, Nat.zero_le _, rfl, by intro m hm; omega⟩
  case round =>
    obtain ⟨j, hj, rfl, hall⟩ := hrel
    by_cases hlt : j < n
    · have hx := hd j hlt
      have hb := byte_at hby j
      clear hd hby
      have HL : Hid (j < l.length) := by show j < l.length; rw [Hl.out]; exact hlt
      generalize hxx : l[j]?.getD 0 = x at hx hb
      have HX : Hid (l[j]?.getD 0 = x) := hxx
      clear hxx
      by_cases hj0 : j = 0
      · subst hj0
        have hx0 : w.cell? ⟨b, off, none⟩ = some (.int .u8 x) := by simpa using hx
        clear hx
        rcases g with _ | _ <;> rcases classes x with hc | ⟨hc, hc'⟩ | ⟨hc, hc'⟩ | ⟨hc, hc'⟩ | ⟨hc, hc'⟩ | ⟨hc, hc'⟩ | hc
        all_goals go_wp2
        all_goals
          first
            | (go_ret
               refine ⟨ret_bool (nameOk_not HL.out ?_).symm, rfl⟩
               simp only [okAt, if_true, HX.out, lowB, upB]
               simp
               omega)
            | (go_round
               case rel =>
                 refine ⟨0 + 1, by omega, by go_num, before_next hall.out ?_⟩
                 simp only [okAt, if_true, HX.out, lowB, upB]
                 simp
                 omega
               case measure => simp [intOf]; omega)
            | (exfalso
               simp only [Bool.not_eq_eq_eq_not, Bool.not_false, decide_eq_true_eq] at *
               omega)
      · have HJ : Hid (j ≠ 0) := hj0
        have hji : 0 < (j : Int) := by omega
        rcases classes x with hc | ⟨hc, hc'⟩ | ⟨hc, hc'⟩ | ⟨hc, hc'⟩ | ⟨hc, hc'⟩ | ⟨hc, hc'⟩ | hc
        all_goals go_wp2
        all_goals
          first
            | (go_ret
               refine ⟨ret_bool (nameOk_not HL.out ?_).symm, rfl⟩
               simp only [okAt, if_neg HJ.out, HX.out, lowB, digB]
               simp
               omega)
            | (go_round
               case rel =>
                 refine ⟨j + 1, by omega, by go_num, before_next hall.out ?_⟩
                 simp only [okAt, if_neg HJ.out, HX.out, lowB, digB]
                 simp
                 omega
               case measure => simp [intOf]; omega)
            | (exfalso
               simp only [Bool.not_eq_eq_eq_not, Bool.not_false, decide_eq_true_eq] at *
               omega)
    · clear hd
      go_wp2
      go_ret
      have hjn : j = n := by omega
      subst hjn
      exact ⟨ret_bool (nameOk_yes (by rw [Hl.out]; omega) (by rw [Hl.out]; omega) (by rw [Hl.out]; exact hall.out)).symm, rfl⟩

end Go.Proofs.Ytefciaeajlgheaa

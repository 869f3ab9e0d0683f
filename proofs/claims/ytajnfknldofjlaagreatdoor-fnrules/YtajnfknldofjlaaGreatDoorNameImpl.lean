/- Names: what the program tells of a slice of bytes. -/
import Derived.Test.YtajnfknldofjlaaGreatDoorName
namespace Go.Proofs.YtajnfknldofjlaaGreatDoor
open Go.RowKit

theorem inRangeC (n lo hi : Int) (w : World) :
    Calls Tryz.prog 86 #[.int .i64 n, .int .i64 lo, .int .i64 hi] w fun e w' => e = .returned (.bool (decide (lo ≤ n) && decide (n ≤ hi))) ∧ w' = w := by
  by_cases h1 : lo ≤ n
  · go_enter Tryz.func86, Tryz.ntmps86
    go_wp2
    go_ret
    exact ⟨ret_bool (by simp [h1]), rfl⟩
  · go_enter Tryz.func86, Tryz.ntmps86
    go_wp2
    go_ret
    exact ⟨ret_bool (by simp; omega), rfl⟩

theorem isSmallC (x : Int) (w : World) : Calls Tryz.prog 97 #[.int .u8 x] w fun e w' => e = .returned (.bool (lowB x)) ∧ w' = w := by
  by_cases h1 : 97 ≤ x
  · go_enter Tryz.func97, Tryz.ntmps97
    go_wp2
    go_ret
    exact ⟨ret_bool (by simp [lowB, h1]), rfl⟩
  · go_enter Tryz.func97, Tryz.ntmps97
    go_wp2
    go_ret
    exact ⟨ret_bool (by simp [lowB]; omega), rfl⟩

theorem isDigitC (x : Int) (w : World) : Calls Tryz.prog 98 #[.int .u8 x] w fun e w' => e = .returned (.bool (digB x)) ∧ w' = w := by
  by_cases h1 : 48 ≤ x
  · go_enter Tryz.func98, Tryz.ntmps98
    go_wp2
    go_ret
    exact ⟨ret_bool (by simp [digB, h1]), rfl⟩
  · go_enter Tryz.func98, Tryz.ntmps98
    go_wp2
    go_ret
    exact ⟨ret_bool (by simp [digB]; omega), rfl⟩

theorem isFirstC (x : Int) (g : Bool) (w : World) : Calls Tryz.prog 96 #[.int .u8 x, .bool g] w fun e w' => e = .returned (.bool (if g then upB x else lowB x)) ∧ w' = w := by
  cases g
  · go_enter Tryz.func96, Tryz.ntmps96
    go_wp2_with fail
    refine (isSmallC _ _).mono ?_
    rintro e w ⟨rfl, rfl⟩
    go_wp2
    go_ret
    exact ⟨rfl, rfl⟩
  · by_cases h1 : 65 ≤ x
    · go_enter Tryz.func96, Tryz.ntmps96
      go_wp2
      go_ret
      exact ⟨ret_bool (by simp [upB, h1]), rfl⟩
    · go_enter Tryz.func96, Tryz.ntmps96
      go_wp2
      go_ret
      exact ⟨ret_bool (by simp [upB]; omega), rfl⟩

set_option maxHeartbeats 4000000 in
theorem implNameOk (a : Option Addr) (n c : Nat) (l : List Int) (g : Bool) (w : World) (h : BRow w a n l) (hn : n ≤ 1073741824) (hnc : n ≤ c) :
    Calls Tryz.prog 58 #[.slice a n c, .bool g] w fun e w' => e = .returned (.bool (nameOk l g)) ∧ w' = w := by
  obtain ⟨hl, hby, hc⟩ := h
  by_cases h0 : n < 1
  · have hd : Hid (nameOk l g = false) := nameOk_short (by omega)
    have hr : (decide ((1 : Int) ≤ (n : Int)) && decide ((n : Int) ≤ 8)) = false := by simp; omega
    clear hc hl hby
    go_enter Tryz.func58, Tryz.ntmps58
    go_wp2_with fail
    refine (inRangeC _ _ _ _).mono ?_
    rintro e w ⟨rfl, rfl⟩
    rw [hr]
    go_wp2
    go_ret
    exact ⟨ret_bool hd.out.symm, rfl⟩
  by_cases h8 : 8 < n
  · have hd : Hid (nameOk l g = false) := nameOk_long (by omega)
    have hr : (decide ((1 : Int) ≤ (n : Int)) && decide ((n : Int) ≤ 8)) = false := by simp; omega
    clear hc hl hby
    go_enter Tryz.func58, Tryz.ntmps58
    go_wp2_with fail
    refine (inRangeC _ _ _ _).mono ?_
    rintro e w ⟨rfl, rfl⟩
    rw [hr]
    go_wp2
    go_ret
    exact ⟨ret_bool hd.out.symm, rfl⟩
  obtain ⟨b, off, rfl, hd⟩ := hc (by omega)
  clear hc
  have hr : (decide ((1 : Int) ≤ (n : Int)) && decide ((n : Int) ≤ 8)) = true := by simp; omega
  have Hl : Hid (l.length = n) := hl
  clear hl
  have hx0 : w.cell? ⟨b, off, none⟩ = some (.int .u8 (l[0]?.getD 0)) := by simpa using hd 0 (by omega)
  have hb0 := byte_at hby 0
  have H0 : Hid (okAt l g 0 = (if g then upB (l[0]?.getD 0) else lowB (l[0]?.getD 0))) := by show okAt l g 0 = _; simp [okAt]
  generalize hxx : l[0]?.getD 0 = x at *
  clear hxx
  go_enter Tryz.func58, Tryz.ntmps58
  go_wp2_with fail
  refine (inRangeC _ _ _ _).mono ?_
  rintro e w ⟨rfl, rfl⟩
  rw [hr]
  go_wp2_with fail
  refine (isFirstC _ _ _).mono ?_
  rintro e w ⟨rfl, rfl⟩
  cases hf : (if g then upB x else lowB x)
  · have HD : Hid (nameOk l g = false) := nameOk_not (by rw [Hl.out]; omega) (H0.out.trans hf)
    clear hf hd
    go_wp2
    go_ret
    exact ⟨ret_bool HD.out.symm, rfl⟩
  have HF : Hid (okAt l g 0 = true) := H0.out.trans hf
  clear hf H0 hr hx0
  by_cases hn1 : n = 1
  · have HD : Hid (nameOk l g = true) := nameOk_yes (by rw [Hl.out]; omega) (by rw [Hl.out]; omega) (by
      rw [Hl.out, hn1]; intro m hm; have : m = 0 := by omega
      subst this; exact HF.out)
    subst hn1
    clear hd HF Hl hby
    go_wp2
    all_goals
      refine wp_loop_rounds 1 ?_
      rw [rounds_succ]
      go_wp2
      go_ret
      exact ⟨ret_bool HD.out.symm, rfl⟩
  have hc1 : ¬ c = 1 := by omega
  go_wp2
  go_loop [6, 22] (fun _ i => ∃ j : Nat, j + 1 ≤ n ∧ i = .int .i64 j ∧ Hid (∀ m < j + 1, okAt l g m = true)) (fun _ i => n - (intOf i).toNat)
  case atStart => exact ⟨0, by omega, rfl, by intro m hm; (have : m = 0 := by omega); subst this; exact HF.out⟩
  case round =>
    obtain ⟨j, hj, rfl, hall⟩ := hrel
    by_cases hlt : j + 1 < n
    · have hx := hd (j + 1) hlt
      have hx1 : w.cell? ⟨b, off + 1 + j, none⟩ = some (.int .u8 (l[j + 1]?.getD 0)) := by rw [← hx]; congr 2; omega
      have hb := byte_at hby (j + 1)
      clear hd hby hx
      have HL : Hid (j + 1 < l.length) := by show j + 1 < l.length; rw [Hl.out]; exact hlt
      generalize hxx : l[j + 1]?.getD 0 = y at *
      have HX : Hid (okAt l g (j + 1) = (lowB y || digB y)) := by show okAt l g (j + 1) = _; simp [okAt, hxx]
      clear hxx
      go_wp2_with fail
      refine (isSmallC _ _).mono ?_
      rintro e w ⟨rfl, rfl⟩
      cases h1 : lowB y
      · go_wp2_with fail
        refine (isDigitC _ _).mono ?_
        rintro e w ⟨rfl, rfl⟩
        cases h2 : digB y
        · have HD : Hid (nameOk l g = false) := nameOk_not HL.out (by rw [HX.out, h1, h2]; rfl)
          clear h1 h2
          go_wp2
          go_ret
          exact ⟨ret_bool HD.out.symm, rfl⟩
        · have HN : Hid (okAt l g (j + 1) = true) := by show okAt l g (j + 1) = true; rw [HX.out, h1, h2]; rfl
          clear h1 h2
          go_wp2
          go_round
          case rel => exact ⟨j + 1, by omega, by go_num, before_next hall.out HN.out⟩
          case measure => simp [intOf]; omega
      · have HN : Hid (okAt l g (j + 1) = true) := by show okAt l g (j + 1) = true; rw [HX.out, h1]; rfl
        clear h1
        go_wp2
        go_round
        case rel => exact ⟨j + 1, by omega, by go_num, before_next hall.out HN.out⟩
        case measure => simp [intOf]; omega
    · clear hd
      go_wp2
      go_ret
      have hjn : j + 1 = n := by omega
      subst hjn
      exact ⟨ret_bool (nameOk_yes (by rw [Hl.out]; omega) (by rw [Hl.out]; omega) (by rw [Hl.out]; exact hall.out)).symm, rfl⟩
end Go.Proofs.YtajnfknldofjlaaGreatDoor

/- Where an object or an export stands: the specification's searches. -/
import Derived.Test.YtefciaeajlgheaaLkOwn
import Derived.Test.YtefciaeajlgheaaBytesEq
namespace Go.Proofs.Ytefciaeajlgheaa
open Go.RowKit
set_option linter.unusedVariables false
set_option linter.unusedSimpArgs false
set_option maxRecDepth 100000

theorem LRow.len9 {w : World} {a : Option Addr} {c k : Nat} {rs : List (List Fl)} (h : LRow w a c k rs) : rs.length ≤ 9223372036854775807 := by have h1 := h.cap; have h2 := h.most; unfold maxLen at h2; omega

set_option maxHeartbeats 2000000 in
theorem l10objectC (q : List Oj) (b : Option Addr) (n d : Nat) (w : World) (h : LRow w b d 5 (q.map Oj.fl)) (hl : q.length = n) (a : Option Addr) (k c : Nat) (x : List Int) (hx : BRow w a k x) :
    Calls Try.prog 15 #[.slice b n d, .slice a k c] w fun e w' => e = .returned (.int .i64 (intO (findO q x))) ∧ w.grownBy w' none := by
  have hn9 := h.len9
  rw [List.length_map, hl] at hn9
  have HN : Hid (q.length = n) := hl
  have HL : Hid (LRow w b d 5 (q.map Oj.fl)) := h
  have HX : Hid (BRow w a k x) := hx
  clear h hx hl
  go_enter Try.func15, Try.ntmps15
  go_wp2_with fail
  go_loopw [5] (fun i wr => ∃ j : Nat, j ≤ n ∧ i = .int .i64 j ∧ Hid (∀ (m : Nat) (y : Oj), m < j → q[m]? = some y → decide (y.name = x) = false) ∧ Hid (w.grownBy wr none)) (fun i _ => n - (intOf i).toNat)
  case atStart => exact ⟨0, Nat.zero_le _, rfl, (by show ∀ _ _, _; omega), grown_refl _ _⟩
  case round =>
    obtain ⟨j, hj, rfl, hno, Hb⟩ := hrel
    have hgw := Hb.out
    by_cases hlt : j < n
    · obtain ⟨z, hz⟩ : ∃ z, q[j]? = some z := ⟨_, List.getElem?_eq_getElem (by rw [HN.out]; exact hlt)⟩
      have hrj : (q.map Oj.fl)[j]? = some z.fl := by rw [List.getElem?_map, hz]; rfl
      obtain ⟨b, off, rfl⟩ := LRow.addr HL.out (by rw [List.length_map, HN.out]; omega)
      obtain ⟨vs, hvs, hcl⟩ := ((LRow.below HL.out (below_grown hgw)).el hrj).vals
      obtain ⟨z0, us, rfl, ⟨az, cz, rfl, hbz, _⟩, _⟩ := hvs
      have r0 := hcl 0 _ rfl
      rw [Nat.add_zero] at r0
      have kc1 := fun d => conv_bytes cz (hbz.drewN d)
      have kc2 := fun d => conv_bytes c (BRow.drewN (BRow.below HX.out (below_grown hgw)) d)
      have HE : Hid (((strOfNums z.name).toList == (strOfNums x).toList) = decide (z.name = x)) := str_beq hbz.2.1 HX.out.2.1
      have HZ : Hid (q[j]? = some z) := hz
      have hj' : (j : Int) < (n : Int) := by omega
      clear hcl hz hrj hbz hgw
      by_cases he : z.name = x
      · have hbq : ((strOfNums z.name).toList == (strOfNums x).toList) = true := HE.out.trans (decide_eq_true he)
        have HF : Hid (findO q x = some j) := find_hit HZ.out (by simpa using he) hno.out
        clear he HE HZ
        go_wp2_with fail
        go_quiet (fail)
        go_wp2_with fail
        go_ret
        exact ⟨ret_int (by rw [HF.out]; rfl), grown_below (below_drewN (below_grown Hb.out) _) _⟩
      · have hbq : ((strOfNums z.name).toList == (strOfNums x).toList) = false := HE.out.trans (decide_eq_false he)
        have HF : Hid (∀ (m : Nat) (y : Oj), m < j + 1 → q[m]? = some y → decide (y.name = x) = false) := fun m y hm hy => by
          by_cases e : m = j
          · subst e; have := HZ.out; rw [hy] at this; cases this; simpa using he
          · exact hno.out m y (by omega) hy
        clear he HE HZ hno
        go_wp2_with fail
        go_quiet (fail)
        go_wp2_with fail
        go_roundw
        case rel => exact ⟨j + 1, by omega, by go_num, HF, grown_below (below_drewN (below_grown Hb.out) _) _⟩
        case measure => simp [intOf]; omega
    · have : n = j := by omega
      subst this
      have HF : Hid (findO q x = none) := find_no fun i y hy => hno.out i y (by have := (List.getElem?_eq_some_iff.1 hy).1; rw [HN.out] at this; exact this) hy
      clear hgw hno
      go_wp2_with fail
      go_ret
      exact ⟨ret_int (by rw [HF.out]; rfl), Hb.out⟩

set_option maxHeartbeats 4000000 in
theorem l10exportC (o : Oj) (v0 v1 v2 v3 v4 : Value) (w : World) (h : RdVals w o.fl [v0, v1, v2, v3, v4]) (a : Option Addr) (k c : Nat) (x : List Int) (hx : BRow w a k x) (p : Int) :
    Calls Try.prog 16 #[.agg #[v0, v1, v2, v3, v4], .slice a k c, .int .i64 p] w fun e w' => e = .returned (.int .i64 (intO (findX o x p))) ∧ w.grownBy w' none := by
  obtain ⟨_, _, e0, _, y1, _, e1, h1, _⟩ := h
  simp only [List.cons.injEq] at e0
  obtain ⟨rfl, rfl⟩ := e0
  simp only [List.cons.injEq] at e1
  obtain ⟨rfl, rfl⟩ := e1
  obtain ⟨b, d, rfl, hL⟩ := h1.list
  have hn9 := hL.len9
  rw [List.length_map] at hn9 ⊢
  obtain ⟨n, hN⟩ : ∃ z, z = o.ex.length := ⟨_, rfl⟩
  have HN : Hid (o.ex.length = n) := hN.symm
  rw [← hN] at hn9 ⊢
  have HL : Hid (LRow w b d 3 (o.ex.map Xp.fl)) := hL
  have HX : Hid (BRow w a k x) := hx
  have x0 := Blk.new w 47 [v0, .slice b n d, v2, v3, v4]
  have y0 := grown_alloc w (.cells #[v0, .slice b n d, v2, v3, v4] 47 (0, 0)) none
  simp only [List.toArray] at x0
  clear hL hx hN h1
  go_enter Try.func16, Try.ntmps16
  go_upto_region 1 with fail
  generalize w.alloc (.cells #[v0, .slice b n d, v2, v3, v4] 47 (0, 0)) = w1 at *
  have Q1 : Hid (w1.cell? ⟨w.heap.size, 1, none⟩ = some (.slice b n d)) := x0.cell (i := 1) rfl
  have Y1 : Hid (w.grownBy w1 none) := y0
  clear x0 y0
  go_wp2_with fail
  go_loopw [7] (fun i wr => ∃ j : Nat, j ≤ n ∧ i = .int .i64 j ∧ Hid (∀ (m : Nat) (y : Xp), m < j → o.ex[m]? = some y → (decide (y.name = x) && decide (y.print = p)) = false) ∧ Hid (w1.grownBy wr none)) (fun i _ => n - (intOf i).toNat)
  case atStart => exact ⟨0, Nat.zero_le _, rfl, (by show ∀ _ _, _; omega), grown_refl _ _⟩
  case round =>
    obtain ⟨j, hj, rfl, hno, Hb⟩ := hrel
    have hgw : w.grownBy wr none := grown_trans Y1.out Hb.out
    have q1 := cell_on Q1.out (below_grown Hb.out)
    by_cases hlt : j < n
    · obtain ⟨z, hz⟩ : ∃ z, o.ex[j]? = some z := ⟨_, List.getElem?_eq_getElem (by rw [HN.out]; exact hlt)⟩
      have hrj : (o.ex.map Xp.fl)[j]? = some z.fl := by rw [List.getElem?_map, hz]; rfl
      obtain ⟨b, off, rfl⟩ := LRow.addr HL.out (by rw [List.length_map, HN.out]; omega)
      obtain ⟨vs, hvs, hcl⟩ := ((LRow.below HL.out (below_grown hgw)).el hrj).vals
      obtain ⟨z0, us, rfl, ⟨az, cz, rfl, hbz, _⟩, z1, us1, rfl, rfl, _⟩ := hvs
      have r0 := hcl 0 _ rfl
      have r1 := hcl 1 _ rfl
      rw [Nat.add_zero] at r0
      have kc1 := fun d => conv_bytes cz (hbz.drewN d)
      have kc2 := fun d => conv_bytes c (BRow.drewN (BRow.below HX.out (below_grown hgw)) d)
      have HE : Hid (((strOfNums z.name).toList == (strOfNums x).toList) = decide (z.name = x)) := str_beq hbz.2.1 HX.out.2.1
      have HZ : Hid (o.ex[j]? = some z) := hz
      have hj' : (j : Int) < (n : Int) := by omega
      have HG : Hid (w.grownBy wr none) := hgw
      clear hcl hz hrj hbz hgw
      by_cases he : z.name = x
      · have hbq : ((strOfNums z.name).toList == (strOfNums x).toList) = true := HE.out.trans (decide_eq_true he)
        by_cases hp : z.print = p
        · have hpq : (z.print == p) = true := by simpa using hp
          have HF : Hid (findX o x p = some j) := find_hit HZ.out (by simp [he, hp]) hno.out
          clear he HE HZ hp
          go_wp2_with fail
          go_quiet (fail)
          go_wp2_with fail
          go_ret
          exact ⟨ret_int (by rw [HF.out]; rfl), grown_below (below_drewN (below_grown HG.out) _) _⟩
        · have hpq : (z.print == p) = false := by simpa using hp
          have HF : Hid (∀ (m : Nat) (y : Xp), m < j + 1 → o.ex[m]? = some y → (decide (y.name = x) && decide (y.print = p)) = false) := fun m y hm hy => by
            by_cases e : m = j
            · subst e; have := HZ.out; rw [hy] at this; cases this; simp [hp]
            · exact hno.out m y (by omega) hy
          clear he HE HZ hno hp
          go_wp2_with fail
          go_quiet (fail)
          go_wp2_with fail
          go_roundw
          case rel => exact ⟨j + 1, by omega, by go_num, HF, grown_below (below_drewN (below_grown Hb.out) _) _⟩
          case measure => simp [intOf]; omega
      · have hbq : ((strOfNums z.name).toList == (strOfNums x).toList) = false := HE.out.trans (decide_eq_false he)
        have HF : Hid (∀ (m : Nat) (y : Xp), m < j + 1 → o.ex[m]? = some y → (decide (y.name = x) && decide (y.print = p)) = false) := fun m y hm hy => by
          by_cases e : m = j
          · subst e; have := HZ.out; rw [hy] at this; cases this; simp [he]
          · exact hno.out m y (by omega) hy
        clear he HE HZ hno
        go_wp2_with fail
        go_quiet (fail)
        go_wp2_with fail
        go_roundw
        case rel => exact ⟨j + 1, by omega, by go_num, HF, grown_below (below_drewN (below_grown Hb.out) _) _⟩
        case measure => simp [intOf]; omega
    · have : n = j := by omega
      subst this
      have HF : Hid (findX o x p = none) := find_no fun i y hy => hno.out i y (by have := (List.getElem?_eq_some_iff.1 hy).1; rw [HN.out] at this; exact this) hy
      have HG : Hid (w.grownBy wr none) := hgw
      clear hgw hno
      go_wp2_with fail
      go_ret
      exact ⟨ret_int (by rw [HF.out]; rfl), HG.out⟩
end Go.Proofs.Ytefciaeajlgheaa

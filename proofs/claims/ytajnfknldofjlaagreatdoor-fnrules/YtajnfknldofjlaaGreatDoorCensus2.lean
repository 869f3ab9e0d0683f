/- The census of expressions. -/
import Derived.Test.YtajnfknldofjlaaGreatDoorCensus
namespace Go.Proofs.YtajnfknldofjlaaGreatDoor
open Go.RowKit
set_option linter.unusedVariables false
set_option linter.unusedSimpArgs false
set_option maxRecDepth 100000

theorem fitEx_room {x : Ex} {d left : Int} (h : left < 1 ∨ 16 < d) : fitEx x d left = false := by
  unfold fitEx
  simp only [Bool.and_eq_false_iff, decide_eq_false_iff_not]
  have h1 : 1 ≤ ndEx x := by cases x; simp [ndEx]
  have h2 : 1 ≤ dpEx x := by cases x; simp [dpEx]
  rcases h with h | h
  · left; right; omega
  · right; omega
theorem fitEx_form {k n : Int} {mod name : List Int} {ks : List Ex} {d left : Int} (h : exT k n mod name ks = false) : fitEx (.mk k n mod name ks) d left = false := by
  unfold fitEx
  rw [show okEx (.mk k n mod name ks) = (exT k n mod name ks && okExs ks) by rw [exT_eq, okEx], h]; rfl
theorem fitEx_rest {k n : Int} {mod name : List Int} {ks : List Ex} {d left : Int} (h : exT k n mod name ks = true) (hl : 1 ≤ left) (hd : d ≤ 16) : fitEx (.mk k n mod name ks) d left = fitExs ks (d + 1) (left - 1) := by
  unfold fitEx fitExs
  rw [show okEx (.mk k n mod name ks) = (exT k n mod name ks && okExs ks) by rw [exT_eq, okEx], h, Bool.true_and]
  have e1 : decide ((ndEx (.mk k n mod name ks) : Int) ≤ left) = decide ((ndExs ks : Int) ≤ left - 1) := by
    rw [decide_eq_decide]; simp only [ndEx]; omega
  rw [e1]
  congr 1
  by_cases h0 : ks.length = 0
  · have := List.eq_nil_of_length_eq_zero h0
    subst this
    rw [decide_eq_true (show d + (dpEx (.mk k n mod name []) : Int) ≤ 17 by simp only [dpEx, dpExs]; omega)]; simp
  · rw [decide_eq_false h0, Bool.false_or, decide_eq_decide]
    simp only [dpEx]; omega

set_option maxHeartbeats 4000000 in
theorem cenExR (k n : Int) (mod name : List Int) (ks : List Ex) (hs : recLen (Ex.mk k n mod name ks).fl ≤ 1048576) (S : CenExs ks) : CenEx (.mk k n mod name ks) := by
  intro w0 w vs g g1 g2 cnt d hT hr hb hg hc hn hd0 hd x1 x2 hne1 hne2
  have HF : ∀ w1, Below w0.heap.size w0 w1 → Calls Tryz.prog 195 #[agg vs] w1 fun e w' => e = .returned (.bool (exT k n mod name ks)) ∧ w1.grownBy w' none := fun w1 h1 => exFormedC (.mk k n mod name ks) vs w1 (hT.below h1) (hr.below h1) hs
  unfold Ex.fl at hr
  obtain ⟨y0, _, rfl, rfl, y1, _, rfl, rfl, y2, _, rfl, ⟨a2, c2, rfl, _⟩, y3, _, rfl, ⟨a3, c3, rfl, _⟩, y4, _, rfl, h4', rfl⟩ := hr
  obtain ⟨a4, c4, rfl, h4⟩ := h4'.list
  clear h4'
  have hkl : (exs ks).length = ks.length := by simp [exs_map]
  rw [hkl] at HF ⊢
  have HK : ∀ w1, Below w0.heap.size w0 w1 → Cen w1 g (cnt + 1) → cnt + 1 ≤ 250 → d + 1 ≤ 17 → Calls Tryz.prog 178 #[.pointer (some ⟨g, 0, none⟩), .slice a4 ks.length c4, .int .i64 (d + 1)] w1 fun e w' => e = .returned (.bool (fitExs ks (d + 1) (250 - ((cnt + 1 : Nat) : Int)))) ∧ w1.grownBy w' (some g) ∧ (fitExs ks (d + 1) (250 - ((cnt + 1 : Nat) : Int)) = true → Cen w' g (cnt + 1 + ndExs ks)) := fun w1 h1 h2 h3 h5 => S w0 w1 a4 c4 g (cnt + 1) (d + 1) hT h4 h1 hg h2 h3 (by omega) h5
  clear h4 S hT hs
  simp only [agg] at HF ⊢
  have hgl : g < w.heap.size := Blk.lt hc
  have y0 := grown_alloc w (.cells #[.int .i64 k, .int .i64 n, .slice a2 mod.length c2, .slice a3 name.length c3, .slice a4 ks.length c4] 122 (0, 0)) none
  have x0 := Blk.new w 122 [.int .i64 k, .int .i64 n, .slice a2 mod.length c2, .slice a3 name.length c3, .slice a4 ks.length c4]
  have hcw := Blk.old hc (o := .cells #[.int .i64 k, .int .i64 n, .slice a2 mod.length c2, .slice a3 name.length c3, .slice a4 ks.length c4] 122 (0, 0))
  replace x1 := cell_on x1 (below_grown y0)
  replace x2 := cell_on x2 (below_grown y0)
  replace hb := hb.trans ((below_grown y0).mono hb.size)
  clear hc
  go_enter Tryz.func194, Tryz.ntmps194
  go_upto_region 1 with fail
  generalize w.alloc (.cells #[.int .i64 k, .int .i64 n, .slice a2 mod.length c2, .slice a3 name.length c3, .slice a4 ks.length c4] 122 (0, 0)) = w1 at *
  have yy := grown_any y0 (some g)
  have H1 := hasRoomC g cnt d w1 hcw (by omega)
  have q0 := x0.cell (i := 0) rfl
  have q1 := x0.cell (i := 1) rfl
  have q2 := x0.cell (i := 2) rfl
  have q3 := x0.cell (i := 3) rfl
  have q4 := x0.cell (i := 4) rfl
  clear y0
  go_wp2_with fail
  refine H1.mono ?_
  rintro e w2 ⟨rfl, hg2, hc2⟩
  have hgx : w.heap.size ≠ g := by omega
  replace x0 := x0.grown hg2 hgx
  replace x1 := cell_at x1 hg2 hne1
  replace x2 := cell_at x2 hg2 hne2
  replace hb := below_at hb hg2 hg
  replace yy := grown_trans yy hg2
  clear H1 hcw q0 q1 q2 q3 q4 hg2
  have q0 := x0.cell (i := 0) rfl
  have q1 := x0.cell (i := 1) rfl
  have q2 := x0.cell (i := 2) rfl
  have q3 := x0.cell (i := 3) rfl
  have q4 := x0.cell (i := 4) rfl
  by_cases hro : cnt + 1 ≤ 250 ∧ d ≤ 16
  · rw [decide_eq_true hro.1, decide_eq_true hro.2]
    have H2 := HF w2 hb
    clear HF
    go_wp2_with fail
    refine H2.mono ?_
    rintro e w3 ⟨rfl, hg3⟩
    have hb3 := below_grown hg3
    replace x0 := x0.below hb3 x0.lt
    replace x1 := cell_on x1 hb3
    replace x2 := cell_on x2 hb3
    replace hb := hb.trans (hb3.mono hb.size)
    replace yy := grown_trans yy (grown_any hg3 _)
    have hc3 : Cen w3 g (cnt + 1) := Blk.below hc2 hb3 (Blk.lt hc2)
    clear H2 hc2 q0 q1 q2 q3 q4 hg3 hb3
    have q0 := x0.cell (i := 0) rfl
    have q1 := x0.cell (i := 1) rfl
    have q2 := x0.cell (i := 2) rfl
    have q3 := x0.cell (i := 3) rfl
    have q4 := x0.cell (i := 4) rfl
    cases e1 : exT k n mod name ks
    · have he : Hid (fitEx (.mk k n mod name ks) d (250 - (cnt : Int)) = false) := fitEx_form e1
      clear e1 HK
      go_wp2_with fail
      go_ret
      rw [he.out]
      exact ⟨rfl, yy, by simp⟩
    · have H3 := HK w3 hb hc3 hro.1 (by omega)
      have hE : Hid (fitEx (.mk k n mod name ks) d (250 - (cnt : Int)) = fitExs ks (d + 1) (250 - ((cnt + 1 : Nat) : Int))) := by
        show _ = _
        rw [fitEx_rest e1 (by omega) hro.2]
        congr 1; omega
      have hN : Hid (ndEx (.mk k n mod name ks) = 1 + ndExs ks) := by show _ = _; simp [ndEx]
      clear e1 HK
      generalize fitExs ks (d + 1) (250 - ((cnt + 1 : Nat) : Int)) = rr at *
      go_wp2_with fail
      refine H3.mono ?_
      rintro e w4 ⟨rfl, hg4, hc4⟩
      go_wp2_with fail
      go_ret
      rw [hE.out, hN.out]
      exact ⟨rfl, grown_trans yy hg4, fun h => by have := hc4 h; rw [show cnt + (1 + ndExs ks) = cnt + 1 + ndExs ks by omega]; exact this⟩
  · have hz : (decide (cnt + 1 ≤ 250) && decide (d ≤ 16)) = false := by
      simp only [Bool.and_eq_false_iff, decide_eq_false_iff_not]
      omega
    rw [hz]
    have he : Hid (fitEx (.mk k n mod name ks) d (250 - (cnt : Int)) = false) := fitEx_room (by omega)
    clear HF HK hz
    go_wp2_with fail
    go_ret
    rw [he.out]
    exact ⟨rfl, yy, by simp⟩

mutual
theorem cenEx : ∀ x : Ex, recLen x.fl ≤ 1048576 → CenEx x
  | .mk k n m a ks, h => cenExR k n m a ks h (cenExsR ks (cenExs ks (by
      have e : recLen (Ex.mk k n m a ks).fl = m.length + a.length + ((exs ks).length + rowsLen (exs ks)) := by simp [Ex.fl, recLen, Fl.len] <;> omega
      rw [e] at h; omega)))
theorem cenExs : ∀ (l : List Ex), rowsLen (exs l) ≤ 1048576 → ∀ e ∈ l, CenEx e
  | [], _, e, h => by simp at h
  | x :: l, hl, e, h => by
    simp only [exs, rowsLen] at hl
    rcases List.mem_cons.1 h with h | h
    · rw [h]; exact cenEx x (by omega)
    · exact cenExs l (by omega) e h
end
end Go.Proofs.YtajnfknldofjlaaGreatDoor

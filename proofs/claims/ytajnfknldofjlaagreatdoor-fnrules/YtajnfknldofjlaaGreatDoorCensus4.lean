/- The census of statements, one by one, and of a module's bodies. -/
import Derived.Test.YtajnfknldofjlaaGreatDoorCensus3
namespace Go.Proofs.YtajnfknldofjlaaGreatDoor
open Go.RowKit
set_option linter.unusedVariables false
set_option linter.unusedSimpArgs false
set_option maxRecDepth 100000

set_option maxHeartbeats 4000000 in
theorem cenStR (k n : Int) (name : List Int) (ks : List Ex) (bs es : List St) (hs : recLen (St.mk k n name ks bs es).fl ≤ 1048576) (S3 : CenExs ks) (S4 : CenSts bs) (S5 : CenSts es) : CenSt (.mk k n name ks bs es) := by
  intro w0 w vs g g1 g2 cnt d hT hr hb hg hc hn hd0 hd x1 x2 hne1 hne2
  have HF : ∀ w1, Below w0.heap.size w0 w1 → Calls Tryz.prog 151 #[agg vs] w1 fun e w' => e = .returned (.bool (stT k n name ks bs.length es.length)) ∧ w1.grownBy w' none := fun w1 h1 => stFormedC k n name ks bs es vs w1 (hT.below h1) (hr.below h1) hs
  unfold St.fl at hr
  obtain ⟨y0, _, rfl, rfl, y1, _, rfl, rfl, y2, _, rfl, ⟨a2, c2, rfl, _⟩, y3, _, rfl, h3', y4, _, rfl, h4', y5, _, rfl, h5', rfl⟩ := hr
  obtain ⟨a3, c3, rfl, h3⟩ := h3'.list
  obtain ⟨a4, c4, rfl, h4⟩ := h4'.list
  obtain ⟨a5, c5, rfl, h5⟩ := h5'.list
  clear h3' h4' h5'
  have hkl : (exs ks).length = ks.length := by simp [exs_map]
  have hbl : (sts bs).length = bs.length := by simp [sts_map]
  have hel : (sts es).length = es.length := by simp [sts_map]
  rw [hkl, hbl, hel] at HF ⊢
  have HK : ∀ w1, Below w0.heap.size w0 w1 → Cen w1 g (cnt + 1) → cnt + 1 ≤ 250 → d + 1 ≤ 17 → Calls Tryz.prog 152 #[.pointer (some ⟨g, 0, none⟩), .agg #[.int .i64 k, .int .i64 n, .slice a2 name.length c2, .slice a3 ks.length c3, .slice a4 bs.length c4, .slice a5 es.length c5], .int .i64 (d + 1)] w1 fun e w' => e = .returned (.bool (fitIn ks bs es (d + 1) (250 - ((cnt + 1 : Nat) : Int)))) ∧ w1.grownBy w' (some g) ∧ (fitIn ks bs es (d + 1) (250 - ((cnt + 1 : Nat) : Int)) = true → Cen w' g (cnt + 1 + (ndExs ks + ndSts bs + ndSts es))) := fun w1 h1 h2 h7 h8 => innerC k n a2 name.length c2 a3 c3 a4 c4 a5 c5 ks bs es S3 S4 S5 w0 w1 g (cnt + 1) (d + 1) hT h3 h4 h5 h1 hg h2 h7 (by omega) h8
  clear h3 h4 h5 S3 S4 S5 hT hs
  simp only [agg] at HF ⊢
  have hgl : g < w.heap.size := Blk.lt hc
  have y0 := grown_alloc w (.cells #[.int .i64 k, .int .i64 n, .slice a2 name.length c2, .slice a3 ks.length c3, .slice a4 bs.length c4, .slice a5 es.length c5] 133 (0, 0)) none
  have x0 := Blk.new w 133 [.int .i64 k, .int .i64 n, .slice a2 name.length c2, .slice a3 ks.length c3, .slice a4 bs.length c4, .slice a5 es.length c5]
  have hcw := Blk.old hc (o := .cells #[.int .i64 k, .int .i64 n, .slice a2 name.length c2, .slice a3 ks.length c3, .slice a4 bs.length c4, .slice a5 es.length c5] 133 (0, 0))
  replace x1 := cell_on x1 (below_grown y0)
  replace x2 := cell_on x2 (below_grown y0)
  replace hb := hb.trans ((below_grown y0).mono hb.size)
  clear hc
  go_enter Tryz.func149, Tryz.ntmps149
  go_upto_region 1 with fail
  generalize w.alloc (.cells #[.int .i64 k, .int .i64 n, .slice a2 name.length c2, .slice a3 ks.length c3, .slice a4 bs.length c4, .slice a5 es.length c5] 133 (0, 0)) = w1 at *
  have yy := grown_any y0 (some g)
  have H1 := hasRoomC g cnt d w1 hcw (by omega)
  have q0 := x0.cell (i := 0) rfl
  have q1 := x0.cell (i := 1) rfl
  have q2 := x0.cell (i := 2) rfl
  have q3 := x0.cell (i := 3) rfl
  have q4 := x0.cell (i := 4) rfl
  have q5 := x0.cell (i := 5) rfl
  clear y0
  go_wp2_with fail
  refine H1.mono ?_
  rintro e w2 ⟨rfl, hg2, hc2⟩
  have hgx : w.heap.size ≠ g := by omega
  replace x0 := x0.grown hg2 hgx
  replace x1 := cell_at x1 hg2 hne1
  replace x2 := cell_at x2 hg2 hne2
  replace hb := below_at hb hg2 hg
  replace yy := grown_trans yy hg2
  clear H1 hcw q0 q1 q2 q3 q4 q5 hg2
  have q0 := x0.cell (i := 0) rfl
  have q1 := x0.cell (i := 1) rfl
  have q2 := x0.cell (i := 2) rfl
  have q3 := x0.cell (i := 3) rfl
  have q4 := x0.cell (i := 4) rfl
  have q5 := x0.cell (i := 5) rfl
  by_cases hro : cnt + 1 ≤ 250 ∧ d ≤ 16
  · rw [decide_eq_true hro.1, decide_eq_true hro.2]
    have H2 := HF w2 hb
    clear HF
    go_wp2_with fail
    refine H2.mono ?_
    rintro e w3 ⟨rfl, hg3⟩
    have hb3 := below_grown hg3
    replace x0 := x0.below hb3 x0.lt
    replace x1 := cell_on x1 hb3
    replace x2 := cell_on x2 hb3
    replace hb := hb.trans (hb3.mono hb.size)
    replace yy := grown_trans yy (grown_any hg3 _)
    have hc3 : Cen w3 g (cnt + 1) := Blk.below hc2 hb3 (Blk.lt hc2)
    clear H2 hc2 q0 q1 q2 q3 q4 q5 hg3 hb3
    have q0 := x0.cell (i := 0) rfl
    have q1 := x0.cell (i := 1) rfl
    have q2 := x0.cell (i := 2) rfl
    have q3 := x0.cell (i := 3) rfl
    have q4 := x0.cell (i := 4) rfl
    have q5 := x0.cell (i := 5) rfl
    cases e1 : stT k n name ks bs.length es.length
    · have he : Hid (fitSt (.mk k n name ks bs es) d (250 - (cnt : Int)) = false) := fitSt_form e1
      clear e1 HK
      go_wp2_with fail
      go_ret
      rw [he.out]
      exact ⟨rfl, yy, by simp⟩
    · have H3 := HK w3 hb hc3 hro.1 (by omega)
      have hE : Hid (fitSt (.mk k n name ks bs es) d (250 - (cnt : Int)) = fitIn ks bs es (d + 1) (250 - ((cnt + 1 : Nat) : Int))) := by
        show _ = _
        rw [fitSt_rest e1 (by omega) hro.2]
        congr 1; omega
      have hN : Hid (ndSt (.mk k n name ks bs es) = 1 + (ndExs ks + ndSts bs + ndSts es)) := by show _ = _; simp [ndSt]
      clear e1 HK
      generalize fitIn ks bs es (d + 1) (250 - ((cnt + 1 : Nat) : Int)) = rr at *
      go_wp2_with fail
      refine H3.mono ?_
      rintro e w4 ⟨rfl, hg4, hc4⟩
      go_wp2_with fail
      go_ret
      rw [hE.out, hN.out]
      exact ⟨rfl, grown_trans yy hg4, fun h => by have := hc4 h; rw [show cnt + (1 + (ndExs ks + ndSts bs + ndSts es)) = cnt + 1 + (ndExs ks + ndSts bs + ndSts es) by omega]; exact this⟩
  · have hz : (decide (cnt + 1 ≤ 250) && decide (d ≤ 16)) = false := by
      simp only [Bool.and_eq_false_iff, decide_eq_false_iff_not]
      omega
    rw [hz]
    have he : Hid (fitSt (.mk k n name ks bs es) d (250 - (cnt : Int)) = false) := fitSt_room (by omega)
    clear HF HK hz
    go_wp2_with fail
    go_ret
    rw [he.out]
    exact ⟨rfl, yy, by simp⟩

mutual
theorem cenSt : ∀ x : St, recLen x.fl ≤ 1048576 → CenSt x
  | .mk k n a ks bs es, h => by
    have e : recLen (St.mk k n a ks bs es).fl = a.length + ((exs ks).length + rowsLen (exs ks)) + ((sts bs).length + rowsLen (sts bs)) + ((sts es).length + rowsLen (sts es)) := by simp [St.fl, recLen, Fl.len] <;> omega
    exact cenStR k n a ks bs es h (cenExsR ks (cenExs ks (by rw [e] at h; omega))) (cenStsR bs (cenSts bs (by rw [e] at h; omega))) (cenStsR es (cenSts es (by rw [e] at h; omega)))
theorem cenSts : ∀ (l : List St), rowsLen (sts l) ≤ 1048576 → ∀ e ∈ l, CenSt e
  | [], _, e, h => by simp at h
  | x :: l, hl, e, h => by
    simp only [sts, rowsLen] at hl
    rcases List.mem_cons.1 h with h | h
    · rw [h]; exact cenSt x (by omega)
    · exact cenSts l (by omega) e h
end
end Go.Proofs.YtajnfknldofjlaaGreatDoor

/- The census of statements. -/
import Derived.Test.YtajnfknldofjlaaGreatDoorCensus2
namespace Go.Proofs.YtajnfknldofjlaaGreatDoor
open Go.RowKit
set_option linter.unusedVariables false
set_option linter.unusedSimpArgs false
set_option maxRecDepth 100000

def s0 : St := .mk 0 0 [] [] [] []

/-- What the closure of stmtsOk tells of one statement. -/
def CenSt (x : St) : Prop := ∀ (w0 w : World) (vs : List Value) (g g1 g2 n : Nat) (d : Int), Tabs w0 → RdVals w0 x.fl vs → Below w0.heap.size w0 w → w0.heap.size ≤ g → Cen w g n → n ≤ 250 → 0 ≤ d → d ≤ 17 →
  w.cell? ⟨g1, 0, none⟩ = some (.pointer (some ⟨g, 0, none⟩)) → w.cell? ⟨g2, 0, none⟩ = some (.int .i64 d) → g1 ≠ g → g2 ≠ g →
  Calls Tryz.prog 149 #[agg vs, .pointer (some ⟨g1, 0, none⟩), .pointer (some ⟨g2, 0, none⟩)] w fun e w' => e = .returned (.bool (fitSt x d (250 - (n : Int)))) ∧ w.grownBy w' (some g) ∧ (fitSt x d (250 - (n : Int)) = true → Cen w' g (n + ndSt x))
def CenSts (l : List St) : Prop := ∀ (w0 w : World) (a : Option Addr) (c g n : Nat) (d : Int), Tabs w0 → LRow w0 a c 6 (sts l) → Below w0.heap.size w0 w → w0.heap.size ≤ g → Cen w g n → n ≤ 250 → 0 ≤ d → d ≤ 17 →
  Calls Tryz.prog 125 #[.pointer (some ⟨g, 0, none⟩), .slice a l.length c, .int .i64 d] w fun e w' => e = .returned (.bool (fitSts l d (250 - (n : Int)))) ∧ w.grownBy w' (some g) ∧ (fitSts l d (250 - (n : Int)) = true → Cen w' g (n + ndSts l))

theorem fitSt_le {x : St} {d left : Int} (h : fitSt x d left = true) : (ndSt x : Int) ≤ left := by
  unfold fitSt at h; simp only [Bool.and_eq_true, decide_eq_true_eq] at h; exact h.1.2

set_option maxHeartbeats 2000000 in
theorem cenStsR (l : List St) (H : ∀ x ∈ l, CenSt x) : CenSts l := by
  intro w0 w a c g n d hT hr hb hg hc hn hd0 hd
  have y0 := grown_alloc w (.cells #[.pointer (some ⟨g, 0, none⟩)] 180 (0, 0)) none
  have x1 := cell_new w 180 #[.pointer (some ⟨g, 0, none⟩)] 0 _ rfl
  have y1 := grown_alloc (w.alloc (.cells #[.pointer (some ⟨g, 0, none⟩)] 180 (0, 0))) (.cells #[.int .i64 d] 3 (0, 0)) none
  have x2 := cell_new (w.alloc (.cells #[.pointer (some ⟨g, 0, none⟩)] 180 (0, 0))) 3 #[.int .i64 d] 0 _ rfl
  rw [show (w.alloc (.cells #[.pointer (some ⟨g, 0, none⟩)] 180 (0, 0))).heap.size = w.heap.size + 1 by simp] at x2
  replace x1 := cell_on x1 (below_grown y1)
  have yy := grown_trans y0 y1
  have hgl : g < w.heap.size := Blk.lt hc
  replace hc : Cen ((w.alloc (.cells #[.pointer (some ⟨g, 0, none⟩)] 180 (0, 0))).alloc (.cells #[.int .i64 d] 3 (0, 0))) g n := Blk.old (Blk.old hc)
  have hb2 : Below w0.heap.size w0 ((w.alloc (.cells #[.pointer (some ⟨g, 0, none⟩)] 180 (0, 0))).alloc (.cells #[.int .i64 d] 3 (0, 0))) := hb.trans ((below_grown yy).mono hb.size)
  clear y0 y1 hb
  have HC : Calls Tryz.prog 135 #[.slice a l.length c, .func (.func 149) #[] #[.pointer (some ⟨w.heap.size, 0, none⟩), .pointer (some ⟨w.heap.size + 1, 0, none⟩)]] ((w.alloc (.cells #[.pointer (some ⟨g, 0, none⟩)] 180 (0, 0))).alloc (.cells #[.int .i64 d] 3 (0, 0))) fun e w' => e = .returned (.bool (fitSts l d (250 - (n : Int)))) ∧ w.grownBy w' (some g) ∧ (fitSts l d (250 - (n : Int)) = true → Cen w' g (n + ndSts l)) := by
    generalize ((w.alloc (.cells #[.pointer (some ⟨g, 0, none⟩)] 180 (0, 0))).alloc (.cells #[.int .i64 d] 3 (0, 0))) = W at *
    have hne1 : w.heap.size ≠ g := by omega
    have hne2 : w.heap.size + 1 ≠ g := by omega
    refine (allStmt 149 _ (some g) a l.length c (sts l) (fun j => fitSt (l[j]?.getD s0) d (250 - (n : Int) - (ndSts (l.take j) : Int))) (fun j wr => Below w0.heap.size w0 wr ∧ (ndSts (l.take j) : Int) ≤ 250 - (n : Int) ∧ Cen wr g (n + ndSts (l.take j)) ∧ wr.cell? ⟨w.heap.size, 0, none⟩ = some (.pointer (some ⟨g, 0, none⟩)) ∧ wr.cell? ⟨w.heap.size + 1, 0, none⟩ = some (.int .i64 d)) (fun _ _ => True) W
      ⟨ent_of Tryz.func149 rfl rfl, fun j wr hi => hr.below hi.1, ?_, ?_⟩ (by simp [sts_map]) ⟨hb2, by simp [ndSts]; omega, by simpa [ndSts] using hc, x1, x2⟩ ?_ (by rintro k ⟨rfl⟩; exact Blk.lt hc) (ent_of Tryz.func157 rfl rfl)).mono ?_
    · intro r hr
      rw [sts_map] at hr
      obtain ⟨x, _, rfl⟩ := List.mem_map.1 hr
      exact sts_len x
    · intro j r wr vs hj hi hvs hca
      have hj0 := hj
      obtain ⟨hi1, hi2, hi3, hi4, hi5⟩ := hi
      rw [sts_map, List.getElem?_map] at hj
      obtain ⟨x, hx, rfl⟩ := Option.map_eq_some_iff.1 hj
      have hv0 := vals_back hr hi1 hj0 hvs.len hca
      rw [hx]
      have hL : (250 : Int) - (n : Int) - (ndSts (l.take j) : Int) = 250 - ((n + ndSts (l.take j) : Nat) : Int) := by omega
      simp only [Option.getD_some, hL]
      refine (H x (List.mem_of_getElem? hx) w0 wr vs g w.heap.size (w.heap.size + 1) (n + ndSts (l.take j)) d hT hv0 hi1 hg hi3 (by omega) hd0 hd hi4 hi5 hne1 hne2).mono ?_
      rintro e w' ⟨rfl, hgw, hcen⟩
      refine ⟨rfl, hgw, fun h => ?_, fun _ => trivial⟩
      rw [ndSts_next hx]
      have hle := fitSt_le h
      refine ⟨below_at hi1 hgw hg, by omega, by rw [← Nat.add_assoc]; exact hcen h, cell_at hi4 hgw hne1, cell_at hi5 hgw hne2⟩
    · rintro j w1 w2 ⟨h1, h2, h3, h4, h5⟩ hgr
      have hbb := below_grown hgr
      exact ⟨h1.trans (hbb.mono h1.size), h2, Blk.below h3 hbb (Blk.lt h3), cell_on h4 hbb, cell_on h5 hbb⟩
    · rintro e w' ⟨r, rfl, hgw, ht⟩
      have hg2 : w.grownBy w' (some g) := grown_trans (grown_any yy _) hgw
      cases r with
      | false =>
        obtain ⟨j, hj, hp, _⟩ := ht.yes rfl
        have hx : l[j]? = some l[j] := List.getElem?_eq_getElem hj
        have hF : fitSts l d (250 - (n : Int)) = false := fitSts_no hx (by simpa [hx] using hp)
        rw [hF]
        exact ⟨rfl, hg2, by simp⟩
      | true =>
        obtain ⟨h1, h2, h3, h4, _⟩ := ht.no rfl
        have hF : fitSts l d (250 - (n : Int)) = true := fitSts_yes (fun j x hx => by
          have := h1 j (List.getElem?_eq_some_iff.1 hx).1
          simpa [hx] using this) (by omega)
        rw [hF]
        rw [List.take_length] at h4
        exact ⟨rfl, hg2, fun _ => h4⟩
  clear x1 x2 hc hb2 H
  go_enter Tryz.func125, Tryz.ntmps125
  go_upto_region 1 with fail
  generalize ((w.alloc (.cells #[.pointer (some ⟨g, 0, none⟩)] 180 (0, 0))).alloc (.cells #[.int .i64 d] 3 (0, 0))) = W at *
  go_wp2_with fail
  refine HC.mono ?_
  rintro e w3 ⟨rfl, h1, h2⟩
  go_wp2_with fail
  go_ret
  exact ⟨rfl, h1, h2⟩

theorem fitSt_room {x : St} {d left : Int} (h : left < 1 ∨ 16 < d) : fitSt x d left = false := by
  unfold fitSt
  simp only [Bool.and_eq_false_iff, decide_eq_false_iff_not]
  have h1 : 1 ≤ ndSt x := by cases x; simp [ndSt]
  have h2 : 1 ≤ dpSt x := by cases x; simp [dpSt]
  rcases h with h | h
  · left; right; omega
  · right; omega
theorem okSt_eq (k n : Int) (name : List Int) (ks : List Ex) (bs es : List St) : okSt (.mk k n name ks bs es) = (stT k n name ks bs.length es.length && okExs ks && okSts bs && okSts es) := by rw [stT_eq, okSt]
theorem fitSt_form {k n : Int} {name : List Int} {ks : List Ex} {bs es : List St} {d left : Int} (h : stT k n name ks bs.length es.length = false) : fitSt (.mk k n name ks bs es) d left = false := by
  unfold fitSt
  rw [okSt_eq, h]; rfl

/-- What lies within a statement. -/
def fitIn (ks : List Ex) (bs es : List St) (d left : Int) : Bool := fitExs ks d left && fitSts bs d (left - (ndExs ks : Int)) && fitSts es d (left - (ndExs ks : Int) - (ndSts bs : Int))

theorem dpSts_zero {l : List St} (h : l.length = 0) : dpSts l = 0 := by rw [List.eq_nil_of_length_eq_zero h]; rfl
theorem dpExs_zero {l : List Ex} (h : l.length = 0) : dpExs l = 0 := by rw [List.eq_nil_of_length_eq_zero h]; rfl
theorem dpSts_pos {l : List St} (h : ¬ l.length = 0) : 1 ≤ dpSts l := by
  cases l with
  | nil => simp at h
  | cons x l => cases x; simp [dpSts, dpSt]; omega
theorem dpExs_pos {l : List Ex} (h : ¬ l.length = 0) : 1 ≤ dpExs l := by
  cases l with
  | nil => simp at h
  | cons x l => cases x; simp [dpExs, dpEx]; omega

theorem fitSt_rest {k n : Int} {name : List Int} {ks : List Ex} {bs es : List St} {d left : Int} (h : stT k n name ks bs.length es.length = true) (hl : 1 ≤ left) (hd : d ≤ 16) : fitSt (.mk k n name ks bs es) d left = fitIn ks bs es (d + 1) (left - 1) := by
  unfold fitSt fitIn fitExs fitSts
  rw [okSt_eq, h, Bool.true_and, Bool.eq_iff_iff]
  have e1 : ndSt (.mk k n name ks bs es) = 1 + (ndExs ks + ndSts bs + ndSts es) := by simp only [ndSt]
  have e2 : dpSt (.mk k n name ks bs es) = 1 + max (dpExs ks) (max (dpSts bs) (dpSts es)) := by simp only [dpSt]
  rw [e1, e2]
  clear e1 e2
  simp only [Bool.and_eq_true, decide_eq_true_eq, Bool.or_eq_true]
  have a1 := @dpExs_zero ks
  have a2 := @dpSts_zero bs
  have a3 := @dpSts_zero es
  constructor
  · rintro ⟨⟨⟨⟨h1, h2⟩, h3⟩, h4⟩, h5⟩
    exact ⟨⟨⟨⟨h1, by omega⟩, .inr (by omega)⟩, ⟨h2, by omega⟩, .inr (by omega)⟩, ⟨h3, by omega⟩, .inr (by omega)⟩
  · rintro ⟨⟨⟨⟨h1, b1⟩, c1⟩, ⟨h2, b2⟩, c2⟩, ⟨h3, b3⟩, c3⟩
    refine ⟨⟨⟨⟨h1, h2⟩, h3⟩, by omega⟩, ?_⟩
    rcases c1 with c1 | c1 <;> rcases c2 with c2 | c2 <;> rcases c3 with c3 | c3 <;> omega
theorem fitSts_le {l : List St} {d left : Int} (h : fitSts l d left = true) : (ndSts l : Int) ≤ left := by
  unfold fitSts at h; simp only [Bool.and_eq_true, decide_eq_true_eq] at h; exact h.1.2
theorem fitExs_le {l : List Ex} {d left : Int} (h : fitExs l d left = true) : (ndExs l : Int) ≤ left := by
  unfold fitExs at h; simp only [Bool.and_eq_true, decide_eq_true_eq] at h; exact h.1.2

def VS6 (k n : Int) (a2 : Option Addr) (n2 c2 : Nat) (a3 : Option Addr) (n3 c3 : Nat) (a4 : Option Addr) (n4 c4 : Nat) (a5 : Option Addr) (n5 c5 : Nat) : List Value := [.int .i64 k, .int .i64 n, .slice a2 n2 c2, .slice a3 n3 c3, .slice a4 n4 c4, .slice a5 n5 c5]

set_option maxHeartbeats 4000000 in
theorem innerC (k n : Int) (a2 : Option Addr) (n2 c2 : Nat) (a3 : Option Addr) (c3 : Nat) (a4 : Option Addr) (c4 : Nat) (a5 : Option Addr) (c5 : Nat) (ks : List Ex) (bs es : List St) (S3 : CenExs ks) (S4 : CenSts bs) (S5 : CenSts es) (w0 w : World) (g cnt : Nat) (d : Int)
    (hT : Tabs w0) (h3 : LRow w0 a3 c3 5 (exs ks)) (h4 : LRow w0 a4 c4 6 (sts bs)) (h5 : LRow w0 a5 c5 6 (sts es)) (hb : Below w0.heap.size w0 w) (hg : w0.heap.size ≤ g) (hc : Cen w g cnt) (hn : cnt ≤ 250) (hd0 : 0 ≤ d) (hd : d ≤ 17) :
    Calls Tryz.prog 152 #[.pointer (some ⟨g, 0, none⟩), .agg #[.int .i64 k, .int .i64 n, .slice a2 n2 c2, .slice a3 ks.length c3, .slice a4 bs.length c4, .slice a5 es.length c5], .int .i64 d] w fun e w' => e = .returned (.bool (fitIn ks bs es d (250 - (cnt : Int)))) ∧ w.grownBy w' (some g) ∧ (fitIn ks bs es d (250 - (cnt : Int)) = true → Cen w' g (cnt + (ndExs ks + ndSts bs + ndSts es))) := by
  have hgl : g < w.heap.size := Blk.lt hc
  have hgx : w.heap.size ≠ g := by omega
  have y0 := grown_alloc w (.cells #[.int .i64 k, .int .i64 n, .slice a2 n2 c2, .slice a3 ks.length c3, .slice a4 bs.length c4, .slice a5 es.length c5] 133 (0, 0)) none
  have x0 := Blk.new w 133 [.int .i64 k, .int .i64 n, .slice a2 n2 c2, .slice a3 ks.length c3, .slice a4 bs.length c4, .slice a5 es.length c5]
  have hcw : Cen _ g cnt := Blk.old hc (o := .cells #[.int .i64 k, .int .i64 n, .slice a2 n2 c2, .slice a3 ks.length c3, .slice a4 bs.length c4, .slice a5 es.length c5] 133 (0, 0))
  replace hb := hb.trans ((below_grown y0).mono hb.size)
  have yy := grown_any y0 (some g)
  clear hc y0
  have hfe : Hid (fitIn ks bs es d (250 - (cnt : Int)) = (fitExs ks d (250 - (cnt : Int)) && fitSts bs d (250 - (cnt : Int) - (ndExs ks : Int)) && fitSts es d (250 - (cnt : Int) - (ndExs ks : Int) - (ndSts bs : Int)))) := rfl
  generalize fitIn ks bs es d (250 - (cnt : Int)) = TG at *
  go_enter Tryz.func152, Tryz.ntmps152
  go_upto_region 1 with fail
  generalize w.alloc (.cells #[.int .i64 k, .int .i64 n, .slice a2 n2 c2, .slice a3 ks.length c3, .slice a4 bs.length c4, .slice a5 es.length c5] 133 (0, 0)) = w1 at *
  have q3 := x0.cell (i := 3) rfl
  have q4 := x0.cell (i := 4) rfl
  have q5 := x0.cell (i := 5) rfl
  have H1 := S3 w0 w1 a3 c3 g cnt d hT h3 hb hg hcw hn hd0 hd
  clear S3 h3
  generalize e3 : fitExs ks d (250 - (cnt : Int)) = r3 at *
  go_wp2_with fail
  refine H1.mono ?_
  rintro e w2 ⟨rfl, hg2, hc2⟩
  replace x0 := x0.grown hg2 hgx
  replace hb := below_at hb hg2 hg
  replace yy := grown_trans yy hg2
  clear H1 hcw q3 q4 q5 hg2
  cases r3
  · have he : Hid (TG = false) := by show _ = _; rw [hfe.out]; rfl
    go_wp2_with fail
    go_ret
    exact ⟨ret_bool he.out.symm, yy, fun h => by rw [he.out] at h; cases h⟩
  have hl3 := fitExs_le e3
  have hc2' := hc2 rfl
  clear hc2 e3
  have q4 := x0.cell (i := 4) rfl
  have q5 := x0.cell (i := 5) rfl
  have H2 := S4 w0 w2 a4 c4 g (cnt + ndExs ks) d hT h4 hb hg hc2' (by omega) hd0 hd
  have eL : (250 : Int) - ((cnt + ndExs ks : Nat) : Int) = 250 - (cnt : Int) - (ndExs ks : Int) := by omega
  rw [eL] at H2
  clear S4 h4 eL
  generalize e4 : fitSts bs d (250 - (cnt : Int) - (ndExs ks : Int)) = r4 at *
  go_wp2_with fail
  refine H2.mono ?_
  rintro e w3 ⟨rfl, hg3, hc3⟩
  replace x0 := x0.grown hg3 hgx
  replace hb := below_at hb hg3 hg
  replace yy := grown_trans yy hg3
  clear H2 hc2' q4 q5 hg3
  cases r4
  · have he : Hid (TG = false) := by show _ = _; rw [hfe.out]; simp
    go_wp2_with fail
    go_ret
    exact ⟨ret_bool he.out.symm, yy, fun h => by rw [he.out] at h; cases h⟩
  have hl4 := fitSts_le e4
  have hc3' := hc3 rfl
  clear hc3 e4
  have q5 := x0.cell (i := 5) rfl
  have H3 := S5 w0 w3 a5 c5 g (cnt + ndExs ks + ndSts bs) d hT h5 hb hg hc3' (by omega) hd0 hd
  have eL : (250 : Int) - ((cnt + ndExs ks + ndSts bs : Nat) : Int) = 250 - (cnt : Int) - (ndExs ks : Int) - (ndSts bs : Int) := by omega
  rw [eL] at H3
  clear S5 h5 eL
  generalize e5 : fitSts es d (250 - (cnt : Int) - (ndExs ks : Int) - (ndSts bs : Int)) = r5 at *
  go_wp2_with fail
  refine H3.mono ?_
  rintro e w4 ⟨rfl, hg4, hc4⟩
  have he : Hid (TG = r5) := by show _ = _; rw [hfe.out]; simp
  go_wp2_with fail
  go_ret
  exact ⟨ret_bool he.out.symm, grown_trans yy hg4, fun h => by
    have := hc4 (he.out ▸ h)
    rw [show cnt + (ndExs ks + ndSts bs + ndSts es) = cnt + ndExs ks + ndSts bs + ndSts es by omega]; exact this⟩
end Go.Proofs.YtajnfknldofjlaaGreatDoor

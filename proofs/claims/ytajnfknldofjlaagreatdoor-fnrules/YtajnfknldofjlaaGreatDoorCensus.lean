/- The census of a module: how many parts there are, how deep they lie, whether each is formed. -/
import Derived.Test.YtajnfknldofjlaaGreatDoorFormPure
namespace Go.Proofs.YtajnfknldofjlaaGreatDoor
open Go.RowKit
set_option linter.unusedVariables false
set_option linter.unusedSimpArgs false
set_option maxRecDepth 100000

theorem grown_put {w : World} {g i : Nat} {v : Value} : w.grownBy (w.setCell ⟨g, i, none⟩ v) (some g) :=
  ⟨rfl, rfl, rfl, by simp, fun k hk hne => heap_setCell_other w ⟨g, i, none⟩ k v (fun e => hne (by simp at e; rw [e]))⟩
theorem below_at {w0 w w' : World} {g : Nat} (h : Below w0.heap.size w0 w) (hg : w.grownBy w' (some g)) (hB : w0.heap.size ≤ g) : Below w0.heap.size w0 w' :=
  h.grown hg h.size (fun k hk => by cases hk; exact hB)
theorem Blk.grown {w w' : World} {g k : Nat} {T : TypeId} {vs : List Value} (h : Blk w g T vs) (hg : w.grownBy w' (some k)) (hne : g ≠ k) : Blk w' g T vs :=
  (hg.block g h.lt (fun e => hne (by cases e; rfl))).trans h
theorem cell_at {w w' : World} {g k i : Nat} {v : Value} (h : w.cell? ⟨g, i, none⟩ = some v) (hg : w.grownBy w' (some k)) (hne : g ≠ k) : w'.cell? ⟨g, i, none⟩ = some v := by
  rw [World.cell?_of_block (a := ⟨g, i, none⟩) (hg.block g (World.block_lt_of_cell? w _ h) (fun e => hne (by cases e; rfl)))]; exact h

/-- The count. -/
def Cen (w : World) (g n : Nat) : Prop := Blk w g 159 [.int .i64 n]

theorem hasRoomC (g n : Nat) (d : Int) (w : World) (h : Cen w g n) (hn : n ≤ 1000) :
    Calls Tryz.prog 150 #[.pointer (some ⟨g, 0, none⟩), .int .i64 d] w fun e w' => e = .returned (.bool (decide (n + 1 ≤ 250) && decide (d ≤ 16))) ∧ w.grownBy w' (some g) ∧ Cen w' g (n + 1) := by
  have q0 := h.cell (i := 0) rfl
  have z0 := h.free 0
  have hx := h.set (i := 0) (.int .i64 ((n : Int) + 1))
  have hw := grown_put (w := w) (g := g) (i := 0) (v := .int .i64 ((n : Int) + 1))
  have hc : Hid (Cen (w.setCell ⟨g, 0, none⟩ (.int .i64 ((n : Int) + 1))) g (n + 1)) := by
    show Blk _ _ _ _
    simpa using hx
  have q1 := hx.cell (i := 0) rfl
  have hlt := h.lt
  clear h hx
  by_cases h1 : n + 1 ≤ 250
  · have h1' : (n : Int) + 1 ≤ 250 := by omega
    go_enter Tryz.func150, Tryz.ntmps150
    go_wp2_with fail
    go_ret
    exact ⟨ret_bool (by simp [h1]), hw, hc.out⟩
  · have h1' : ¬ (n : Int) + 1 ≤ 250 := by omega
    go_enter Tryz.func150, Tryz.ntmps150
    go_wp2_with fail
    go_ret
    exact ⟨ret_bool (by simp [h1]), hw, hc.out⟩

/-- What the closure of exprsOk tells of one expression. -/
def CenEx (x : Ex) : Prop := ∀ (w0 w : World) (vs : List Value) (g g1 g2 n : Nat) (d : Int), Tabs w0 → RdVals w0 x.fl vs → Below w0.heap.size w0 w → w0.heap.size ≤ g → Cen w g n → n ≤ 250 → 0 ≤ d → d ≤ 17 →
  w.cell? ⟨g1, 0, none⟩ = some (.pointer (some ⟨g, 0, none⟩)) → w.cell? ⟨g2, 0, none⟩ = some (.int .i64 d) → g1 ≠ g → g2 ≠ g →
  Calls Tryz.prog 194 #[agg vs, .pointer (some ⟨g1, 0, none⟩), .pointer (some ⟨g2, 0, none⟩)] w fun e w' => e = .returned (.bool (fitEx x d (250 - (n : Int)))) ∧ w.grownBy w' (some g) ∧ (fitEx x d (250 - (n : Int)) = true → Cen w' g (n + ndEx x))
def CenExs (l : List Ex) : Prop := ∀ (w0 w : World) (a : Option Addr) (c g n : Nat) (d : Int), Tabs w0 → LRow w0 a c 5 (exs l) → Below w0.heap.size w0 w → w0.heap.size ≤ g → Cen w g n → n ≤ 250 → 0 ≤ d → d ≤ 17 →
  Calls Tryz.prog 178 #[.pointer (some ⟨g, 0, none⟩), .slice a l.length c, .int .i64 d] w fun e w' => e = .returned (.bool (fitExs l d (250 - (n : Int)))) ∧ w.grownBy w' (some g) ∧ (fitExs l d (250 - (n : Int)) = true → Cen w' g (n + ndExs l))

theorem fitEx_le {x : Ex} {d left : Int} (h : fitEx x d left = true) : (ndEx x : Int) ≤ left := by
  unfold fitEx at h; simp only [Bool.and_eq_true, decide_eq_true_eq] at h; exact h.1.2

set_option maxHeartbeats 2000000 in
theorem cenExsR (l : List Ex) (H : ∀ x ∈ l, CenEx x) : CenExs l := by
  intro w0 w a c g n d hT hr hb hg hc hn hd0 hd
  have y0 := grown_alloc w (.cells #[.pointer (some ⟨g, 0, none⟩)] 180 (0, 0)) none
  have x1 := cell_new w 180 #[.pointer (some ⟨g, 0, none⟩)] 0 _ rfl
  have y1 := grown_alloc (w.alloc (.cells #[.pointer (some ⟨g, 0, none⟩)] 180 (0, 0))) (.cells #[.int .i64 d] 3 (0, 0)) none
  have x2 := cell_new (w.alloc (.cells #[.pointer (some ⟨g, 0, none⟩)] 180 (0, 0))) 3 #[.int .i64 d] 0 _ rfl
  rw [show (w.alloc (.cells #[.pointer (some ⟨g, 0, none⟩)] 180 (0, 0))).heap.size = w.heap.size + 1 by simp] at x2
  replace x1 := cell_on x1 (below_grown y1)
  have yy := grown_trans y0 y1
  have hgl : g < w.heap.size := Blk.lt hc
  replace hc : Cen ((w.alloc (.cells #[.pointer (some ⟨g, 0, none⟩)] 180 (0, 0))).alloc (.cells #[.int .i64 d] 3 (0, 0))) g n := Blk.old (Blk.old hc)
  have hb2 : Below w0.heap.size w0 ((w.alloc (.cells #[.pointer (some ⟨g, 0, none⟩)] 180 (0, 0))).alloc (.cells #[.int .i64 d] 3 (0, 0))) := hb.trans ((below_grown yy).mono hb.size)
  clear y0 y1 hb
  have HC : Calls Tryz.prog 158 #[.slice a l.length c, .func (.func 194) #[] #[.pointer (some ⟨w.heap.size, 0, none⟩), .pointer (some ⟨w.heap.size + 1, 0, none⟩)]] ((w.alloc (.cells #[.pointer (some ⟨g, 0, none⟩)] 180 (0, 0))).alloc (.cells #[.int .i64 d] 3 (0, 0))) fun e w' => e = .returned (.bool (fitExs l d (250 - (n : Int)))) ∧ w.grownBy w' (some g) ∧ (fitExs l d (250 - (n : Int)) = true → Cen w' g (n + ndExs l)) := by
    generalize ((w.alloc (.cells #[.pointer (some ⟨g, 0, none⟩)] 180 (0, 0))).alloc (.cells #[.int .i64 d] 3 (0, 0))) = W at *
    have hne1 : w.heap.size ≠ g := by omega
    have hne2 : w.heap.size + 1 ≠ g := by omega
    refine (allExpr 194 _ (some g) a l.length c (exs l) (fun j => fitEx (l[j]?.getD e0) d (250 - (n : Int) - (ndExs (l.take j) : Int))) (fun j wr => Below w0.heap.size w0 wr ∧ (ndExs (l.take j) : Int) ≤ 250 - (n : Int) ∧ Cen wr g (n + ndExs (l.take j)) ∧ wr.cell? ⟨w.heap.size, 0, none⟩ = some (.pointer (some ⟨g, 0, none⟩)) ∧ wr.cell? ⟨w.heap.size + 1, 0, none⟩ = some (.int .i64 d)) (fun _ _ => True) W
      ⟨ent_of Tryz.func194 rfl rfl, fun j wr hi => hr.below hi.1, ?_, ?_⟩ (by simp [exs_map]) ⟨hb2, by simp [ndExs]; omega, by simpa [ndExs] using hc, x1, x2⟩ ?_ (by rintro k ⟨rfl⟩; exact Blk.lt hc) (ent_of Tryz.func182 rfl rfl)).mono ?_
    · intro r hr
      rw [exs_map] at hr
      obtain ⟨x, _, rfl⟩ := List.mem_map.1 hr
      exact exs_len x
    · intro j r wr vs hj hi hvs hca
      have hj0 := hj
      obtain ⟨hi1, hi2, hi3, hi4, hi5⟩ := hi
      rw [exs_map, List.getElem?_map] at hj
      obtain ⟨x, hx, rfl⟩ := Option.map_eq_some_iff.1 hj
      have hv0 := vals_back hr hi1 hj0 hvs.len hca
      rw [hx]
      have hL : (250 : Int) - (n : Int) - (ndExs (l.take j) : Int) = 250 - ((n + ndExs (l.take j) : Nat) : Int) := by omega
      simp only [Option.getD_some, hL]
      refine (H x (List.mem_of_getElem? hx) w0 wr vs g w.heap.size (w.heap.size + 1) (n + ndExs (l.take j)) d hT hv0 hi1 hg hi3 (by omega) hd0 hd hi4 hi5 hne1 hne2).mono ?_
      rintro e w' ⟨rfl, hgw, hcen⟩
      refine ⟨rfl, hgw, fun h => ?_, fun _ => trivial⟩
      rw [ndExs_next hx]
      have hle := fitEx_le h
      refine ⟨below_at hi1 hgw hg, by omega, by rw [← Nat.add_assoc]; exact hcen h, cell_at hi4 hgw hne1, cell_at hi5 hgw hne2⟩
    · rintro j w1 w2 ⟨h1, h2, h3, h4, h5⟩ hgr
      have hbb := below_grown hgr
      exact ⟨h1.trans (hbb.mono h1.size), h2, Blk.below h3 hbb (Blk.lt h3), cell_on h4 hbb, cell_on h5 hbb⟩
    · rintro e w' ⟨r, rfl, hgw, ht⟩
      have hg2 : w.grownBy w' (some g) := grown_trans (grown_any yy _) hgw
      cases r with
      | false =>
        obtain ⟨j, hj, hp, _⟩ := ht.yes rfl
        have hx : l[j]? = some l[j] := List.getElem?_eq_getElem hj
        have hF : fitExs l d (250 - (n : Int)) = false := fitExs_no hx (by simpa [hx] using hp)
        rw [hF]
        exact ⟨rfl, hg2, by simp⟩
      | true =>
        obtain ⟨h1, h2, h3, h4, _⟩ := ht.no rfl
        have hF : fitExs l d (250 - (n : Int)) = true := fitExs_yes (fun j x hx => by
          have := h1 j (List.getElem?_eq_some_iff.1 hx).1
          simpa [hx] using this) (by omega)
        rw [hF]
        rw [List.take_length] at h4
        exact ⟨rfl, hg2, fun _ => h4⟩
  clear x1 x2 hc hb2 H
  go_enter Tryz.func178, Tryz.ntmps178
  go_upto_region 1 with fail
  generalize ((w.alloc (.cells #[.pointer (some ⟨g, 0, none⟩)] 180 (0, 0))).alloc (.cells #[.int .i64 d] 3 (0, 0))) = W at *
  go_wp2_with fail
  refine HC.mono ?_
  rintro e w3 ⟨rfl, h1, h2⟩
  go_wp2_with fail
  go_ret
  exact ⟨rfl, h1, h2⟩
end Go.Proofs.YtajnfknldofjlaaGreatDoor

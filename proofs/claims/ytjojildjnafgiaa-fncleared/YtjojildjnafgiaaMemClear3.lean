/- Clear, by the program, the slice of words nil or not. -/
import Derived.Test.YtjojildjnafgiaaMemClear
import Derived.Test.YtjojildjnafgiaaMemImpl
import Derived.Deep.Cut
namespace Go.Proofs.Ytjojildjnafgiaa
open Go.RowKit
set_option linter.unusedVariables false
set_option linter.unusedSimpArgs false

set_option maxRecDepth 100000 in
set_option maxHeartbeats 4000000 in
theorem implClearNoA (a0 : Option Addr) (n c : Nat) (l : List Wd) (lo hi : Int) (w : World) (h : WRow w a0 n l) (hn : n ≤ 1048576) (h64 : ∀ x ∈ l, In64 x.s) (hc : clrB l lo hi = false) :
    Calls Try.prog 4 #[.agg #[.slice a0 n c], .int .i64 lo, .int .i64 hi] w fun e w' => e = .returned (.tuple #[.agg #[.slice none 0 0], .bool false]) ∧ Below w.heap.size w w' := by
  have hB0 : Below w.heap.size w ((w.alloc (.cells #[.slice a0 n c] 25)).alloc (.cells #[.slice none 0 0] 25)) := ((Below.refl _ _).alloc (Nat.le_refl _) _).alloc (by simp) _
  obtain ⟨hm0, _, _, _⟩ := two_mem (w := w) (m := .slice a0 n c) (z := .slice none 0 0) rfl (Below.refl _ _)
  have HM := isOkM w.heap.size a0 n c l _ hm0 (h.below hB0) h64 hn
  have hln := h.1
  have fin : ∀ w1 : World, Hid (Below ((w.alloc (.cells #[.slice a0 n c] 25)).alloc (.cells #[.slice none 0 0] 25)).heap.size ((w.alloc (.cells #[.slice a0 n c] 25)).alloc (.cells #[.slice none 0 0] 25)) w1) → w1.cell? ⟨w.heap.size, 0, none⟩ = some (.slice a0 n c) ∧ w1.cell? ⟨w.heap.size + 1, 0, none⟩ = some (.slice none 0 0) ∧ w1.frozen? ⟨w.heap.size + 1, 0, none⟩ = false ∧ Hid ((w1.setCell ⟨w.heap.size + 1, 0, none⟩ (.slice none 0 0)).heap[w.heap.size + 1]? = some (.cells #[.slice none 0 0] 25 (0, 0))) ∧ Hid (Below w.heap.size w (w1.setCell ⟨w.heap.size + 1, 0, none⟩ (.slice none 0 0))) := by
    intro w1 hb1
    obtain ⟨hm, hz, hb, hs⟩ := two_mem rfl hb1.out
    exact ⟨(one_facts hm).1, (one_facts hz).1, (one_facts hz).2, heap_setCell_same w1 (w.heap.size + 1) 0 _ _ _ hz, hb.setCell (show w.heap.size ≤ w.heap.size + 1 by omega) _⟩
  have Hfin : Hid _ := fin
  clear fin h hB0 h64 hm0
  cases hm : memB l
  · rw [hm] at HM
    clear hc hm hln
    go_enter Try.func4, Try.ntmps4
    go_wp2_with fail
    refine HM.mono ?_
    rintro e w1 ⟨rfl, hb1⟩
    obtain ⟨m0, z0, f0, HbW, HdW⟩ := Hfin.out w1 hb1
    clear HM hb1
    go_wp2_with fail
    have hbW := HbW.out
    have hdW := HdW.out
    generalize w1.setCell ⟨w.heap.size + 1, 0, none⟩ (.slice none 0 0) = W at hbW hdW ⊢
    obtain ⟨d, _⟩ := one_facts hbW
    refine bodyPost_ret (v := .tuple #[.agg #[.slice none 0 0], .bool false]) (by simp [results, Try.results4, go_sem, d]) rfl ⟨rfl, hdW⟩
  · have hno := clrB_no hc hm
    rw [hln] at hno
    rw [hm] at HM
    clear hc hm hln
    go_enter Try.func4, Try.ntmps4
    go_wp2_with fail
    refine HM.mono ?_
    rintro e w1 ⟨rfl, hb1⟩
    obtain ⟨m0, z0, f0, HbW, HdW⟩ := Hfin.out w1 hb1
    clear HM hb1
    go_wp2_with fail
    all_goals first | (exfalso; omega) | skip
    all_goals (have hbW := HbW.out; have hdW := HdW.out; generalize w1.setCell ⟨w.heap.size + 1, 0, none⟩ (.slice none 0 0) = W at hbW hdW ⊢; obtain ⟨d, _⟩ := one_facts hbW)
    all_goals refine bodyPost_ret (v := .tuple #[.agg #[.slice none 0 0], .bool false]) (by simp [results, Try.results4, go_sem, d]) rfl ⟨rfl, hdW⟩

set_option maxRecDepth 100000 in
set_option maxHeartbeats 4000000 in
theorem implClearYesA (a0 : Option Addr) (n c : Nat) (l : List Wd) (lo hi : Nat) (w : World) (h : WRow w a0 n l) (hn : n ≤ 1048576) (h64 : ∀ x ∈ l, In64 x.s) (hm : memB l = true) (h1 : lo ≤ hi) (h2 : hi ≤ n) :
    Calls Try.prog 4 #[.agg #[.slice a0 n c], .int .i64 lo, .int .i64 hi] w fun e w' => ∃ g, e = .returned (.tuple #[.agg #[.slice (some ⟨g, 0, none⟩) n n], .bool true]) ∧ w.heap.size ≤ g ∧ WB w' g (clr l lo hi) ∧ Below w.heap.size w w' := by
  have hB0 : Below w.heap.size w ((w.alloc (.cells #[.slice a0 n c] 25)).alloc (.cells #[.slice none 0 0] 25)) := ((Below.refl _ _).alloc (Nat.le_refl _) _).alloc (by simp) _
  obtain ⟨hm0, _, _, _⟩ := two_mem (w := w) (m := .slice a0 n c) (z := .slice none 0 0) rfl (Below.refl _ _)
  have HM := isOkM w.heap.size a0 n c l _ hm0 (h.below hB0) h64 hn
  rw [hm] at HM
  have Hh : Hid (WRow w a0 n l) := h
  have Hl : Hid (l.length = n) := h.1
  clear hm h hB0 hm0 h64
  go_enter Try.func4, Try.ntmps4
  go_wp2_with fail
  refine HM.mono ?_
  rintro e w1 ⟨rfl, hb1⟩
  obtain ⟨hm, hz, hb, hs⟩ := two_mem rfl hb1
  obtain ⟨m0, _⟩ := one_facts hm
  have HZ : Hid _ := hz
  have HB : Hid _ := hb
  clear HM hb1 hm hz hb
  go_wp2_with fail
  refine (copiedM w.heap.size a0 n c l w1 m0 (Hh.out.below HB.out) hn).mono ?_
  rintro e w2 ⟨g, rfl, hg, hX, hb2⟩
  have hz2 := (hb2.block _ (Array.getElem?_eq_some_iff.1 HZ.out).1).trans HZ.out
  have hbw2 : Below w.heap.size w w2 := HB.out.trans (hb2.mono HB.out.size)
  have hge : w.heap.size + 2 ≤ g := Nat.le_trans hs hg
  have HX : Hid (WB w2 g l) := hX
  have HZ2 : Hid _ := hz2
  have HB2 : Hid _ := hbw2
  clear hb2 hX hz2 hbw2 hg HZ HB m0 hs
  go_upto_region 4 with fail
  obtain ⟨w3, e3⟩ : ∃ x, x = w2.alloc (.cells #[.slice (some ⟨g, 0, none⟩) n n] 25) := ⟨_, rfl⟩
  have hb23 : Below w2.heap.size w2 w3 := by rw [e3]; exact (Below.refl _ _).alloc (Nat.le_refl _) _
  have hy := heap_alloc_new w2 (.cells #[.slice (some ⟨g, 0, none⟩) n n] 25)
  rw [← e3] at hy ⊢
  have hglt : g < w2.heap.size := (Array.getElem?_eq_some_iff.1 HX.out).1
  have hX3 : WB w3 g l := WB.below HX.out hb23 hglt
  have hz3 := (hb23.block _ (Array.getElem?_eq_some_iff.1 HZ2.out).1).trans HZ2.out
  have hb3 : Below w.heap.size w w3 := HB2.out.trans (hb23.mono HB2.out.size)
  have hzl : w2.heap.size < w3.heap.size := (Array.getElem?_eq_some_iff.1 hy).1
  obtain ⟨y0, _⟩ := one_facts hy
  have HX3 : Hid (WB w3 g l) := hX3
  have HY : Hid _ := hy
  have HZ3 : Hid _ := hz3
  have HB3 : Hid _ := hb3
  clear e3 hb23 hX3 hz3 hb3 HX HZ2 HB2 hy
  generalize w2.heap.size = gy at *
  go_wp2_with fail
  refine (wipeM gy g n 0 l lo hi w3 y0 HX3.out Hl.out h1 h2 hn).mono ?_
  rintro e wr ⟨rfl, hw, hbut⟩
  have hyr := (hbut.rest gy hzl (by omega)).trans HY.out
  have hzr := (hbut.rest (w.heap.size + 1) (Array.getElem?_eq_some_iff.1 HZ3.out).1 (by omega)).trans HZ3.out
  have hbr : Below w.heap.size w wr := HB3.out.trans (hbut.below.mono (by omega))
  clear hbut y0 HY HZ3 HB3
  obtain ⟨y0, _⟩ := one_facts hyr
  obtain ⟨z0, f0⟩ := one_facts hzr
  have hbW := heap_setCell_same wr (w.heap.size + 1) 0 _ _ (.slice (some ⟨g, 0, none⟩) n n) hzr
  have hdW : Below w.heap.size w (wr.setCell ⟨w.heap.size + 1, 0, none⟩ (.slice (some ⟨g, 0, none⟩) n n)) := hbr.setCell (show w.heap.size ≤ w.heap.size + 1 by omega) _
  have hXW : WB (wr.setCell ⟨w.heap.size + 1, 0, none⟩ (.slice (some ⟨g, 0, none⟩) n n)) g (clr l lo hi) := WB.other hw (show g ≠ w.heap.size + 1 by omega)
  have HbW : Hid _ := hbW
  have HdW : Hid _ := hdW
  have HXW : Hid (WB (wr.setCell ⟨w.heap.size + 1, 0, none⟩ (.slice (some ⟨g, 0, none⟩) n n)) g (clr l lo hi)) := hXW
  clear hbW hdW hXW hzr hyr hw hbr
  go_wp2_with fail
  have hbW := HbW.out
  have hdW := HdW.out
  have hXW := HXW.out
  generalize wr.setCell ⟨w.heap.size + 1, 0, none⟩ (.slice (some ⟨g, 0, none⟩) n n) = W at hbW hdW hXW ⊢
  obtain ⟨d, _⟩ := one_facts (show _ = some (Obj.cells #[.slice (some ⟨g, 0, none⟩) n n] 25 (0, 0)) from hbW)
  refine bodyPost_ret (v := .tuple #[.agg #[.slice (some ⟨g, 0, none⟩) n n], .bool true]) (by simp [results, Try.results4, go_sem, d]) rfl ⟨g, rfl, by omega, hXW, hdW⟩
end Go.Proofs.Ytjojildjnafgiaa

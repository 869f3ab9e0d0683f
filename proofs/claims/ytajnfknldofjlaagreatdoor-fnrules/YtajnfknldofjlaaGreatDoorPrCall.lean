/- Texts of calls. By mkprex.py. -/
import Derived.Test.YtajnfknldofjlaaGreatDoorPrEx
import Derived.Test.YtajnfknldofjlaaGreatDoorPrBracket
namespace Go.Proofs.YtajnfknldofjlaaGreatDoor
open Go.RowKit
set_option linter.unusedVariables false
set_option linter.unusedSimpArgs false
set_option maxRecDepth 100000

set_option maxHeartbeats 4000000 in
theorem prEx6 (n : Int) (mod name : List Int) (ks : List Ex) (S : ∀ x ∈ ks, PrEx x) : PrEx (.mk 6 n mod name ks) := by
  intro w0 w vs base g l v hT hr hb h0 hg hp hok hsz
  unfold Ex.fl at hr
  obtain ⟨y0, _, rfl, rfl, y1, _, rfl, rfl, y2, _, rfl, ⟨a2, c2, rfl, h2, hc2, _⟩, y3, _, rfl, ⟨a3, c3, rfl, h3, hc3, _⟩, y4, _, rfl, h4', rfl⟩ := hr
  obtain ⟨a4, c4, rfl, h4⟩ := h4'.list
  clear h4'
  have hkl : (exs ks).length = ks.length := by simp [exs_map]
  rw [hkl]
  simp only [agg]
  skip
  have he : prE (.mk 6 n mod name ks) = (modI mod) ++ (name ++ [32]) ++ (brI (ks.map prE)) := by simp only [prE, exText, modI, brI, prEs_map]; simp
  rw [he] at hsz
  simp only [List.length_append, List.length_cons, List.length_nil] at hsz
  have HE : Hid (prE (.mk 6 n mod name ks) = (modI mod) ++ (name ++ [32]) ++ (brI (ks.map prE))) := he
  clear he
  have hloc := (okEx_loc hok).1
  have hokk : ∀ x ∈ ks, okEx x = true := by have := (okEx_loc hok).2; rw [okExs_all, List.all_eq_true] at this; exact this
  simp only [brI, List.length_append, List.length_cons, List.length_nil] at hsz
  skip
  have hmok : mod.length = 0 ∨ nameOk mod true = true := by unfold exLoc at hloc; simp only [Bool.and_eq_true, Bool.or_eq_true, decide_eq_true_eq] at hloc; exact hloc.2.imp id (fun h => h.2)
  have hnm := loc_name hloc (by decide)
  have hpn := put_one_name (g := false) h3.2.1 hnm
  clear hok
  have hgl := hp.blk.lt
  have hgx : some w.heap.size ≠ some g := by simp; omega
  have hgk : ∀ k, some g = some k → w0.heap.size ≤ k := by intro k e; cases e; omega
  have x0 := Blk.new w 122 [.int .i64 6, .int .i64 n, .slice a2 mod.length c2, .slice a3 name.length c3, .slice a4 ks.length c4]
  have hw : Wrote base (some g) w (w.alloc (.cells #[.int .i64 6, .int .i64 n, .slice a2 mod.length c2, .slice a3 name.length c3, .slice a4 ks.length c4] 122 (0, 0))) := Wrote.of (grown_alloc w _ none)
  replace hb : Below w0.heap.size w0 (w.alloc (.cells #[.int .i64 6, .int .i64 n, .slice a2 mod.length c2, .slice a3 name.length c3, .slice a4 ks.length c4] 122 (0, 0))) := hb.alloc hb.size _
  replace hp := hp.grown (grown_alloc w (.cells #[.int .i64 6, .int .i64 n, .slice a2 mod.length c2, .slice a3 name.length c3, .slice a4 ks.length c4] 122 (0, 0)) none)
  go_enter Tryz.func179, Tryz.ntmps179
  have q4 := x0.cell (i := 4) rfl
  go_upto_region 2 with fail
  clear q4
  generalize w.alloc (.cells #[.int .i64 6, .int .i64 n, .slice a2 mod.length c2, .slice a3 name.length c3, .slice a4 ks.length c4] 122 (0, 0)) = w1 at *
  generalize w.heap.size = gx at *
  have q0 := x0.cell (i := 0) rfl
  have hF := (hT.below hb).ex 6 (by omega)
  have z0 := hF.c0
  have z1 := hF.c1
  have z2 := hF.c2
  have z3 := hF.c3
  have z4 := hF.c4
  have HQ := wordsC (exF 6) (exPlain 6) w1 (hT.below hb)
  rw [exW6] at HQ
  unfold Fm.val at HQ
  clear hF
  simp only [Nat.reduceMul, Nat.reduceAdd, Nat.zero_mul, Nat.zero_add] at z0 z1 z2 z3 z4
  go_wp2_with fail
  refine HQ.mono ?_
  rintro e w2 ⟨gw, rfl, wb, hgw', hq⟩
  clear HQ q0 z0 z1 z2 z3 z4
  have hgw : some gw ≠ some g := by have := hp.blk.lt; simp; omega
  replace x0 := x0.below (below_grown hq) x0.lt
  replace hb := hb.trans ((below_grown hq).mono hb.size)
  replace hw := hw.trans (Wrote.of hq)
  replace hp := hp.grown hq
  clear hq hgw' hgl
  simp only [strs, List.map_cons, List.map_nil, List.length_cons, List.length_nil] at wb ⊢
  have q0 := x0.cell (i := 0) rfl
  have q1 := x0.cell (i := 1) rfl
  have q2 := x0.cell (i := 2) rfl
  have q3 := x0.cell (i := 3) rfl
  have q4 := x0.cell (i := 4) rfl
  have d0 := wb.cell (i := 0) rfl
  have d1 := wb.cell (i := 1) rfl
  have d2 := wb.cell (i := 2) rfl
  go_wp2_with fail
  refine wp_loop_rounds 4 ?_
  rw [rounds_succ]
  have HQ := modC mod a2 c2 w2 base g _ _ (h2.below hb) hp hg hmok (by omega)
  go_wp2_with fail
  refine HQ.mono ?_
  rintro e w3 ⟨rfl, ⟨v', hp'⟩, hq⟩
  clear q0 q1 q2 q3 q4 d0 d1 d2
  clear HQ hp
  have hp := hp'
  clear hp'
  replace x0 := hq.blk x0 (by decide) hgx
  replace wb := hq.blk wb (by decide) hgw
  replace hb := hq.below hb h0 hgk
  replace hw := hw.trans hq
  clear hq
  have q0 := x0.cell (i := 0) rfl
  have q1 := x0.cell (i := 1) rfl
  have q2 := x0.cell (i := 2) rfl
  have q3 := x0.cell (i := 3) rfl
  have q4 := x0.cell (i := 4) rfl
  have d0 := wb.cell (i := 0) rfl
  have d1 := wb.cell (i := 1) rfl
  have d2 := wb.cell (i := 2) rfl
  go_wp2_with fail
  rw [rounds_succ]
  have kc := conv_bytes c3 (h3.below hb)
  have HQ := putC [(strOfNums name)] w3.heap.size 1 1 (w3.alloc (.cells #[.string (strOfNums name)] 9)) base g _ _ (hp.grown (grown_alloc w3 _ none)) rfl (Blk.new w3 9 [.string (strOfNums name)]) (by have := hp.blk.lt; omega) (by rw [hpn]; simp only [List.length_append, List.length_cons, List.length_nil]; omega) hg
  go_wp2_with fail
  refine HQ.mono ?_
  rintro e w4 ⟨rfl, ⟨v', hp'⟩, hq⟩
  clear q0 q1 q2 q3 q4 d0 d1 d2
  replace hq := (Wrote.of (grown_alloc w3 (.cells #[.string (strOfNums name)] 9) none)).trans hq
  clear HQ hp
  have hp := hp'
  clear hp'
  replace x0 := hq.blk x0 (by decide) hgx
  replace wb := hq.blk wb (by decide) hgw
  replace hb := hq.below hb h0 hgk
  replace hw := hw.trans hq
  clear hq
  have q0 := x0.cell (i := 0) rfl
  have q1 := x0.cell (i := 1) rfl
  have q2 := x0.cell (i := 2) rfl
  have q3 := x0.cell (i := 3) rfl
  have q4 := x0.cell (i := 4) rfl
  have d0 := wb.cell (i := 0) rfl
  have d1 := wb.cell (i := 1) rfl
  have d2 := wb.cell (i := 2) rfl
  rw [hpn] at hp
  clear kc
  go_wp2_with fail
  rw [rounds_succ]
  have HQ := bracketExpr 179 (ent_of Tryz.func179 rfl rfl) prE ks (fun x hx w0 w vs base g l v a1 a2 a3 a4 a5 a6 a7 => S x hx w0 w vs base g l v a1 a2 a3 a4 a5 a6 (hokk x hx) a7) w0 w4 a4 c4 base g _ _ hT h4 hb h0 hg hp (by simp only [List.length_append, List.length_cons, List.length_nil, brI]; omega)
  go_wp2_with fail
  refine HQ.mono ?_
  rintro e w5 ⟨rfl, ⟨v', hp'⟩, hq⟩
  clear q0 q1 q2 q3 q4 d0 d1 d2
  clear HQ hp
  have hp := hp'
  clear hp'
  replace x0 := hq.blk x0 (by decide) hgx
  replace wb := hq.blk wb (by decide) hgw
  replace hb := hq.below hb h0 hgk
  replace hw := hw.trans hq
  clear hq
  have q0 := x0.cell (i := 0) rfl
  have q1 := x0.cell (i := 1) rfl
  have q2 := x0.cell (i := 2) rfl
  have q3 := x0.cell (i := 3) rfl
  have q4 := x0.cell (i := 4) rfl
  have d0 := wb.cell (i := 0) rfl
  have d1 := wb.cell (i := 1) rfl
  have d2 := wb.cell (i := 2) rfl
  go_wp2_with fail
  rw [rounds_succ]
  go_wp2_with fail
  have hfin : ∃ v', Pg w5 base g (l ++ prE (.mk 6 n mod name ks)) v' := ⟨_, by rw [HE.out]; simpa [List.append_assoc] using hp⟩
  exact bodyPost_end (results_none rfl _ _ _) rfl ⟨rfl, hfin, hw⟩

theorem n_six {n : Int} {mod name : List Int} {nk : Nat} (h : exLoc 3 n mod name nk = true) : n = 0 ∨ n = 1 ∨ n = 2 ∨ n = 3 ∨ n = 4 ∨ n = 5 := by
  unfold exLoc at h
  simp only [Bool.and_eq_true] at h
  have := h.1.2.1.1
  simp [inB, exLow, exHigh] at this
  omega
theorem k_len {k n : Int} {mod name : List Int} {nk : Nat} (h : exLoc k n mod name nk = true) : exLeast k ≤ nk ∧ (nk : Int) ≤ exMost k ∧ 0 ≤ k ∧ k ≤ 7 := by
  unfold exLoc at h
  simp only [Bool.and_eq_true] at h
  have h1 := h.1.2.1.2
  have h2 := h.1.1
  simp [inB] at h1 h2
  omega
theorem prEx_of {x : Ex} (h : okEx x = true → PrEx x) : PrEx x := by
  intro w0 w vs base g l v a1 a2 a3 a4 a5 a6 a7 a8
  exact h a7 w0 w vs base g l v a1 a2 a3 a4 a5 a6 a7 a8

mutual
theorem prEx : ∀ x : Ex, PrEx x
  | .mk k n m a ks => prEx_of fun hok => by
    have hS := prExs ks
    obtain ⟨hloc, _⟩ := okEx_loc hok
    obtain ⟨h1, h2, h3, h4⟩ := k_len hloc
    have h8 : k = 0 ∨ k = 1 ∨ k = 2 ∨ k = 3 ∨ k = 4 ∨ k = 5 ∨ k = 6 ∨ k = 7 := by omega
    rcases h8 with rfl | rfl | rfl | rfl | rfl | rfl | rfl | rfl
    · exact prEx0 n m a ks
    · exact prEx1 n m a ks
    · simp [exLeast, exMost] at h1 h2
      match ks, h1, h2, hS with
      | [e0], _, _, hS => exact prEx2 n m a e0 (hS e0 (by simp))
    · simp [exLeast, exMost] at h1 h2
      have h6 : Six n := n_six hloc
      match ks, h1, h2, hS with
      | [e0, e1], _, _, hS => exact prEx3 n h6 m a e0 (hS e0 (by simp)) e1 (hS e1 (by simp))
    · exact prEx4 n m a ks
    · exact prEx5 n m a ks
    · exact prEx6 n m a ks hS
    · exact prEx7 n m a ks
theorem prExs : ∀ (l : List Ex), ∀ x ∈ l, PrEx x
  | [], x, h => by simp at h
  | y :: l, x, h => by
    rcases List.mem_cons.1 h with h | h
    · rw [h]; exact prEx y
    · exact prExs l x h
end

end Go.Proofs.YtajnfknldofjlaaGreatDoor

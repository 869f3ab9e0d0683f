/- What the specification tells of expressions. By mkspec6.py. -/
import Derived.Test.YtopnodadggohiaaGreatDoorPackE
import Derived.Test.YtopnodadggohiaaGreatDoorPackJ
import Derived.Deep.RegionHeld3
namespace Go.Proofs.YtopnodadggohiaaGreatDoor
open Go.RowKit
set_option linter.unusedVariables false
set_option linter.unusedSimpArgs false
set_option maxRecDepth 100000

/-- The count of what is left. -/
def Lft (w : World) (g : Nat) (n : Int) : Prop := Blk w g 3 [.int .i64 n]

def SpEx (x : Ex) : Prop := ∀ (w0 w : World) (vs : List Value) (g : Nat) (left d : Int) (arg : Bool), RdVals w0 x.fl vs → Below w0.heap.size w0 w → w0.heap.size ≤ g → Lft w g left → 0 ≤ left → left ≤ 250 → 0 ≤ d → d ≤ 17 → recLen x.fl ≤ 1048576 →
 Calls Tryz.prog 179 #[agg vs, .int .i64 d, .bool arg, .pointer (some ⟨g, 0, none⟩)] w fun e w' => e = .returned (.bool (spEx x d arg left)) ∧ w.grownBy w' (some g) ∧ (spEx x d arg left = true → Lft w' g (left - (ndEx x : Int)))

theorem wr_self {n : Int} : (n == wrap64 (wrap32 n)) = inB n (-2147483648) 2147483647 := by
 rw [Bool.eq_iff_iff]
 simp only [beq_iff_eq, inB, Bool.and_eq_true, decide_eq_true_eq, wrap64, wrap32]
 omega

theorem five_of {α : Type} {l : List α} (h : l.length = 5) : ∃ a b c d e, l = [a, b, c, d, e] := by
 match l, h with
 | [a, b, c, d, e], _ => exact ⟨a, b, c, d, e, rfl⟩

theorem specWrapC (n : Int) (w : World) :
  Calls Tryz.prog 202 #[.int .i64 n] w fun e w' => e = .returned (.int .i64 (wrap64 (wrap32 n))) ∧ w' = w := by
 go_enter Tryz.func202, Tryz.ntmps202
 go_wp2
 go_ret
 exact ⟨rfl, rfl⟩

set_option maxHeartbeats 40000000 in
theorem spExR (k n : Int) (mod name : List Int) (ks : List Ex) (S : ∀ x ∈ ks, SpEx x) : SpEx (.mk k n mod name ks) := by
 intro w0 w vs g left d arg hr hb hg hL hl0 hl1 hd0 hd1 hs
 unfold Ex.fl at hr
 have hs' : mod.length ≤ 1048576 ∧ name.length ≤ 1048576 := by simp only [Ex.fl, recLen, Fl.len] at hs; omega
 have hsk : rowsLen (exs ks) ≤ 1048576 := by simp only [Ex.fl, recLen, Fl.len] at hs; omega
 clear hs
 obtain ⟨y0, _, rfl, rfl, y1, _, rfl, rfl, y2, _, rfl, ⟨a2, c2, rfl, h2, hc2, _⟩, y3, _, rfl, ⟨a3, c3, rfl, h3, hc3, _⟩, y4, _, rfl, h4', rfl⟩ := hr
 obtain ⟨a4, c4, rfl, h4⟩ := h4'.list
 clear h4'
 have hkl : (exs ks).length = ks.length := by simp [exs_map]
 have hk9 : ks.length ≤ 9223372036854775807 := by have h5 := h4.cap; have h6 := h4.most; unfold maxLen at h6; omega
 rw [hkl]
 simp only [agg]
 obtain ⟨nn, hnn⟩ : ∃ z, z = name.length := ⟨_, rfl⟩
 obtain ⟨nm, hnm⟩ : ∃ z, z = mod.length := ⟨_, rfl⟩
 rw [← hnn] at h3 hs' hc3 ⊢
 rw [← hnm] at h2 hs' hc2 ⊢
 have HNA : Hid (name.length = nn) := hnn.symm
 have HMO : Hid (mod.length = nm) := hnm.symm
 clear hnn hnm
 have hgl : g < w.heap.size := Blk.lt hL
 have hgx : w.heap.size ≠ g := by omega
 have yy := grown_alloc w (.cells #[.int .i64 k, .int .i64 n, .slice a2 nm c2, .slice a3 nn c3, .slice a4 ks.length c4] 125 (0, 0)) (some g)
 have x0 := Blk.new w 125 [.int .i64 k, .int .i64 n, .slice a2 nm c2, .slice a3 nn c3, .slice a4 ks.length c4]
 have hL1 : Lft _ g left := Blk.old hL (o := .cells #[.int .i64 k, .int .i64 n, .slice a2 nm c2, .slice a3 nn c3, .slice a4 ks.length c4] 125 (0, 0))
 replace hb : Below w0.heap.size w0 (w.alloc (.cells #[.int .i64 k, .int .i64 n, .slice a2 nm c2, .slice a3 nn c3, .slice a4 ks.length c4] 125 (0, 0))) := hb.alloc hb.size _
 clear hL
 go_enter Tryz.func179, Tryz.ntmps179
 go_upto_region 1 with fail
 generalize w.alloc (.cells #[.int .i64 k, .int .i64 n, .slice a2 nm c2, .slice a3 nn c3, .slice a4 ks.length c4] 125 (0, 0)) = w1 at *
 have z0 := hL1.cell (i := 0) rfl
 have z1 := hL1.free 0
 go_upto_region 2 with fail
 have hL2 : Lft _ g (left - 1) := Blk.set hL1 (i := 0) (.int .i64 (left - 1))
 have hq : w1.grownBy (w1.setCell ⟨g, 0, none⟩ (.int .i64 (left - 1))) (some g) := grown_put
 replace x0 := x0.grown hq hgx
 replace yy := grown_trans yy hq
 replace hb := below_at hb hq hg
 generalize w1.setCell ⟨g, 0, none⟩ (.int .i64 (left - 1)) = w2 at *
 generalize w.heap.size = gx at *
 clear z0 z1 hL1 hq hgl
 obtain ⟨m, hm⟩ : ∃ m, m = left - 1 := ⟨_, rfl⟩
 rw [← hm] at hL2
 have z0 := hL2.cell (i := 0) rfl
 obtain ⟨q0, q1, q2, q3, q4⟩ := x0.c5
 have HMM : Hid (m = left - 1) := hm
 have HS0 : (w2.drew.cell? ⟨g, 0, none⟩ = some (.int .i64 m) ∧ w2.drew.cell? ⟨gx, 0, none⟩ = some (.int .i64 k) ∧ w2.drew.cell? ⟨gx, 1, none⟩ = some (.int .i64 n) ∧ w2.drew.cell? ⟨gx, 2, none⟩ = some (.slice a2 nm c2) ∧ w2.drew.cell? ⟨gx, 3, none⟩ = some (.slice a3 nn c3) ∧ w2.drew.cell? ⟨gx, 4, none⟩ = some (.slice a4 ks.length c4)) := ⟨z0, q0, q1, q2, q3, q4⟩
 have hbs : ∀ {wl : World}, w2.drew.grownBy wl none → (wl.cell? ⟨g, 0, none⟩ = some (.int .i64 m) ∧ wl.cell? ⟨gx, 0, none⟩ = some (.int .i64 k) ∧ wl.cell? ⟨gx, 1, none⟩ = some (.int .i64 n) ∧ wl.cell? ⟨gx, 2, none⟩ = some (.slice a2 nm c2) ∧ wl.cell? ⟨gx, 3, none⟩ = some (.slice a3 nn c3) ∧ wl.cell? ⟨gx, 4, none⟩ = some (.slice a4 ks.length c4)) := by
  intro wl hq
  have hb : Below w2.drew.heap.size w2.drew wl := below_grown hq
  exact ⟨cell_on HS0.1 hb, cell_on HS0.2.1 hb, cell_on HS0.2.2.1 hb, cell_on HS0.2.2.2.1 hb, cell_on HS0.2.2.2.2.1 hb, cell_on HS0.2.2.2.2.2 hb⟩
 have HK := l6kidsC k n (.slice a2 nm c2) (.slice a3 nn c3) a4 ks.length c4 w2.drew hk9
 have y2 : w2.grownBy w2.drew none := ⟨rfl, rfl, rfl, Nat.le_refl _, fun _ _ _ => rfl⟩
 by_cases r1 : m < 0
 ·
  have he : Hid (spEx (.mk k n mod name ks) d arg left = false) := spEx_room (.inl (by omega))
  clear HK hbs hm
  refine wp_region_held_drew (S := fun wx => (wx.cell? ⟨g, 0, none⟩ = some (.int .i64 m) ∧ wx.cell? ⟨gx, 0, none⟩ = some (.int .i64 k) ∧ wx.cell? ⟨gx, 1, none⟩ = some (.int .i64 n) ∧ wx.cell? ⟨gx, 2, none⟩ = some (.slice a2 nm c2) ∧ wx.cell? ⟨gx, 3, none⟩ = some (.slice a3 nn c3) ∧ wx.cell? ⟨gx, 4, none⟩ = some (.slice a4 ks.length c4))) (by kernel_rfl) HS0 (fun hHeld => ?_)
  refine ta 0 ?_ hHeld
  refine ta 1 ?_ hHeld
  refine ta 2 ?_ hHeld
  try simp only [nrm]
  refine ta 3 ?_ hHeld
  refine ta 4 ?_ hHeld
  try simp only [nrm]
  refine sa 5 ?_ hHeld
  refine sa 6 ?_ hHeld
  try simp only [nrm]
  refine ta 7 ?_ hHeld
  refine ta 8 ?_ hHeld
  try simp only [nrm]
  refine sa 9 ?_ hHeld
  refine sa 10 ?_ hHeld
  refine sa 11 ?_ hHeld
  try simp only [nrm]
  refine sa 12 ?_ hHeld
  refine sa 13 ?_ hHeld
  refine sa 14 ?_ hHeld
  try simp only [nrm]
  refine ta 15 ?_ hHeld
  refine ta 16 ?_ hHeld
  try simp only [nrm]
  refine sa 17 ?_ hHeld
  refine sa 18 ?_ hHeld
  refine sa 19 ?_ hHeld
  try simp only [nrm]
  refine sa 20 ?_ hHeld
  refine sa 21 ?_ hHeld
  refine sa 22 ?_ hHeld
  try simp only [nrm]
  refine sa 23 ?_ hHeld
  try simp only [nrm]
  refine ta 24 ?_ hHeld
  try simp only [nrm]
  refine wpAnyH_done (by kernel_rfl) ?_ _
  go_wp2_with fail
  go_ret
  rw [he.out]
  exact ⟨rfl, grown_trans yy (grown_any y2 _), by simp⟩
 by_cases r2 : 16 < d
 ·
  have he : Hid (spEx (.mk k n mod name ks) d arg left = false) := spEx_room (.inr r2)
  clear HK hbs hm
  refine wp_region_held_drew (S := fun wx => (wx.cell? ⟨g, 0, none⟩ = some (.int .i64 m) ∧ wx.cell? ⟨gx, 0, none⟩ = some (.int .i64 k) ∧ wx.cell? ⟨gx, 1, none⟩ = some (.int .i64 n) ∧ wx.cell? ⟨gx, 2, none⟩ = some (.slice a2 nm c2) ∧ wx.cell? ⟨gx, 3, none⟩ = some (.slice a3 nn c3) ∧ wx.cell? ⟨gx, 4, none⟩ = some (.slice a4 ks.length c4))) (by kernel_rfl) HS0 (fun hHeld => ?_)
  refine ta 0 ?_ hHeld
  refine ta 1 ?_ hHeld
  refine ta 2 ?_ hHeld
  try simp only [nrm]
  refine ta 3 ?_ hHeld
  refine ta 4 ?_ hHeld
  refine ta 5 ?_ hHeld
  try simp only [nrm]
  refine ta 6 ?_ hHeld
  refine ta 7 ?_ hHeld
  refine ta 8 ?_ hHeld
  try simp only [nrm]
  refine sa 9 ?_ hHeld
  refine sa 10 ?_ hHeld
  refine sa 11 ?_ hHeld
  try simp only [nrm]
  refine sa 12 ?_ hHeld
  refine sa 13 ?_ hHeld
  refine sa 14 ?_ hHeld
  try simp only [nrm]
  refine ta 15 ?_ hHeld
  refine ta 16 ?_ hHeld
  try simp only [nrm]
  refine sa 17 ?_ hHeld
  refine sa 18 ?_ hHeld
  refine sa 19 ?_ hHeld
  try simp only [nrm]
  refine sa 20 ?_ hHeld
  refine sa 21 ?_ hHeld
  refine sa 22 ?_ hHeld
  try simp only [nrm]
  refine sa 23 ?_ hHeld
  try simp only [nrm]
  refine ta 24 ?_ hHeld
  try simp only [nrm]
  refine wpAnyH_done (by kernel_rfl) ?_ _
  go_wp2_with fail
  go_ret
  rw [he.out]
  exact ⟨rfl, grown_trans yy (grown_any y2 _), by simp⟩
 by_cases r3 : sKids k ks.length = ks.length
 rotate_left
 ·
  have hI := fun h => r3 ((sKids_iff k ks.length).2 h)
  have r3' : (sKids k ks.length != (ks.length : Int)) = true := by simpa using r3
  have hloc : exLoc k n mod name ks.length = false := by
   cases i1 : inB k 0 7
   ·
    exact loc_no (.inl i1)
   ·
    refine loc_no (.inr (.inl ?_))
    cases i2 : inB (ks.length : Int) (exLeast k) (exMost k)
    ·
     rfl
    ·
     exact absurd ⟨i1, by simp [inB] at i2; omega, by simp [inB] at i2; omega⟩ hI
  have he : Hid (spEx (.mk k n mod name ks) d arg left = false) := spEx_loc hloc
  clear hI hloc hm r3
  generalize sKids k ks.length = sk at *
  refine wp_region_held_drew (S := fun wx => (wx.cell? ⟨g, 0, none⟩ = some (.int .i64 m) ∧ wx.cell? ⟨gx, 0, none⟩ = some (.int .i64 k) ∧ wx.cell? ⟨gx, 1, none⟩ = some (.int .i64 n) ∧ wx.cell? ⟨gx, 2, none⟩ = some (.slice a2 nm c2) ∧ wx.cell? ⟨gx, 3, none⟩ = some (.slice a3 nn c3) ∧ wx.cell? ⟨gx, 4, none⟩ = some (.slice a4 ks.length c4))) (by kernel_rfl) HS0 (fun hHeld => ?_)
  refine ta 0 ?_ hHeld
  refine ta 1 ?_ hHeld
  refine ta 2 ?_ hHeld
  try simp only [nrm]
  refine ta 3 ?_ hHeld
  refine ta 4 ?_ hHeld
  refine ta 5 ?_ hHeld
  try simp only [nrm]
  refine ta 6 ?_ hHeld
  refine ta 7 ?_ hHeld
  refine ta 8 ?_ hHeld
  try simp only [nrm]
  refine ta 9 ?_ hHeld
  refine ta 11 ?_ hHeld
  refine ta 12 ?_ hHeld
  try simp only [nrm]
  refine ta 13 ?_ hHeld
  try simp only [nrm]
  refine ra 10 fun K hK => ?_
  go_simp
  (with_reducible refine HK.mono ?_)
  rintro e w3 ⟨rfl, hq⟩
  go_wp2_with fail
  refine hK.out _ _ (hbs hq) (fun hHeld => ?_)
  clear hK K
  try simp only [nrm]
  refine ta 14 ?_ hHeld
  refine ta 15 ?_ hHeld
  refine ta 16 ?_ hHeld
  try simp only [nrm]
  refine sa 17 ?_ hHeld
  refine sa 18 ?_ hHeld
  refine sa 19 ?_ hHeld
  try simp only [nrm]
  refine sa 20 ?_ hHeld
  refine sa 21 ?_ hHeld
  refine sa 22 ?_ hHeld
  try simp only [nrm]
  refine sa 23 ?_ hHeld
  try simp only [nrm]
  refine ta 24 ?_ hHeld
  try simp only [nrm]
  refine wpAnyH_done (by kernel_rfl) ?_ _
  go_wp2_with fail
  go_ret
  rw [he.out]
  exact ⟨rfl, grown_trans yy (grown_any (grown_trans y2 hq) _), by simp⟩
 obtain ⟨i1, i2, i3⟩ := (sKids_iff k ks.length).1 r3
 have HI4 : Hid (inB k 0 7 = true ∧ inB (ks.length : Int) (exLeast k) (exMost k) = true) := ⟨i1, by simp [inB]; omega⟩
 rw [r3] at HK
 have h8 : k = 0 ∨ k = 1 ∨ k = 2 ∨ k = 3 ∨ k = 4 ∨ k = 5 ∨ k = 6 ∨ k = 7 := by simp [inB] at i1; omega
 clear r3 i1 i2 i3 hm
 rcases h8 with rfl | rfl | rfl | rfl | rfl | rfl | rfl | rfl

 ·
  refine wp_region_held_drew (S := fun wx => (wx.cell? ⟨g, 0, none⟩ = some (.int .i64 m) ∧ wx.cell? ⟨gx, 0, none⟩ = some (.int .i64 0) ∧ wx.cell? ⟨gx, 1, none⟩ = some (.int .i64 n) ∧ wx.cell? ⟨gx, 2, none⟩ = some (.slice a2 nm c2) ∧ wx.cell? ⟨gx, 3, none⟩ = some (.slice a3 nn c3) ∧ wx.cell? ⟨gx, 4, none⟩ = some (.slice a4 ks.length c4))) (by kernel_rfl) HS0 (fun hHeld => ?_)
  refine ta 0 ?_ hHeld
  refine ta 1 ?_ hHeld
  refine ta 2 ?_ hHeld
  try simp only [nrm]
  refine ta 3 ?_ hHeld
  refine ta 4 ?_ hHeld
  refine ta 5 ?_ hHeld
  try simp only [nrm]
  refine ta 6 ?_ hHeld
  refine ta 7 ?_ hHeld
  refine ta 8 ?_ hHeld
  try simp only [nrm]
  refine ta 9 ?_ hHeld
  refine ta 11 ?_ hHeld
  refine ta 12 ?_ hHeld
  try simp only [nrm]
  refine ta 13 ?_ hHeld
  try simp only [nrm]
  refine ra 10 fun K hK => ?_
  go_simp
  (with_reducible refine HK.mono ?_)
  rintro e w3 ⟨rfl, hq⟩
  go_wp2_with fail
  refine hK.out _ _ (hbs hq) (fun hHeld => ?_)
  clear hK K
  try simp only [nrm]
  refine ta 14 ?_ hHeld
  refine ta 15 ?_ hHeld
  refine ta 16 ?_ hHeld
  try simp only [nrm]
  refine ta 17 ?_ hHeld
  refine ta 18 ?_ hHeld
  refine ta 19 ?_ hHeld
  try simp only [nrm]
  refine ta 20 ?_ hHeld
  try simp only [nrm]
  refine sa 21 ?_ hHeld
  refine sa 22 ?_ hHeld
  try simp only [nrm]
  refine ta 23 ?_ hHeld
  refine ta 24 ?_ hHeld
  try simp only [nrm]
  refine wpAnyH_done (by kernel_rfl) ?_ _
  have hq3 := grown_trans y2 hq
  replace x0 := x0.below (below_grown hq3) x0.lt
  replace hL2 : Lft w3 g m := Blk.below hL2 (below_grown hq3) (Blk.lt hL2)
  replace yy := grown_trans yy (grown_any hq3 _)
  replace hb := hb.trans ((below_grown hq3).mono hb.size)
  clear HK hq hq3 z0 q0 q1 q2 q3 q4 HS0 hbs y2
  obtain ⟨q0, q1, q2, q3, q4⟩ := x0.c5
  have hn3 := specNameOk a3 nn c3 name false w3 (h3.below hb) (by omega)
  have hn2 := specNameOk a2 nm c2 mod true w3 (h2.below hb) (by omega)
  by_cases e0 : nn = 0
  rotate_left
  ·
   have e0' : (0 : Int) < (nn : Int) := by omega
   have he : Hid (spEx (.mk 0 n mod name ks) d arg left = false) := spEx_loc (loc_no (.inr (.inr (.inr (.inr (.inl ⟨by decide, by rw [HNA.out]; exact e0⟩))))))
   go_wp2_with fail
   go_ret
   rw [he.out]
   exact ⟨rfl, yy, by simp⟩
  have e0' : ¬ (0 : Int) < (nn : Int) := by omega
  have HE0 : Hid (name.length = 0) := HNA.out.trans e0
  clear e0
  by_cases em : nm = 0
  rotate_left
  ·
   have em' : (0 : Int) < (nm : Int) := by omega
   have he : Hid (spEx (.mk 0 n mod name ks) d arg left = false) := spEx_loc (loc_no (.inr (.inr (.inr (.inr (.inr (.inl ⟨by rw [HMO.out]; exact em, by decide⟩)))))))
   go_wp2_with fail
   go_ret
   rw [he.out]
   exact ⟨rfl, yy, by simp⟩
  have em' : ¬ (0 : Int) < (nm : Int) := by omega
  have HEM : Hid (mod.length = 0) := HMO.out.trans em
  clear em
  have hwf : (n != wrap64 (wrap32 n)) = !(inB n (-2147483648) 2147483647) := by rw [← wr_self]; rfl
  have HW := specWrapC n w3.drew
  generalize wrap64 (wrap32 n) = wn at *
  generalize hnn : inB n (-2147483648) 2147483647 = nnb at *
  have HNN : Hid (inB n (exLow 0) (exHigh 0) = nnb) := hnn
  clear hnn
  go_upto_region 13 with fail
  have q1d : w3.drew.cell? ⟨gx, 1, none⟩ = some (.int .i64 n) := q1
  go_region_held3 (fun wx => wx.cell? ⟨gx, 1, none⟩ = some (.int .i64 n)) (first | exact q1d) (first
   | (go_at_call 202; (with_reducible refine HW.mono ?_); rintro e w4 ⟨rfl, rfl⟩))
  have y3 : w3.grownBy w3.drew none := ⟨rfl, rfl, rfl, Nat.le_refl _, fun _ _ _ => rfl⟩
  replace x0 : Blk w3.drew gx 125 _ := x0
  replace hL2 : Lft w3.drew g m := hL2
  replace yy := grown_trans yy (grown_any y3 _)
  replace hb := hb.drew
  clear HW q0 q1 q2 q3 q4 q1d y3 hn2 hn3
  generalize w3.drew = w4 at *
  obtain ⟨q0, q1, q2, q3, q4⟩ := x0.c5
  cases nnb
  ·
   skip
   have he : Hid (spEx (.mk 0 n mod name ks) d arg left = false) := spEx_loc (loc_no (.inr (.inr (.inl HNN.out))))
   go_wp2_with fail
   go_ret
   rw [he.out]
   exact ⟨rfl, yy, by simp⟩
  have HE : Hid (spEx (.mk 0 n mod name ks) d arg left = spExs ks (d + 1) false m) := by
   show _ = _
   rw [spEx_rest (loc_yes HI4.out.1 HI4.out.2 HNN.out (by rw [show exNamed 0 = false from by decide]; exact decide_eq_true HE0.out) (by rw [decide_eq_true HEM.out]; rfl)) (.inl (by decide)) (by have := HMM.out; omega) (by omega), HMM.out]
   rfl
  have HD : Hid (ndEx (.mk 0 n mod name ks) = 1 + ndExs ks) := by show _ = _; simp [ndEx]
  have hz : ks.length = 0 := kids_zero HI4.out.2 (by decide)
  have hks : ks = [] := List.eq_nil_of_length_eq_zero hz
  have HT : Hid (spExs ks (d + 1) false m = true) := by show _ = _; rw [hks]; exact spExs_nil (by omega)
  have HD0 : Hid (ndExs ks = 0) := by show _ = _; rw [hks]; rfl
  subst hks
  simp only [List.length_nil] at q4 ⊢
  clear hz x0 hkl hk9
  go_wp2_with fail
  refine wp_loop_rounds 1 ?_
  rw [rounds_succ]
  go_wp2_with fail
  go_ret
  rw [HE.out, HT.out]
  exact ⟨rfl, yy, fun _ => by rw [HD.out, HD0.out, show left - ((1 + 0 : Nat) : Int) = m by have := HMM.out; omega]; exact hL2⟩
 ·
  refine wp_region_held_drew (S := fun wx => (wx.cell? ⟨g, 0, none⟩ = some (.int .i64 m) ∧ wx.cell? ⟨gx, 0, none⟩ = some (.int .i64 1) ∧ wx.cell? ⟨gx, 1, none⟩ = some (.int .i64 n) ∧ wx.cell? ⟨gx, 2, none⟩ = some (.slice a2 nm c2) ∧ wx.cell? ⟨gx, 3, none⟩ = some (.slice a3 nn c3) ∧ wx.cell? ⟨gx, 4, none⟩ = some (.slice a4 ks.length c4))) (by kernel_rfl) HS0 (fun hHeld => ?_)
  refine ta 0 ?_ hHeld
  refine ta 1 ?_ hHeld
  refine ta 2 ?_ hHeld
  try simp only [nrm]
  refine ta 3 ?_ hHeld
  refine ta 4 ?_ hHeld
  refine ta 5 ?_ hHeld
  try simp only [nrm]
  refine ta 6 ?_ hHeld
  refine ta 7 ?_ hHeld
  refine ta 8 ?_ hHeld
  try simp only [nrm]
  refine ta 9 ?_ hHeld
  refine ta 11 ?_ hHeld
  refine ta 12 ?_ hHeld
  try simp only [nrm]
  refine ta 13 ?_ hHeld
  try simp only [nrm]
  refine ra 10 fun K hK => ?_
  go_simp
  (with_reducible refine HK.mono ?_)
  rintro e w3 ⟨rfl, hq⟩
  go_wp2_with fail
  refine hK.out _ _ (hbs hq) (fun hHeld => ?_)
  clear hK K
  try simp only [nrm]
  refine ta 14 ?_ hHeld
  refine ta 15 ?_ hHeld
  refine ta 16 ?_ hHeld
  try simp only [nrm]
  refine ta 17 ?_ hHeld
  refine ta 18 ?_ hHeld
  refine ta 19 ?_ hHeld
  try simp only [nrm]
  refine ta 20 ?_ hHeld
  try simp only [nrm]
  refine sa 21 ?_ hHeld
  refine sa 22 ?_ hHeld
  try simp only [nrm]
  refine ta 23 ?_ hHeld
  refine ta 24 ?_ hHeld
  try simp only [nrm]
  refine wpAnyH_done (by kernel_rfl) ?_ _
  have hq3 := grown_trans y2 hq
  replace x0 := x0.below (below_grown hq3) x0.lt
  replace hL2 : Lft w3 g m := Blk.below hL2 (below_grown hq3) (Blk.lt hL2)
  replace yy := grown_trans yy (grown_any hq3 _)
  replace hb := hb.trans ((below_grown hq3).mono hb.size)
  clear HK hq hq3 z0 q0 q1 q2 q3 q4 HS0 hbs y2
  obtain ⟨q0, q1, q2, q3, q4⟩ := x0.c5
  have hn3 := specNameOk a3 nn c3 name false w3 (h3.below hb) (by omega)
  have hn2 := specNameOk a2 nm c2 mod true w3 (h2.below hb) (by omega)
  by_cases e0 : nn = 0
  ·
   have hno : nameOk name false = false := nameOk_short (by rw [HNA.out]; omega)
   rw [e0] at q3 ⊢
   have he : Hid (spEx (.mk 1 n mod name ks) d arg left = false) := spEx_loc (loc_no (.inr (.inr (.inr (.inl ⟨by decide, hno⟩)))))
   go_wp2_with fail
   go_ret
   rw [he.out]
   exact ⟨rfl, yy, by simp⟩
  have e0' : (0 : Int) < (nn : Int) := by omega
  generalize hnb : nameOk name false = nb at *
  have HNB : Hid (nameOk name false = nb) := hnb
  clear hnb
  go_wp2_with fail
  refine hn3.mono ?_
  rintro e w3 ⟨rfl, rfl⟩
  clear hn3
  cases nb
  ·
   skip
   have he : Hid (spEx (.mk 1 n mod name ks) d arg left = false) := spEx_loc (loc_no (.inr (.inr (.inr (.inl ⟨by decide, HNB.out⟩)))))
   go_wp2_with fail
   go_ret
   rw [he.out]
   exact ⟨rfl, yy, by simp⟩
  by_cases em : nm = 0
  rotate_left
  ·
   have em' : (0 : Int) < (nm : Int) := by omega
   have he : Hid (spEx (.mk 1 n mod name ks) d arg left = false) := spEx_loc (loc_no (.inr (.inr (.inr (.inr (.inr (.inl ⟨by rw [HMO.out]; exact em, by decide⟩)))))))
   go_wp2_with fail
   go_ret
   rw [he.out]
   exact ⟨rfl, yy, by simp⟩
  have em' : ¬ (0 : Int) < (nm : Int) := by omega
  have HEM : Hid (mod.length = 0) := HMO.out.trans em
  clear em
  by_cases n0 : n = 0
  rotate_left
  ·
   have n0' : (n != 0) = true := by simpa using n0
   have he : Hid (spEx (.mk 1 n mod name ks) d arg left = false) := spEx_loc (loc_no (.inr (.inr (.inl (by simp [inB, exLow, exHigh]; omega)))))
   go_wp2_with fail
   go_ret
   rw [he.out]
   exact ⟨rfl, yy, by simp⟩
  have n0' : (n != 0) = false := by simpa using n0
  have HNN : Hid (inB n (exLow 1) (exHigh 1) = true) := by show _ = _; rw [n0]; decide
  clear n0
  have HE : Hid (spEx (.mk 1 n mod name ks) d arg left = spExs ks (d + 1) false m) := by
   show _ = _
   rw [spEx_rest (loc_yes HI4.out.1 HI4.out.2 HNN.out (by rw [show exNamed 1 = true from by decide]; exact HNB.out) (by rw [decide_eq_true HEM.out]; rfl)) (.inl (by decide)) (by have := HMM.out; omega) (by omega), HMM.out]
   rfl
  have HD : Hid (ndEx (.mk 1 n mod name ks) = 1 + ndExs ks) := by show _ = _; simp [ndEx]
  have hz : ks.length = 0 := kids_zero HI4.out.2 (by decide)
  have hks : ks = [] := List.eq_nil_of_length_eq_zero hz
  have HT : Hid (spExs ks (d + 1) false m = true) := by show _ = _; rw [hks]; exact spExs_nil (by omega)
  have HD0 : Hid (ndExs ks = 0) := by show _ = _; rw [hks]; rfl
  subst hks
  simp only [List.length_nil] at q4 ⊢
  clear hz x0 hkl hk9
  go_wp2_with fail
  refine wp_loop_rounds 1 ?_
  rw [rounds_succ]
  go_wp2_with fail
  go_ret
  rw [HE.out, HT.out]
  exact ⟨rfl, yy, fun _ => by rw [HD.out, HD0.out, show left - ((1 + 0 : Nat) : Int) = m by have := HMM.out; omega]; exact hL2⟩
 ·
  refine wp_region_held_drew (S := fun wx => (wx.cell? ⟨g, 0, none⟩ = some (.int .i64 m) ∧ wx.cell? ⟨gx, 0, none⟩ = some (.int .i64 2) ∧ wx.cell? ⟨gx, 1, none⟩ = some (.int .i64 n) ∧ wx.cell? ⟨gx, 2, none⟩ = some (.slice a2 nm c2) ∧ wx.cell? ⟨gx, 3, none⟩ = some (.slice a3 nn c3) ∧ wx.cell? ⟨gx, 4, none⟩ = some (.slice a4 ks.length c4))) (by kernel_rfl) HS0 (fun hHeld => ?_)
  refine ta 0 ?_ hHeld
  refine ta 1 ?_ hHeld
  refine ta 2 ?_ hHeld
  try simp only [nrm]
  refine ta 3 ?_ hHeld
  refine ta 4 ?_ hHeld
  refine ta 5 ?_ hHeld
  try simp only [nrm]
  refine ta 6 ?_ hHeld
  refine ta 7 ?_ hHeld
  refine ta 8 ?_ hHeld
  try simp only [nrm]
  refine ta 9 ?_ hHeld
  refine ta 11 ?_ hHeld
  refine ta 12 ?_ hHeld
  try simp only [nrm]
  refine ta 13 ?_ hHeld
  try simp only [nrm]
  refine ra 10 fun K hK => ?_
  go_simp
  (with_reducible refine HK.mono ?_)
  rintro e w3 ⟨rfl, hq⟩
  go_wp2_with fail
  refine hK.out _ _ (hbs hq) (fun hHeld => ?_)
  clear hK K
  try simp only [nrm]
  refine ta 14 ?_ hHeld
  refine ta 15 ?_ hHeld
  refine ta 16 ?_ hHeld
  try simp only [nrm]
  refine ta 17 ?_ hHeld
  refine ta 18 ?_ hHeld
  refine ta 19 ?_ hHeld
  try simp only [nrm]
  refine ta 20 ?_ hHeld
  try simp only [nrm]
  refine sa 21 ?_ hHeld
  refine sa 22 ?_ hHeld
  try simp only [nrm]
  refine ta 23 ?_ hHeld
  refine ta 24 ?_ hHeld
  try simp only [nrm]
  refine wpAnyH_done (by kernel_rfl) ?_ _
  have hq3 := grown_trans y2 hq
  replace x0 := x0.below (below_grown hq3) x0.lt
  replace hL2 : Lft w3 g m := Blk.below hL2 (below_grown hq3) (Blk.lt hL2)
  replace yy := grown_trans yy (grown_any hq3 _)
  replace hb := hb.trans ((below_grown hq3).mono hb.size)
  clear HK hq hq3 z0 q0 q1 q2 q3 q4 HS0 hbs y2
  obtain ⟨q0, q1, q2, q3, q4⟩ := x0.c5
  have hn3 := specNameOk a3 nn c3 name false w3 (h3.below hb) (by omega)
  have hn2 := specNameOk a2 nm c2 mod true w3 (h2.below hb) (by omega)
  by_cases e0 : nn = 0
  ·
   have hno : nameOk name false = false := nameOk_short (by rw [HNA.out]; omega)
   rw [e0] at q3 ⊢
   have he : Hid (spEx (.mk 2 n mod name ks) d arg left = false) := spEx_loc (loc_no (.inr (.inr (.inr (.inl ⟨by decide, hno⟩)))))
   go_wp2_with fail
   go_ret
   rw [he.out]
   exact ⟨rfl, yy, by simp⟩
  have e0' : (0 : Int) < (nn : Int) := by omega
  generalize hnb : nameOk name false = nb at *
  have HNB : Hid (nameOk name false = nb) := hnb
  clear hnb
  go_wp2_with fail
  refine hn3.mono ?_
  rintro e w3 ⟨rfl, rfl⟩
  clear hn3
  cases nb
  ·
   skip
   have he : Hid (spEx (.mk 2 n mod name ks) d arg left = false) := spEx_loc (loc_no (.inr (.inr (.inr (.inl ⟨by decide, HNB.out⟩)))))
   go_wp2_with fail
   go_ret
   rw [he.out]
   exact ⟨rfl, yy, by simp⟩
  by_cases em : nm = 0
  rotate_left
  ·
   have em' : (0 : Int) < (nm : Int) := by omega
   have he : Hid (spEx (.mk 2 n mod name ks) d arg left = false) := spEx_loc (loc_no (.inr (.inr (.inr (.inr (.inr (.inl ⟨by rw [HMO.out]; exact em, by decide⟩)))))))
   go_wp2_with fail
   go_ret
   rw [he.out]
   exact ⟨rfl, yy, by simp⟩
  have em' : ¬ (0 : Int) < (nm : Int) := by omega
  have HEM : Hid (mod.length = 0) := HMO.out.trans em
  clear em
  by_cases n0 : n = 0
  rotate_left
  ·
   have n0' : (n != 0) = true := by simpa using n0
   have he : Hid (spEx (.mk 2 n mod name ks) d arg left = false) := spEx_loc (loc_no (.inr (.inr (.inl (by simp [inB, exLow, exHigh]; omega)))))
   go_wp2_with fail
   go_ret
   rw [he.out]
   exact ⟨rfl, yy, by simp⟩
  have n0' : (n != 0) = false := by simpa using n0
  have HNN : Hid (inB n (exLow 2) (exHigh 2) = true) := by show _ = _; rw [n0]; decide
  clear n0
  have HE : Hid (spEx (.mk 2 n mod name ks) d arg left = spExs ks (d + 1) false m) := by
   show _ = _
   rw [spEx_rest (loc_yes HI4.out.1 HI4.out.2 HNN.out (by rw [show exNamed 2 = true from by decide]; exact HNB.out) (by rw [decide_eq_true HEM.out]; rfl)) (.inl (by decide)) (by have := HMM.out; omega) (by omega), HMM.out]
   rfl
  have HD : Hid (ndEx (.mk 2 n mod name ks) = 1 + ndExs ks) := by show _ = _; simp [ndEx]
  have HX0 : Hid _ := x0
  have HY : Hid (w.grownBy w3 (some g)) := yy
  have HB3 : Hid (Below w0.heap.size w0 w3) := hb
  have HLF : Hid (Lft w3 g (m - (ndExs (ks.take 0) : Int))) := by show Lft _ _ _; simpa [ndExs] using hL2
  have HRW : Hid (LRow w0 a4 c4 5 (exs ks)) := h4
  have HSK : Hid (rowsLen (exs ks) ≤ 1048576) := hsk
  have HSS : Hid (∀ x ∈ ks, SpEx x) := S
  have hm0 : 0 ≤ m := by omega
  have hm1 : m ≤ 250 := by have := HMM.out; omega
  have hd2 : d + 1 ≤ 17 := by omega
  have hd3 : 0 ≤ d + 1 := by omega
  go_wp2_with fail
  clear q0 q1 q2 q3 q4 x0 yy hb hL2 h4
  go_loopw [10] (fun i wr => ∃ j : Nat, j ≤ ks.length ∧ i = .int .i64 j ∧ Hid (w3.grownBy wr (some g)) ∧ Hid (Lft wr g (m - (ndExs (ks.take j) : Int))) ∧ Hid ((ndExs (ks.take j) : Int) ≤ m) ∧ Hid (∀ i x, i < j → ks[i]? = some x → spEx x (d + 1) false (m - (ndExs (ks.take i) : Int)) = true)) (fun i _ => ks.length - (intOf i).toNat)
  case atStart => exact ⟨0, Nat.zero_le _, rfl, grown_refl _ _, HLF, by show (_ : Int) ≤ _; simp [ndExs]; omega, by show ∀ _ _, _; omega⟩
  case round =>
   obtain ⟨j, hj, rfl, hgr, hLj, hnj, hyes⟩ := hrel
   clear HLF
   have x0 := Blk.grown HX0.out hgr.out hgx
   have q0 := x0.cell (i := 0) rfl
   have q4 := x0.cell (i := 4) rfl
   have hb := below_at HB3.out hgr.out hg
   by_cases hlt : j < ks.length
   ·
    obtain ⟨b4, o4, rfl⟩ := LRow.addr HRW.out (by rw [hkl]; omega)
    obtain ⟨x, hx⟩ : ∃ x, ks[j]? = some x := ⟨ks[j], List.getElem?_eq_getElem _⟩
    have hxj : (exs ks)[j]? = some x.fl := by rw [exs_map, List.getElem?_map, hx]; rfl
    obtain ⟨us, hvs, hcl⟩ := (LRow.el HRW.out hxj).vals
    obtain ⟨u0, u1, u2, u3, u4, rfl⟩ := five_of (hvs.len.trans (exs_len x))
    have hc0 : w0.cell? ⟨b4, o4 + j * 5, none⟩ = some u0 := hcl 0 _ rfl
    replace hcl : ∀ i v, _ → _ := fun i v hv => cell_on (hcl i v hv) hb
    have t0 : wr.cell? ⟨b4, o4 + j * 5, none⟩ = some u0 := hcl 0 _ rfl
    have t1 : wr.cell? ⟨b4, o4 + j * 5 + 1, none⟩ = some u1 := hcl 1 _ rfl
    have t2 : wr.cell? ⟨b4, o4 + j * 5 + 2, none⟩ = some u2 := hcl 2 _ rfl
    have t3 : wr.cell? ⟨b4, o4 + j * 5 + 3, none⟩ = some u3 := hcl 3 _ rfl
    have t4 : wr.cell? ⟨b4, o4 + j * 5 + 4, none⟩ = some u4 := hcl 4 _ rfl
    have hmem := List.mem_of_getElem? hx
    have hsx : recLen x.fl ≤ 1048576 := Nat.le_trans (recLen_le (List.mem_of_getElem? hxj)) HSK.out
    have hbd : Below w0.heap.size w0 wr.drew := hb.drew
    have hLd : Lft wr.drew g (m - (ndExs (ks.take j) : Int)) := hLj.out
    have HC := HSS.out x hmem w0 wr.drew [u0, u1, u2, u3, u4] g (m - (ndExs (ks.take j) : Int)) (d + 1) false hvs hbd hg hLd (by have := hnj.out; omega) (by omega) hd3 hd2 hsx
    simp only [agg] at HC
    have HJ : Hid (ks[j]? = some x) := hx
    have HNX : Hid (ndExs (ks.take (j + 1)) = ndExs (ks.take j) + ndEx x) := ndExs_next hx
    clear hcl hx hxj hmem hsx hvs hbd hLd
    generalize hsp : spEx x (d + 1) false (m - (ndExs (ks.take j) : Int)) = rr at *
    have HSP : Hid (spEx x (d + 1) false (m - (ndExs (ks.take j) : Int)) = rr) := hsp
    clear hsp
    have hb4 : b4 ≠ g := by
     have := World.block_lt_of_cell? w0 _ hc0
     simp only at this
     omega
    have HS0 : (wr.drew.cell? ⟨gx, 0, none⟩ = some (.int .i64 2) ∧ wr.drew.cell? ⟨gx, 4, none⟩ = some (.slice (some ⟨b4, o4, none⟩) ks.length c4) ∧ wr.drew.cell? ⟨b4, o4 + j * 5, none⟩ = some u0 ∧ wr.drew.cell? ⟨b4, o4 + j * 5 + 1, none⟩ = some u1 ∧ wr.drew.cell? ⟨b4, o4 + j * 5 + 2, none⟩ = some u2 ∧ wr.drew.cell? ⟨b4, o4 + j * 5 + 3, none⟩ = some u3 ∧ wr.drew.cell? ⟨b4, o4 + j * 5 + 4, none⟩ = some u4) := ⟨q0, q4, t0, t1, t2, t3, t4⟩
    have hbs : ∀ {wl : World}, wr.drew.grownBy wl (some g) → (wl.cell? ⟨gx, 0, none⟩ = some (.int .i64 2) ∧ wl.cell? ⟨gx, 4, none⟩ = some (.slice (some ⟨b4, o4, none⟩) ks.length c4) ∧ wl.cell? ⟨b4, o4 + j * 5, none⟩ = some u0 ∧ wl.cell? ⟨b4, o4 + j * 5 + 1, none⟩ = some u1 ∧ wl.cell? ⟨b4, o4 + j * 5 + 2, none⟩ = some u2 ∧ wl.cell? ⟨b4, o4 + j * 5 + 3, none⟩ = some u3 ∧ wl.cell? ⟨b4, o4 + j * 5 + 4, none⟩ = some u4) := fun hq => ⟨cell_at HS0.1 hq hgx, cell_at HS0.2.1 hq hgx, cell_at HS0.2.2.1 hq hb4, cell_at HS0.2.2.2.1 hq hb4, cell_at HS0.2.2.2.2.1 hq hb4, cell_at HS0.2.2.2.2.2.1 hq hb4, cell_at HS0.2.2.2.2.2.2 hq hb4⟩
    have z5 : (0 : Int) ≤ (j : Int) := by omega
    have z7 : IntKind.i64.wrap (d + 1) = d + 1 := by rw [IntKind.wrap_i64]; omega
    have z6 : (j : Int) < (ks.length : Int) := by omega
    go_upto_region 21 with fail
    go_region_held3 (fun wx => (wx.cell? ⟨gx, 0, none⟩ = some (.int .i64 2) ∧ wx.cell? ⟨gx, 4, none⟩ = some (.slice (some ⟨b4, o4, none⟩) ks.length c4) ∧ wx.cell? ⟨b4, o4 + j * 5, none⟩ = some u0 ∧ wx.cell? ⟨b4, o4 + j * 5 + 1, none⟩ = some u1 ∧ wx.cell? ⟨b4, o4 + j * 5 + 2, none⟩ = some u2 ∧ wx.cell? ⟨b4, o4 + j * 5 + 3, none⟩ = some u3 ∧ wx.cell? ⟨b4, o4 + j * 5 + 4, none⟩ = some u4)) (first | exact HS0 | exact HSl) (first
     | (go_at_call 179; (with_reducible refine HC.mono ?_); rintro e w4 ⟨rfl, hg4, hL4⟩; have HSl := hbs hg4))
    clear HSl hbs HS0
    have HG4 : Hid (w3.grownBy w4 (some g)) := grown_trans hgr.out (grown_trans (show wr.grownBy wr.drew (some g) from ⟨rfl, rfl, rfl, Nat.le_refl _, fun _ _ _ => rfl⟩) hg4)
    have HL4 : Hid (rr = true → Lft w4 g (m - (ndExs (ks.take j) : Int) - (ndEx x : Int))) := hL4
    clear HC t0 t1 t2 t3 t4 q0 q4 x0 hb hg4 hL4
    cases rr
    ·
     have he : Hid (spEx (.mk 2 n mod name ks) d arg left = false) := by show _ = _; rw [HE.out]; exact spExs_no HJ.out HSP.out
     have hyy := grown_trans HY.out HG4.out
     go_wp2_with fail
     go_ret
     rw [he.out]
     exact ⟨rfl, hyy, by simp⟩
    ·
     have hle := spEx_le HSP.out
     have HL5 : Hid (Lft w4 g (m - (ndExs (ks.take (j + 1)) : Int))) := by
      have := HL4.out rfl
      rw [show m - (ndExs (ks.take j) : Int) - (ndEx x : Int) = m - (ndExs (ks.take (j + 1)) : Int) by rw [HNX.out]; omega] at this
      exact this
     go_wp2_with fail
     go_roundw
     case rel => exact ⟨j + 1, by omega, by go_num, HG4, HL5, (by show (_ : Int) ≤ _; rw [HNX.out]; omega), (show ∀ i x, i < j + 1 → _ from fun i y hi hy => (Nat.lt_or_ge i j).elim (fun h => hyes.out i y h hy) (fun h => by
      obtain rfl : i = j := by omega
      rw [HJ.out] at hy
      cases hy
      exact HSP.out))⟩
     case measure => simp [intOf]; omega
   ·
    have : j = ks.length := by omega
    subst this
    have he : Hid (spEx (.mk 2 n mod name ks) d arg left = true) := by
     show _ = _
     rw [HE.out]
     exact spExs_yes (fun i y hy => hyes.out i y (List.getElem?_eq_some_iff.1 hy).1 hy) hm0
    have hyy := grown_trans HY.out hgr.out
    have hLf := hLj.out
    rw [List.take_length] at hLf
    go_wp2_with fail
    go_ret
    rw [he.out]
    exact ⟨rfl, hyy, fun _ => by rw [HD.out, show left - ((1 + ndExs ks : Nat) : Int) = m - (ndExs ks : Int) by have := HMM.out; omega]; exact hLf⟩
 ·
  refine wp_region_held_drew (S := fun wx => (wx.cell? ⟨g, 0, none⟩ = some (.int .i64 m) ∧ wx.cell? ⟨gx, 0, none⟩ = some (.int .i64 3) ∧ wx.cell? ⟨gx, 1, none⟩ = some (.int .i64 n) ∧ wx.cell? ⟨gx, 2, none⟩ = some (.slice a2 nm c2) ∧ wx.cell? ⟨gx, 3, none⟩ = some (.slice a3 nn c3) ∧ wx.cell? ⟨gx, 4, none⟩ = some (.slice a4 ks.length c4))) (by kernel_rfl) HS0 (fun hHeld => ?_)
  refine ta 0 ?_ hHeld
  refine ta 1 ?_ hHeld
  refine ta 2 ?_ hHeld
  try simp only [nrm]
  refine ta 3 ?_ hHeld
  refine ta 4 ?_ hHeld
  refine ta 5 ?_ hHeld
  try simp only [nrm]
  refine ta 6 ?_ hHeld
  refine ta 7 ?_ hHeld
  refine ta 8 ?_ hHeld
  try simp only [nrm]
  refine ta 9 ?_ hHeld
  refine ta 11 ?_ hHeld
  refine ta 12 ?_ hHeld
  try simp only [nrm]
  refine ta 13 ?_ hHeld
  try simp only [nrm]
  refine ra 10 fun K hK => ?_
  go_simp
  (with_reducible refine HK.mono ?_)
  rintro e w3 ⟨rfl, hq⟩
  go_wp2_with fail
  refine hK.out _ _ (hbs hq) (fun hHeld => ?_)
  clear hK K
  try simp only [nrm]
  refine ta 14 ?_ hHeld
  refine ta 15 ?_ hHeld
  refine ta 16 ?_ hHeld
  try simp only [nrm]
  refine ta 17 ?_ hHeld
  refine ta 18 ?_ hHeld
  refine ta 19 ?_ hHeld
  try simp only [nrm]
  refine ta 20 ?_ hHeld
  try simp only [nrm]
  refine sa 21 ?_ hHeld
  refine sa 22 ?_ hHeld
  try simp only [nrm]
  refine ta 23 ?_ hHeld
  refine ta 24 ?_ hHeld
  try simp only [nrm]
  refine wpAnyH_done (by kernel_rfl) ?_ _
  have hq3 := grown_trans y2 hq
  replace x0 := x0.below (below_grown hq3) x0.lt
  replace hL2 : Lft w3 g m := Blk.below hL2 (below_grown hq3) (Blk.lt hL2)
  replace yy := grown_trans yy (grown_any hq3 _)
  replace hb := hb.trans ((below_grown hq3).mono hb.size)
  clear HK hq hq3 z0 q0 q1 q2 q3 q4 HS0 hbs y2
  obtain ⟨q0, q1, q2, q3, q4⟩ := x0.c5
  have hn3 := specNameOk a3 nn c3 name false w3 (h3.below hb) (by omega)
  have hn2 := specNameOk a2 nm c2 mod true w3 (h2.below hb) (by omega)
  by_cases e0 : nn = 0
  rotate_left
  ·
   have e0' : (0 : Int) < (nn : Int) := by omega
   have he : Hid (spEx (.mk 3 n mod name ks) d arg left = false) := spEx_loc (loc_no (.inr (.inr (.inr (.inr (.inl ⟨by decide, by rw [HNA.out]; exact e0⟩))))))
   go_wp2_with fail
   go_ret
   rw [he.out]
   exact ⟨rfl, yy, by simp⟩
  have e0' : ¬ (0 : Int) < (nn : Int) := by omega
  have HE0 : Hid (name.length = 0) := HNA.out.trans e0
  clear e0
  by_cases em : nm = 0
  rotate_left
  ·
   have em' : (0 : Int) < (nm : Int) := by omega
   have he : Hid (spEx (.mk 3 n mod name ks) d arg left = false) := spEx_loc (loc_no (.inr (.inr (.inr (.inr (.inr (.inl ⟨by rw [HMO.out]; exact em, by decide⟩)))))))
   go_wp2_with fail
   go_ret
   rw [he.out]
   exact ⟨rfl, yy, by simp⟩
  have em' : ¬ (0 : Int) < (nm : Int) := by omega
  have HEM : Hid (mod.length = 0) := HMO.out.trans em
  clear em
  by_cases n0 : n < 0
  ·
   skip
   have he : Hid (spEx (.mk 3 n mod name ks) d arg left = false) := spEx_loc (loc_no (.inr (.inr (.inl (by simp [inB, exLow, exHigh]; omega)))))
   go_wp2_with fail
   go_ret
   rw [he.out]
   exact ⟨rfl, yy, by simp⟩
  by_cases n5 : 5 < n
  ·
   skip
   have he : Hid (spEx (.mk 3 n mod name ks) d arg left = false) := spEx_loc (loc_no (.inr (.inr (.inl (by simp [inB, exLow, exHigh]; omega)))))
   go_wp2_with fail
   go_ret
   rw [he.out]
   exact ⟨rfl, yy, by simp⟩
  have HNN : Hid (inB n (exLow 3) (exHigh 3) = true) := by show _ = _; simp [inB, exLow, exHigh]; omega
  have HE : Hid (spEx (.mk 3 n mod name ks) d arg left = spExs ks (d + 1) false m) := by
   show _ = _
   rw [spEx_rest (loc_yes HI4.out.1 HI4.out.2 HNN.out (by rw [show exNamed 3 = false from by decide]; exact decide_eq_true HE0.out) (by rw [decide_eq_true HEM.out]; rfl)) (.inl (by decide)) (by have := HMM.out; omega) (by omega), HMM.out]
   rfl
  have HD : Hid (ndEx (.mk 3 n mod name ks) = 1 + ndExs ks) := by show _ = _; simp [ndEx]
  have HX0 : Hid _ := x0
  have HY : Hid (w.grownBy w3 (some g)) := yy
  have HB3 : Hid (Below w0.heap.size w0 w3) := hb
  have HLF : Hid (Lft w3 g (m - (ndExs (ks.take 0) : Int))) := by show Lft _ _ _; simpa [ndExs] using hL2
  have HRW : Hid (LRow w0 a4 c4 5 (exs ks)) := h4
  have HSK : Hid (rowsLen (exs ks) ≤ 1048576) := hsk
  have HSS : Hid (∀ x ∈ ks, SpEx x) := S
  have hm0 : 0 ≤ m := by omega
  have hm1 : m ≤ 250 := by have := HMM.out; omega
  have hd2 : d + 1 ≤ 17 := by omega
  have hd3 : 0 ≤ d + 1 := by omega
  go_wp2_with fail
  clear q0 q1 q2 q3 q4 x0 yy hb hL2 h4
  go_loopw [10] (fun i wr => ∃ j : Nat, j ≤ ks.length ∧ i = .int .i64 j ∧ Hid (w3.grownBy wr (some g)) ∧ Hid (Lft wr g (m - (ndExs (ks.take j) : Int))) ∧ Hid ((ndExs (ks.take j) : Int) ≤ m) ∧ Hid (∀ i x, i < j → ks[i]? = some x → spEx x (d + 1) false (m - (ndExs (ks.take i) : Int)) = true)) (fun i _ => ks.length - (intOf i).toNat)
  case atStart => exact ⟨0, Nat.zero_le _, rfl, grown_refl _ _, HLF, by show (_ : Int) ≤ _; simp [ndExs]; omega, by show ∀ _ _, _; omega⟩
  case round =>
   obtain ⟨j, hj, rfl, hgr, hLj, hnj, hyes⟩ := hrel
   clear HLF
   have x0 := Blk.grown HX0.out hgr.out hgx
   have q0 := x0.cell (i := 0) rfl
   have q4 := x0.cell (i := 4) rfl
   have hb := below_at HB3.out hgr.out hg
   by_cases hlt : j < ks.length
   ·
    obtain ⟨b4, o4, rfl⟩ := LRow.addr HRW.out (by rw [hkl]; omega)
    obtain ⟨x, hx⟩ : ∃ x, ks[j]? = some x := ⟨ks[j], List.getElem?_eq_getElem _⟩
    have hxj : (exs ks)[j]? = some x.fl := by rw [exs_map, List.getElem?_map, hx]; rfl
    obtain ⟨us, hvs, hcl⟩ := (LRow.el HRW.out hxj).vals
    obtain ⟨u0, u1, u2, u3, u4, rfl⟩ := five_of (hvs.len.trans (exs_len x))
    have hc0 : w0.cell? ⟨b4, o4 + j * 5, none⟩ = some u0 := hcl 0 _ rfl
    replace hcl : ∀ i v, _ → _ := fun i v hv => cell_on (hcl i v hv) hb
    have t0 : wr.cell? ⟨b4, o4 + j * 5, none⟩ = some u0 := hcl 0 _ rfl
    have t1 : wr.cell? ⟨b4, o4 + j * 5 + 1, none⟩ = some u1 := hcl 1 _ rfl
    have t2 : wr.cell? ⟨b4, o4 + j * 5 + 2, none⟩ = some u2 := hcl 2 _ rfl
    have t3 : wr.cell? ⟨b4, o4 + j * 5 + 3, none⟩ = some u3 := hcl 3 _ rfl
    have t4 : wr.cell? ⟨b4, o4 + j * 5 + 4, none⟩ = some u4 := hcl 4 _ rfl
    have hmem := List.mem_of_getElem? hx
    have hsx : recLen x.fl ≤ 1048576 := Nat.le_trans (recLen_le (List.mem_of_getElem? hxj)) HSK.out
    have hbd : Below w0.heap.size w0 wr.drew := hb.drew
    have hLd : Lft wr.drew g (m - (ndExs (ks.take j) : Int)) := hLj.out
    have HC := HSS.out x hmem w0 wr.drew [u0, u1, u2, u3, u4] g (m - (ndExs (ks.take j) : Int)) (d + 1) false hvs hbd hg hLd (by have := hnj.out; omega) (by omega) hd3 hd2 hsx
    simp only [agg] at HC
    have HJ : Hid (ks[j]? = some x) := hx
    have HNX : Hid (ndExs (ks.take (j + 1)) = ndExs (ks.take j) + ndEx x) := ndExs_next hx
    clear hcl hx hxj hmem hsx hvs hbd hLd
    generalize hsp : spEx x (d + 1) false (m - (ndExs (ks.take j) : Int)) = rr at *
    have HSP : Hid (spEx x (d + 1) false (m - (ndExs (ks.take j) : Int)) = rr) := hsp
    clear hsp
    have hb4 : b4 ≠ g := by
     have := World.block_lt_of_cell? w0 _ hc0
     simp only at this
     omega
    have HS0 : (wr.drew.cell? ⟨gx, 0, none⟩ = some (.int .i64 3) ∧ wr.drew.cell? ⟨gx, 4, none⟩ = some (.slice (some ⟨b4, o4, none⟩) ks.length c4) ∧ wr.drew.cell? ⟨b4, o4 + j * 5, none⟩ = some u0 ∧ wr.drew.cell? ⟨b4, o4 + j * 5 + 1, none⟩ = some u1 ∧ wr.drew.cell? ⟨b4, o4 + j * 5 + 2, none⟩ = some u2 ∧ wr.drew.cell? ⟨b4, o4 + j * 5 + 3, none⟩ = some u3 ∧ wr.drew.cell? ⟨b4, o4 + j * 5 + 4, none⟩ = some u4) := ⟨q0, q4, t0, t1, t2, t3, t4⟩
    have hbs : ∀ {wl : World}, wr.drew.grownBy wl (some g) → (wl.cell? ⟨gx, 0, none⟩ = some (.int .i64 3) ∧ wl.cell? ⟨gx, 4, none⟩ = some (.slice (some ⟨b4, o4, none⟩) ks.length c4) ∧ wl.cell? ⟨b4, o4 + j * 5, none⟩ = some u0 ∧ wl.cell? ⟨b4, o4 + j * 5 + 1, none⟩ = some u1 ∧ wl.cell? ⟨b4, o4 + j * 5 + 2, none⟩ = some u2 ∧ wl.cell? ⟨b4, o4 + j * 5 + 3, none⟩ = some u3 ∧ wl.cell? ⟨b4, o4 + j * 5 + 4, none⟩ = some u4) := fun hq => ⟨cell_at HS0.1 hq hgx, cell_at HS0.2.1 hq hgx, cell_at HS0.2.2.1 hq hb4, cell_at HS0.2.2.2.1 hq hb4, cell_at HS0.2.2.2.2.1 hq hb4, cell_at HS0.2.2.2.2.2.1 hq hb4, cell_at HS0.2.2.2.2.2.2 hq hb4⟩
    have z5 : (0 : Int) ≤ (j : Int) := by omega
    have z7 : IntKind.i64.wrap (d + 1) = d + 1 := by rw [IntKind.wrap_i64]; omega
    have z6 : (j : Int) < (ks.length : Int) := by omega
    go_upto_region 21 with fail
    go_region_held3 (fun wx => (wx.cell? ⟨gx, 0, none⟩ = some (.int .i64 3) ∧ wx.cell? ⟨gx, 4, none⟩ = some (.slice (some ⟨b4, o4, none⟩) ks.length c4) ∧ wx.cell? ⟨b4, o4 + j * 5, none⟩ = some u0 ∧ wx.cell? ⟨b4, o4 + j * 5 + 1, none⟩ = some u1 ∧ wx.cell? ⟨b4, o4 + j * 5 + 2, none⟩ = some u2 ∧ wx.cell? ⟨b4, o4 + j * 5 + 3, none⟩ = some u3 ∧ wx.cell? ⟨b4, o4 + j * 5 + 4, none⟩ = some u4)) (first | exact HS0 | exact HSl) (first
     | (go_at_call 179; (with_reducible refine HC.mono ?_); rintro e w4 ⟨rfl, hg4, hL4⟩; have HSl := hbs hg4))
    clear HSl hbs HS0
    have HG4 : Hid (w3.grownBy w4 (some g)) := grown_trans hgr.out (grown_trans (show wr.grownBy wr.drew (some g) from ⟨rfl, rfl, rfl, Nat.le_refl _, fun _ _ _ => rfl⟩) hg4)
    have HL4 : Hid (rr = true → Lft w4 g (m - (ndExs (ks.take j) : Int) - (ndEx x : Int))) := hL4
    clear HC t0 t1 t2 t3 t4 q0 q4 x0 hb hg4 hL4
    cases rr
    ·
     have he : Hid (spEx (.mk 3 n mod name ks) d arg left = false) := by show _ = _; rw [HE.out]; exact spExs_no HJ.out HSP.out
     have hyy := grown_trans HY.out HG4.out
     go_wp2_with fail
     go_ret
     rw [he.out]
     exact ⟨rfl, hyy, by simp⟩
    ·
     have hle := spEx_le HSP.out
     have HL5 : Hid (Lft w4 g (m - (ndExs (ks.take (j + 1)) : Int))) := by
      have := HL4.out rfl
      rw [show m - (ndExs (ks.take j) : Int) - (ndEx x : Int) = m - (ndExs (ks.take (j + 1)) : Int) by rw [HNX.out]; omega] at this
      exact this
     go_wp2_with fail
     go_roundw
     case rel => exact ⟨j + 1, by omega, by go_num, HG4, HL5, (by show (_ : Int) ≤ _; rw [HNX.out]; omega), (show ∀ i x, i < j + 1 → _ from fun i y hi hy => (Nat.lt_or_ge i j).elim (fun h => hyes.out i y h hy) (fun h => by
      obtain rfl : i = j := by omega
      rw [HJ.out] at hy
      cases hy
      exact HSP.out))⟩
     case measure => simp [intOf]; omega
   ·
    have : j = ks.length := by omega
    subst this
    have he : Hid (spEx (.mk 3 n mod name ks) d arg left = true) := by
     show _ = _
     rw [HE.out]
     exact spExs_yes (fun i y hy => hyes.out i y (List.getElem?_eq_some_iff.1 hy).1 hy) hm0
    have hyy := grown_trans HY.out hgr.out
    have hLf := hLj.out
    rw [List.take_length] at hLf
    go_wp2_with fail
    go_ret
    rw [he.out]
    exact ⟨rfl, hyy, fun _ => by rw [HD.out, show left - ((1 + ndExs ks : Nat) : Int) = m - (ndExs ks : Int) by have := HMM.out; omega]; exact hLf⟩
 ·
  refine wp_region_held_drew (S := fun wx => (wx.cell? ⟨g, 0, none⟩ = some (.int .i64 m) ∧ wx.cell? ⟨gx, 0, none⟩ = some (.int .i64 4) ∧ wx.cell? ⟨gx, 1, none⟩ = some (.int .i64 n) ∧ wx.cell? ⟨gx, 2, none⟩ = some (.slice a2 nm c2) ∧ wx.cell? ⟨gx, 3, none⟩ = some (.slice a3 nn c3) ∧ wx.cell? ⟨gx, 4, none⟩ = some (.slice a4 ks.length c4))) (by kernel_rfl) HS0 (fun hHeld => ?_)
  refine ta 0 ?_ hHeld
  refine ta 1 ?_ hHeld
  refine ta 2 ?_ hHeld
  try simp only [nrm]
  refine ta 3 ?_ hHeld
  refine ta 4 ?_ hHeld
  refine ta 5 ?_ hHeld
  try simp only [nrm]
  refine ta 6 ?_ hHeld
  refine ta 7 ?_ hHeld
  refine ta 8 ?_ hHeld
  try simp only [nrm]
  refine ta 9 ?_ hHeld
  refine ta 11 ?_ hHeld
  refine ta 12 ?_ hHeld
  try simp only [nrm]
  refine ta 13 ?_ hHeld
  try simp only [nrm]
  refine ra 10 fun K hK => ?_
  go_simp
  (with_reducible refine HK.mono ?_)
  rintro e w3 ⟨rfl, hq⟩
  go_wp2_with fail
  refine hK.out _ _ (hbs hq) (fun hHeld => ?_)
  clear hK K
  try simp only [nrm]
  refine ta 14 ?_ hHeld
  refine ta 15 ?_ hHeld
  refine ta 16 ?_ hHeld
  try simp only [nrm]
  refine ta 17 ?_ hHeld
  refine ta 18 ?_ hHeld
  refine ta 19 ?_ hHeld
  try simp only [nrm]
  refine ta 20 ?_ hHeld
  try simp only [nrm]
  refine sa 21 ?_ hHeld
  refine sa 22 ?_ hHeld
  try simp only [nrm]
  refine ta 23 ?_ hHeld
  refine ta 24 ?_ hHeld
  try simp only [nrm]
  refine wpAnyH_done (by kernel_rfl) ?_ _
  have hq3 := grown_trans y2 hq
  replace x0 := x0.below (below_grown hq3) x0.lt
  replace hL2 : Lft w3 g m := Blk.below hL2 (below_grown hq3) (Blk.lt hL2)
  replace yy := grown_trans yy (grown_any hq3 _)
  replace hb := hb.trans ((below_grown hq3).mono hb.size)
  clear HK hq hq3 z0 q0 q1 q2 q3 q4 HS0 hbs y2
  obtain ⟨q0, q1, q2, q3, q4⟩ := x0.c5
  have hn3 := specNameOk a3 nn c3 name false w3 (h3.below hb) (by omega)
  have hn2 := specNameOk a2 nm c2 mod true w3 (h2.below hb) (by omega)
  by_cases e0 : nn = 0
  rotate_left
  ·
   have e0' : (0 : Int) < (nn : Int) := by omega
   have he : Hid (spEx (.mk 4 n mod name ks) d arg left = false) := spEx_loc (loc_no (.inr (.inr (.inr (.inr (.inl ⟨by decide, by rw [HNA.out]; exact e0⟩))))))
   go_wp2_with fail
   go_ret
   rw [he.out]
   exact ⟨rfl, yy, by simp⟩
  have e0' : ¬ (0 : Int) < (nn : Int) := by omega
  have HE0 : Hid (name.length = 0) := HNA.out.trans e0
  clear e0
  by_cases em : nm = 0
  rotate_left
  ·
   have em' : (0 : Int) < (nm : Int) := by omega
   have he : Hid (spEx (.mk 4 n mod name ks) d arg left = false) := spEx_loc (loc_no (.inr (.inr (.inr (.inr (.inr (.inl ⟨by rw [HMO.out]; exact em, by decide⟩)))))))
   go_wp2_with fail
   go_ret
   rw [he.out]
   exact ⟨rfl, yy, by simp⟩
  have em' : ¬ (0 : Int) < (nm : Int) := by omega
  have HEM : Hid (mod.length = 0) := HMO.out.trans em
  clear em
  by_cases n0 : n = 0
  rotate_left
  ·
   have n0' : (n != 0) = true := by simpa using n0
   have he : Hid (spEx (.mk 4 n mod name ks) d arg left = false) := spEx_loc (loc_no (.inr (.inr (.inl (by simp [inB, exLow, exHigh]; omega)))))
   go_wp2_with fail
   go_ret
   rw [he.out]
   exact ⟨rfl, yy, by simp⟩
  have n0' : (n != 0) = false := by simpa using n0
  have HNN : Hid (inB n (exLow 4) (exHigh 4) = true) := by show _ = _; rw [n0]; decide
  clear n0
  have HE : Hid (spEx (.mk 4 n mod name ks) d arg left = spExs ks (d + 1) false m) := by
   show _ = _
   rw [spEx_rest (loc_yes HI4.out.1 HI4.out.2 HNN.out (by rw [show exNamed 4 = false from by decide]; exact decide_eq_true HE0.out) (by rw [decide_eq_true HEM.out]; rfl)) (.inl (by decide)) (by have := HMM.out; omega) (by omega), HMM.out]
   rfl
  have HD : Hid (ndEx (.mk 4 n mod name ks) = 1 + ndExs ks) := by show _ = _; simp [ndEx]
  have hz : ks.length = 0 := kids_zero HI4.out.2 (by decide)
  have hks : ks = [] := List.eq_nil_of_length_eq_zero hz
  have HT : Hid (spExs ks (d + 1) false m = true) := by show _ = _; rw [hks]; exact spExs_nil (by omega)
  have HD0 : Hid (ndExs ks = 0) := by show _ = _; rw [hks]; rfl
  subst hks
  simp only [List.length_nil] at q4 ⊢
  clear hz x0 hkl hk9
  go_wp2_with fail
  refine wp_loop_rounds 1 ?_
  rw [rounds_succ]
  go_wp2_with fail
  go_ret
  rw [HE.out, HT.out]
  exact ⟨rfl, yy, fun _ => by rw [HD.out, HD0.out, show left - ((1 + 0 : Nat) : Int) = m by have := HMM.out; omega]; exact hL2⟩
 ·
  refine wp_region_held_drew (S := fun wx => (wx.cell? ⟨g, 0, none⟩ = some (.int .i64 m) ∧ wx.cell? ⟨gx, 0, none⟩ = some (.int .i64 5) ∧ wx.cell? ⟨gx, 1, none⟩ = some (.int .i64 n) ∧ wx.cell? ⟨gx, 2, none⟩ = some (.slice a2 nm c2) ∧ wx.cell? ⟨gx, 3, none⟩ = some (.slice a3 nn c3) ∧ wx.cell? ⟨gx, 4, none⟩ = some (.slice a4 ks.length c4))) (by kernel_rfl) HS0 (fun hHeld => ?_)
  refine ta 0 ?_ hHeld
  refine ta 1 ?_ hHeld
  refine ta 2 ?_ hHeld
  try simp only [nrm]
  refine ta 3 ?_ hHeld
  refine ta 4 ?_ hHeld
  refine ta 5 ?_ hHeld
  try simp only [nrm]
  refine ta 6 ?_ hHeld
  refine ta 7 ?_ hHeld
  refine ta 8 ?_ hHeld
  try simp only [nrm]
  refine ta 9 ?_ hHeld
  refine ta 11 ?_ hHeld
  refine ta 12 ?_ hHeld
  try simp only [nrm]
  refine ta 13 ?_ hHeld
  try simp only [nrm]
  refine ra 10 fun K hK => ?_
  go_simp
  (with_reducible refine HK.mono ?_)
  rintro e w3 ⟨rfl, hq⟩
  go_wp2_with fail
  refine hK.out _ _ (hbs hq) (fun hHeld => ?_)
  clear hK K
  try simp only [nrm]
  refine ta 14 ?_ hHeld
  refine ta 15 ?_ hHeld
  refine ta 16 ?_ hHeld
  try simp only [nrm]
  refine ta 17 ?_ hHeld
  refine ta 18 ?_ hHeld
  refine ta 19 ?_ hHeld
  try simp only [nrm]
  refine ta 20 ?_ hHeld
  try simp only [nrm]
  refine sa 21 ?_ hHeld
  refine sa 22 ?_ hHeld
  try simp only [nrm]
  refine ta 23 ?_ hHeld
  refine ta 24 ?_ hHeld
  try simp only [nrm]
  refine wpAnyH_done (by kernel_rfl) ?_ _
  have hq3 := grown_trans y2 hq
  replace x0 := x0.below (below_grown hq3) x0.lt
  replace hL2 : Lft w3 g m := Blk.below hL2 (below_grown hq3) (Blk.lt hL2)
  replace yy := grown_trans yy (grown_any hq3 _)
  replace hb := hb.trans ((below_grown hq3).mono hb.size)
  clear HK hq hq3 z0 q0 q1 q2 q3 q4 HS0 hbs y2
  obtain ⟨q0, q1, q2, q3, q4⟩ := x0.c5
  have hn3 := specNameOk a3 nn c3 name false w3 (h3.below hb) (by omega)
  have hn2 := specNameOk a2 nm c2 mod true w3 (h2.below hb) (by omega)
  by_cases e0 : nn = 0
  ·
   have hno : nameOk name false = false := nameOk_short (by rw [HNA.out]; omega)
   rw [e0] at q3 ⊢
   have he : Hid (spEx (.mk 5 n mod name ks) d arg left = false) := spEx_loc (loc_no (.inr (.inr (.inr (.inl ⟨by decide, hno⟩)))))
   go_wp2_with fail
   go_ret
   rw [he.out]
   exact ⟨rfl, yy, by simp⟩
  have e0' : (0 : Int) < (nn : Int) := by omega
  generalize hnb : nameOk name false = nb at *
  have HNB : Hid (nameOk name false = nb) := hnb
  clear hnb
  go_wp2_with fail
  refine hn3.mono ?_
  rintro e w3 ⟨rfl, rfl⟩
  clear hn3
  cases nb
  ·
   skip
   have he : Hid (spEx (.mk 5 n mod name ks) d arg left = false) := spEx_loc (loc_no (.inr (.inr (.inr (.inl ⟨by decide, HNB.out⟩)))))
   go_wp2_with fail
   go_ret
   rw [he.out]
   exact ⟨rfl, yy, by simp⟩
  by_cases em : nm = 0
  rotate_left
  ·
   have em' : (0 : Int) < (nm : Int) := by omega
   have he : Hid (spEx (.mk 5 n mod name ks) d arg left = false) := spEx_loc (loc_no (.inr (.inr (.inr (.inr (.inr (.inl ⟨by rw [HMO.out]; exact em, by decide⟩)))))))
   go_wp2_with fail
   go_ret
   rw [he.out]
   exact ⟨rfl, yy, by simp⟩
  have em' : ¬ (0 : Int) < (nm : Int) := by omega
  have HEM : Hid (mod.length = 0) := HMO.out.trans em
  clear em
  by_cases n0 : n = 0
  rotate_left
  ·
   have n0' : (n != 0) = true := by simpa using n0
   have he : Hid (spEx (.mk 5 n mod name ks) d arg left = false) := spEx_loc (loc_no (.inr (.inr (.inl (by simp [inB, exLow, exHigh]; omega)))))
   go_wp2_with fail
   go_ret
   rw [he.out]
   exact ⟨rfl, yy, by simp⟩
  have n0' : (n != 0) = false := by simpa using n0
  have HNN : Hid (inB n (exLow 5) (exHigh 5) = true) := by show _ = _; rw [n0]; decide
  clear n0
  have HE : Hid (spEx (.mk 5 n mod name ks) d arg left = spExs ks (d + 1) false m) := by
   show _ = _
   rw [spEx_rest (loc_yes HI4.out.1 HI4.out.2 HNN.out (by rw [show exNamed 5 = true from by decide]; exact HNB.out) (by rw [decide_eq_true HEM.out]; rfl)) (.inl (by decide)) (by have := HMM.out; omega) (by omega), HMM.out]
   rfl
  have HD : Hid (ndEx (.mk 5 n mod name ks) = 1 + ndExs ks) := by show _ = _; simp [ndEx]
  have hz : ks.length = 0 := kids_zero HI4.out.2 (by decide)
  have hks : ks = [] := List.eq_nil_of_length_eq_zero hz
  have HT : Hid (spExs ks (d + 1) false m = true) := by show _ = _; rw [hks]; exact spExs_nil (by omega)
  have HD0 : Hid (ndExs ks = 0) := by show _ = _; rw [hks]; rfl
  subst hks
  simp only [List.length_nil] at q4 ⊢
  clear hz x0 hkl hk9
  go_wp2_with fail
  refine wp_loop_rounds 1 ?_
  rw [rounds_succ]
  go_wp2_with fail
  go_ret
  rw [HE.out, HT.out]
  exact ⟨rfl, yy, fun _ => by rw [HD.out, HD0.out, show left - ((1 + 0 : Nat) : Int) = m by have := HMM.out; omega]; exact hL2⟩
 ·
  refine wp_region_held_drew (S := fun wx => (wx.cell? ⟨g, 0, none⟩ = some (.int .i64 m) ∧ wx.cell? ⟨gx, 0, none⟩ = some (.int .i64 6) ∧ wx.cell? ⟨gx, 1, none⟩ = some (.int .i64 n) ∧ wx.cell? ⟨gx, 2, none⟩ = some (.slice a2 nm c2) ∧ wx.cell? ⟨gx, 3, none⟩ = some (.slice a3 nn c3) ∧ wx.cell? ⟨gx, 4, none⟩ = some (.slice a4 ks.length c4))) (by kernel_rfl) HS0 (fun hHeld => ?_)
  refine ta 0 ?_ hHeld
  refine ta 1 ?_ hHeld
  refine ta 2 ?_ hHeld
  try simp only [nrm]
  refine ta 3 ?_ hHeld
  refine ta 4 ?_ hHeld
  refine ta 5 ?_ hHeld
  try simp only [nrm]
  refine ta 6 ?_ hHeld
  refine ta 7 ?_ hHeld
  refine ta 8 ?_ hHeld
  try simp only [nrm]
  refine ta 9 ?_ hHeld
  refine ta 11 ?_ hHeld
  refine ta 12 ?_ hHeld
  try simp only [nrm]
  refine ta 13 ?_ hHeld
  try simp only [nrm]
  refine ra 10 fun K hK => ?_
  go_simp
  (with_reducible refine HK.mono ?_)
  rintro e w3 ⟨rfl, hq⟩
  go_wp2_with fail
  refine hK.out _ _ (hbs hq) (fun hHeld => ?_)
  clear hK K
  try simp only [nrm]
  refine ta 14 ?_ hHeld
  refine ta 15 ?_ hHeld
  refine ta 16 ?_ hHeld
  try simp only [nrm]
  refine ta 17 ?_ hHeld
  refine ta 18 ?_ hHeld
  refine ta 19 ?_ hHeld
  try simp only [nrm]
  refine ta 20 ?_ hHeld
  try simp only [nrm]
  refine sa 21 ?_ hHeld
  refine sa 22 ?_ hHeld
  try simp only [nrm]
  refine ta 23 ?_ hHeld
  refine ta 24 ?_ hHeld
  try simp only [nrm]
  refine wpAnyH_done (by kernel_rfl) ?_ _
  have hq3 := grown_trans y2 hq
  replace x0 := x0.below (below_grown hq3) x0.lt
  replace hL2 : Lft w3 g m := Blk.below hL2 (below_grown hq3) (Blk.lt hL2)
  replace yy := grown_trans yy (grown_any hq3 _)
  replace hb := hb.trans ((below_grown hq3).mono hb.size)
  clear HK hq hq3 z0 q0 q1 q2 q3 q4 HS0 hbs y2
  obtain ⟨q0, q1, q2, q3, q4⟩ := x0.c5
  have hn3 := specNameOk a3 nn c3 name false w3 (h3.below hb) (by omega)
  have hn2 := specNameOk a2 nm c2 mod true w3 (h2.below hb) (by omega)
  by_cases e0 : nn = 0
  ·
   have hno : nameOk name false = false := nameOk_short (by rw [HNA.out]; omega)
   rw [e0] at q3 ⊢
   have he : Hid (spEx (.mk 6 n mod name ks) d arg left = false) := spEx_loc (loc_no (.inr (.inr (.inr (.inl ⟨by decide, hno⟩)))))
   go_wp2_with fail
   go_ret
   rw [he.out]
   exact ⟨rfl, yy, by simp⟩
  have e0' : (0 : Int) < (nn : Int) := by omega
  generalize hnb : nameOk name false = nb at *
  have HNB : Hid (nameOk name false = nb) := hnb
  clear hnb
  go_wp2_with fail
  refine hn3.mono ?_
  rintro e w3 ⟨rfl, rfl⟩
  clear hn3
  cases nb
  ·
   skip
   have he : Hid (spEx (.mk 6 n mod name ks) d arg left = false) := spEx_loc (loc_no (.inr (.inr (.inr (.inl ⟨by decide, HNB.out⟩)))))
   go_wp2_with fail
   go_ret
   rw [he.out]
   exact ⟨rfl, yy, by simp⟩
  by_cases em : nm = 0
  ·
   have em' : ¬ (0 : Int) < (nm : Int) := by omega
   have HEM : Hid (mod.length = 0) := HMO.out.trans em
   clear em
   by_cases n0 : n = 0
   rotate_left
   ·
    have n0' : (n != 0) = true := by simpa using n0
    have he : Hid (spEx (.mk 6 n mod name ks) d arg left = false) := spEx_loc (loc_no (.inr (.inr (.inl (by simp [inB, exLow, exHigh]; omega)))))
    go_wp2_with fail
    go_ret
    rw [he.out]
    exact ⟨rfl, yy, by simp⟩
   have n0' : (n != 0) = false := by simpa using n0
   have HNN : Hid (inB n (exLow 6) (exHigh 6) = true) := by show _ = _; rw [n0]; decide
   clear n0
   have HE : Hid (spEx (.mk 6 n mod name ks) d arg left = spExs ks (d + 1) true m) := by
    show _ = _
    rw [spEx_rest (loc_yes HI4.out.1 HI4.out.2 HNN.out (by rw [show exNamed 6 = true from by decide]; exact HNB.out) (by rw [decide_eq_true HEM.out]; rfl)) (.inl (by decide)) (by have := HMM.out; omega) (by omega), HMM.out]
    rfl
   have HD : Hid (ndEx (.mk 6 n mod name ks) = 1 + ndExs ks) := by show _ = _; simp [ndEx]
   have HX0 : Hid _ := x0
   have HY : Hid (w.grownBy w3 (some g)) := yy
   have HB3 : Hid (Below w0.heap.size w0 w3) := hb
   have HLF : Hid (Lft w3 g (m - (ndExs (ks.take 0) : Int))) := by show Lft _ _ _; simpa [ndExs] using hL2
   have HRW : Hid (LRow w0 a4 c4 5 (exs ks)) := h4
   have HSK : Hid (rowsLen (exs ks) ≤ 1048576) := hsk
   have HSS : Hid (∀ x ∈ ks, SpEx x) := S
   have hm0 : 0 ≤ m := by omega
   have hm1 : m ≤ 250 := by have := HMM.out; omega
   have hd2 : d + 1 ≤ 17 := by omega
   have hd3 : 0 ≤ d + 1 := by omega
   go_wp2_with fail
   clear q0 q1 q2 q3 q4 x0 yy hb hL2 h4
   go_loopw [10] (fun i wr => ∃ j : Nat, j ≤ ks.length ∧ i = .int .i64 j ∧ Hid (w3.grownBy wr (some g)) ∧ Hid (Lft wr g (m - (ndExs (ks.take j) : Int))) ∧ Hid ((ndExs (ks.take j) : Int) ≤ m) ∧ Hid (∀ i x, i < j → ks[i]? = some x → spEx x (d + 1) true (m - (ndExs (ks.take i) : Int)) = true)) (fun i _ => ks.length - (intOf i).toNat)
   case atStart => exact ⟨0, Nat.zero_le _, rfl, grown_refl _ _, HLF, by show (_ : Int) ≤ _; simp [ndExs]; omega, by show ∀ _ _, _; omega⟩
   case round =>
    obtain ⟨j, hj, rfl, hgr, hLj, hnj, hyes⟩ := hrel
    clear HLF
    have x0 := Blk.grown HX0.out hgr.out hgx
    have q0 := x0.cell (i := 0) rfl
    have q4 := x0.cell (i := 4) rfl
    have hb := below_at HB3.out hgr.out hg
    by_cases hlt : j < ks.length
    ·
     obtain ⟨b4, o4, rfl⟩ := LRow.addr HRW.out (by rw [hkl]; omega)
     obtain ⟨x, hx⟩ : ∃ x, ks[j]? = some x := ⟨ks[j], List.getElem?_eq_getElem _⟩
     have hxj : (exs ks)[j]? = some x.fl := by rw [exs_map, List.getElem?_map, hx]; rfl
     obtain ⟨us, hvs, hcl⟩ := (LRow.el HRW.out hxj).vals
     obtain ⟨u0, u1, u2, u3, u4, rfl⟩ := five_of (hvs.len.trans (exs_len x))
     have hc0 : w0.cell? ⟨b4, o4 + j * 5, none⟩ = some u0 := hcl 0 _ rfl
     replace hcl : ∀ i v, _ → _ := fun i v hv => cell_on (hcl i v hv) hb
     have t0 : wr.cell? ⟨b4, o4 + j * 5, none⟩ = some u0 := hcl 0 _ rfl
     have t1 : wr.cell? ⟨b4, o4 + j * 5 + 1, none⟩ = some u1 := hcl 1 _ rfl
     have t2 : wr.cell? ⟨b4, o4 + j * 5 + 2, none⟩ = some u2 := hcl 2 _ rfl
     have t3 : wr.cell? ⟨b4, o4 + j * 5 + 3, none⟩ = some u3 := hcl 3 _ rfl
     have t4 : wr.cell? ⟨b4, o4 + j * 5 + 4, none⟩ = some u4 := hcl 4 _ rfl
     have hmem := List.mem_of_getElem? hx
     have hsx : recLen x.fl ≤ 1048576 := Nat.le_trans (recLen_le (List.mem_of_getElem? hxj)) HSK.out
     have hbd : Below w0.heap.size w0 wr.drew := hb.drew
     have hLd : Lft wr.drew g (m - (ndExs (ks.take j) : Int)) := hLj.out
     have HC := HSS.out x hmem w0 wr.drew [u0, u1, u2, u3, u4] g (m - (ndExs (ks.take j) : Int)) (d + 1) true hvs hbd hg hLd (by have := hnj.out; omega) (by omega) hd3 hd2 hsx
     simp only [agg] at HC
     have HJ : Hid (ks[j]? = some x) := hx
     have HNX : Hid (ndExs (ks.take (j + 1)) = ndExs (ks.take j) + ndEx x) := ndExs_next hx
     clear hcl hx hxj hmem hsx hvs hbd hLd
     generalize hsp : spEx x (d + 1) true (m - (ndExs (ks.take j) : Int)) = rr at *
     have HSP : Hid (spEx x (d + 1) true (m - (ndExs (ks.take j) : Int)) = rr) := hsp
     clear hsp
     have hb4 : b4 ≠ g := by
      have := World.block_lt_of_cell? w0 _ hc0
      simp only at this
      omega
     have HS0 : (wr.drew.cell? ⟨gx, 0, none⟩ = some (.int .i64 6) ∧ wr.drew.cell? ⟨gx, 4, none⟩ = some (.slice (some ⟨b4, o4, none⟩) ks.length c4) ∧ wr.drew.cell? ⟨b4, o4 + j * 5, none⟩ = some u0 ∧ wr.drew.cell? ⟨b4, o4 + j * 5 + 1, none⟩ = some u1 ∧ wr.drew.cell? ⟨b4, o4 + j * 5 + 2, none⟩ = some u2 ∧ wr.drew.cell? ⟨b4, o4 + j * 5 + 3, none⟩ = some u3 ∧ wr.drew.cell? ⟨b4, o4 + j * 5 + 4, none⟩ = some u4) := ⟨q0, q4, t0, t1, t2, t3, t4⟩
     have hbs : ∀ {wl : World}, wr.drew.grownBy wl (some g) → (wl.cell? ⟨gx, 0, none⟩ = some (.int .i64 6) ∧ wl.cell? ⟨gx, 4, none⟩ = some (.slice (some ⟨b4, o4, none⟩) ks.length c4) ∧ wl.cell? ⟨b4, o4 + j * 5, none⟩ = some u0 ∧ wl.cell? ⟨b4, o4 + j * 5 + 1, none⟩ = some u1 ∧ wl.cell? ⟨b4, o4 + j * 5 + 2, none⟩ = some u2 ∧ wl.cell? ⟨b4, o4 + j * 5 + 3, none⟩ = some u3 ∧ wl.cell? ⟨b4, o4 + j * 5 + 4, none⟩ = some u4) := fun hq => ⟨cell_at HS0.1 hq hgx, cell_at HS0.2.1 hq hgx, cell_at HS0.2.2.1 hq hb4, cell_at HS0.2.2.2.1 hq hb4, cell_at HS0.2.2.2.2.1 hq hb4, cell_at HS0.2.2.2.2.2.1 hq hb4, cell_at HS0.2.2.2.2.2.2 hq hb4⟩
     have z5 : (0 : Int) ≤ (j : Int) := by omega
     have z7 : IntKind.i64.wrap (d + 1) = d + 1 := by rw [IntKind.wrap_i64]; omega
     have z6 : (j : Int) < (ks.length : Int) := by omega
     go_upto_region 21 with fail
     go_region_held3 (fun wx => (wx.cell? ⟨gx, 0, none⟩ = some (.int .i64 6) ∧ wx.cell? ⟨gx, 4, none⟩ = some (.slice (some ⟨b4, o4, none⟩) ks.length c4) ∧ wx.cell? ⟨b4, o4 + j * 5, none⟩ = some u0 ∧ wx.cell? ⟨b4, o4 + j * 5 + 1, none⟩ = some u1 ∧ wx.cell? ⟨b4, o4 + j * 5 + 2, none⟩ = some u2 ∧ wx.cell? ⟨b4, o4 + j * 5 + 3, none⟩ = some u3 ∧ wx.cell? ⟨b4, o4 + j * 5 + 4, none⟩ = some u4)) (first | exact HS0 | exact HSl) (first
      | (go_at_call 179; (with_reducible refine HC.mono ?_); rintro e w4 ⟨rfl, hg4, hL4⟩; have HSl := hbs hg4))
     clear HSl hbs HS0
     have HG4 : Hid (w3.grownBy w4 (some g)) := grown_trans hgr.out (grown_trans (show wr.grownBy wr.drew (some g) from ⟨rfl, rfl, rfl, Nat.le_refl _, fun _ _ _ => rfl⟩) hg4)
     have HL4 : Hid (rr = true → Lft w4 g (m - (ndExs (ks.take j) : Int) - (ndEx x : Int))) := hL4
     clear HC t0 t1 t2 t3 t4 q0 q4 x0 hb hg4 hL4
     cases rr
     ·
      have he : Hid (spEx (.mk 6 n mod name ks) d arg left = false) := by show _ = _; rw [HE.out]; exact spExs_no HJ.out HSP.out
      have hyy := grown_trans HY.out HG4.out
      go_wp2_with fail
      go_ret
      rw [he.out]
      exact ⟨rfl, hyy, by simp⟩
     ·
      have hle := spEx_le HSP.out
      have HL5 : Hid (Lft w4 g (m - (ndExs (ks.take (j + 1)) : Int))) := by
       have := HL4.out rfl
       rw [show m - (ndExs (ks.take j) : Int) - (ndEx x : Int) = m - (ndExs (ks.take (j + 1)) : Int) by rw [HNX.out]; omega] at this
       exact this
      go_wp2_with fail
      go_roundw
      case rel => exact ⟨j + 1, by omega, by go_num, HG4, HL5, (by show (_ : Int) ≤ _; rw [HNX.out]; omega), (show ∀ i x, i < j + 1 → _ from fun i y hi hy => (Nat.lt_or_ge i j).elim (fun h => hyes.out i y h hy) (fun h => by
       obtain rfl : i = j := by omega
       rw [HJ.out] at hy
       cases hy
       exact HSP.out))⟩
      case measure => simp [intOf]; omega
    ·
     have : j = ks.length := by omega
     subst this
     have he : Hid (spEx (.mk 6 n mod name ks) d arg left = true) := by
      show _ = _
      rw [HE.out]
      exact spExs_yes (fun i y hy => hyes.out i y (List.getElem?_eq_some_iff.1 hy).1 hy) hm0
     have hyy := grown_trans HY.out hgr.out
     have hLf := hLj.out
     rw [List.take_length] at hLf
     go_wp2_with fail
     go_ret
     rw [he.out]
     exact ⟨rfl, hyy, fun _ => by rw [HD.out, show left - ((1 + ndExs ks : Nat) : Int) = m - (ndExs ks : Int) by have := HMM.out; omega]; exact hLf⟩
  ·
   have em' : (0 : Int) < (nm : Int) := by omega
   generalize hmb : nameOk mod true = mb at *
   have HMB : Hid (nameOk mod true = mb) := hmb
   clear hmb
   go_wp2_with fail
   refine hn2.mono ?_
   rintro e w3 ⟨rfl, rfl⟩
   clear hn2
   cases mb
   ·
    skip
    have he : Hid (spEx (.mk 6 n mod name ks) d arg left = false) := spEx_loc (loc_no (.inr (.inr (.inr (.inr (.inr (.inr ⟨by rw [HMO.out]; exact em, HMB.out⟩)))))))
    go_wp2_with fail
    go_ret
    rw [he.out]
    exact ⟨rfl, yy, by simp⟩
   by_cases n0 : n = 0
   rotate_left
   ·
    have n0' : (n != 0) = true := by simpa using n0
    have he : Hid (spEx (.mk 6 n mod name ks) d arg left = false) := spEx_loc (loc_no (.inr (.inr (.inl (by simp [inB, exLow, exHigh]; omega)))))
    go_wp2_with fail
    go_ret
    rw [he.out]
    exact ⟨rfl, yy, by simp⟩
   have n0' : (n != 0) = false := by simpa using n0
   have HNN : Hid (inB n (exLow 6) (exHigh 6) = true) := by show _ = _; rw [n0]; decide
   clear n0
   have HE : Hid (spEx (.mk 6 n mod name ks) d arg left = spExs ks (d + 1) true m) := by
    show _ = _
    rw [spEx_rest (loc_yes HI4.out.1 HI4.out.2 HNN.out (by rw [show exNamed 6 = true from by decide]; exact HNB.out) (by rw [HMB.out]; simp)) (.inl (by decide)) (by have := HMM.out; omega) (by omega), HMM.out]
    rfl
   have HD : Hid (ndEx (.mk 6 n mod name ks) = 1 + ndExs ks) := by show _ = _; simp [ndEx]
   have HX0 : Hid _ := x0
   have HY : Hid (w.grownBy w3 (some g)) := yy
   have HB3 : Hid (Below w0.heap.size w0 w3) := hb
   have HLF : Hid (Lft w3 g (m - (ndExs (ks.take 0) : Int))) := by show Lft _ _ _; simpa [ndExs] using hL2
   have HRW : Hid (LRow w0 a4 c4 5 (exs ks)) := h4
   have HSK : Hid (rowsLen (exs ks) ≤ 1048576) := hsk
   have HSS : Hid (∀ x ∈ ks, SpEx x) := S
   have hm0 : 0 ≤ m := by omega
   have hm1 : m ≤ 250 := by have := HMM.out; omega
   have hd2 : d + 1 ≤ 17 := by omega
   have hd3 : 0 ≤ d + 1 := by omega
   go_wp2_with fail
   clear q0 q1 q2 q3 q4 x0 yy hb hL2 h4
   go_loopw [10] (fun i wr => ∃ j : Nat, j ≤ ks.length ∧ i = .int .i64 j ∧ Hid (w3.grownBy wr (some g)) ∧ Hid (Lft wr g (m - (ndExs (ks.take j) : Int))) ∧ Hid ((ndExs (ks.take j) : Int) ≤ m) ∧ Hid (∀ i x, i < j → ks[i]? = some x → spEx x (d + 1) true (m - (ndExs (ks.take i) : Int)) = true)) (fun i _ => ks.length - (intOf i).toNat)
   case atStart => exact ⟨0, Nat.zero_le _, rfl, grown_refl _ _, HLF, by show (_ : Int) ≤ _; simp [ndExs]; omega, by show ∀ _ _, _; omega⟩
   case round =>
    obtain ⟨j, hj, rfl, hgr, hLj, hnj, hyes⟩ := hrel
    clear HLF
    have x0 := Blk.grown HX0.out hgr.out hgx
    have q0 := x0.cell (i := 0) rfl
    have q4 := x0.cell (i := 4) rfl
    have hb := below_at HB3.out hgr.out hg
    by_cases hlt : j < ks.length
    ·
     obtain ⟨b4, o4, rfl⟩ := LRow.addr HRW.out (by rw [hkl]; omega)
     obtain ⟨x, hx⟩ : ∃ x, ks[j]? = some x := ⟨ks[j], List.getElem?_eq_getElem _⟩
     have hxj : (exs ks)[j]? = some x.fl := by rw [exs_map, List.getElem?_map, hx]; rfl
     obtain ⟨us, hvs, hcl⟩ := (LRow.el HRW.out hxj).vals
     obtain ⟨u0, u1, u2, u3, u4, rfl⟩ := five_of (hvs.len.trans (exs_len x))
     have hc0 : w0.cell? ⟨b4, o4 + j * 5, none⟩ = some u0 := hcl 0 _ rfl
     replace hcl : ∀ i v, _ → _ := fun i v hv => cell_on (hcl i v hv) hb
     have t0 : wr.cell? ⟨b4, o4 + j * 5, none⟩ = some u0 := hcl 0 _ rfl
     have t1 : wr.cell? ⟨b4, o4 + j * 5 + 1, none⟩ = some u1 := hcl 1 _ rfl
     have t2 : wr.cell? ⟨b4, o4 + j * 5 + 2, none⟩ = some u2 := hcl 2 _ rfl
     have t3 : wr.cell? ⟨b4, o4 + j * 5 + 3, none⟩ = some u3 := hcl 3 _ rfl
     have t4 : wr.cell? ⟨b4, o4 + j * 5 + 4, none⟩ = some u4 := hcl 4 _ rfl
     have hmem := List.mem_of_getElem? hx
     have hsx : recLen x.fl ≤ 1048576 := Nat.le_trans (recLen_le (List.mem_of_getElem? hxj)) HSK.out
     have hbd : Below w0.heap.size w0 wr.drew := hb.drew
     have hLd : Lft wr.drew g (m - (ndExs (ks.take j) : Int)) := hLj.out
     have HC := HSS.out x hmem w0 wr.drew [u0, u1, u2, u3, u4] g (m - (ndExs (ks.take j) : Int)) (d + 1) true hvs hbd hg hLd (by have := hnj.out; omega) (by omega) hd3 hd2 hsx
     simp only [agg] at HC
     have HJ : Hid (ks[j]? = some x) := hx
     have HNX : Hid (ndExs (ks.take (j + 1)) = ndExs (ks.take j) + ndEx x) := ndExs_next hx
     clear hcl hx hxj hmem hsx hvs hbd hLd
     generalize hsp : spEx x (d + 1) true (m - (ndExs (ks.take j) : Int)) = rr at *
     have HSP : Hid (spEx x (d + 1) true (m - (ndExs (ks.take j) : Int)) = rr) := hsp
     clear hsp
     have hb4 : b4 ≠ g := by
      have := World.block_lt_of_cell? w0 _ hc0
      simp only at this
      omega
     have HS0 : (wr.drew.cell? ⟨gx, 0, none⟩ = some (.int .i64 6) ∧ wr.drew.cell? ⟨gx, 4, none⟩ = some (.slice (some ⟨b4, o4, none⟩) ks.length c4) ∧ wr.drew.cell? ⟨b4, o4 + j * 5, none⟩ = some u0 ∧ wr.drew.cell? ⟨b4, o4 + j * 5 + 1, none⟩ = some u1 ∧ wr.drew.cell? ⟨b4, o4 + j * 5 + 2, none⟩ = some u2 ∧ wr.drew.cell? ⟨b4, o4 + j * 5 + 3, none⟩ = some u3 ∧ wr.drew.cell? ⟨b4, o4 + j * 5 + 4, none⟩ = some u4) := ⟨q0, q4, t0, t1, t2, t3, t4⟩
     have hbs : ∀ {wl : World}, wr.drew.grownBy wl (some g) → (wl.cell? ⟨gx, 0, none⟩ = some (.int .i64 6) ∧ wl.cell? ⟨gx, 4, none⟩ = some (.slice (some ⟨b4, o4, none⟩) ks.length c4) ∧ wl.cell? ⟨b4, o4 + j * 5, none⟩ = some u0 ∧ wl.cell? ⟨b4, o4 + j * 5 + 1, none⟩ = some u1 ∧ wl.cell? ⟨b4, o4 + j * 5 + 2, none⟩ = some u2 ∧ wl.cell? ⟨b4, o4 + j * 5 + 3, none⟩ = some u3 ∧ wl.cell? ⟨b4, o4 + j * 5 + 4, none⟩ = some u4) := fun hq => ⟨cell_at HS0.1 hq hgx, cell_at HS0.2.1 hq hgx, cell_at HS0.2.2.1 hq hb4, cell_at HS0.2.2.2.1 hq hb4, cell_at HS0.2.2.2.2.1 hq hb4, cell_at HS0.2.2.2.2.2.1 hq hb4, cell_at HS0.2.2.2.2.2.2 hq hb4⟩
     have z5 : (0 : Int) ≤ (j : Int) := by omega
     have z7 : IntKind.i64.wrap (d + 1) = d + 1 := by rw [IntKind.wrap_i64]; omega
     have z6 : (j : Int) < (ks.length : Int) := by omega
     go_upto_region 21 with fail
     go_region_held3 (fun wx => (wx.cell? ⟨gx, 0, none⟩ = some (.int .i64 6) ∧ wx.cell? ⟨gx, 4, none⟩ = some (.slice (some ⟨b4, o4, none⟩) ks.length c4) ∧ wx.cell? ⟨b4, o4 + j * 5, none⟩ = some u0 ∧ wx.cell? ⟨b4, o4 + j * 5 + 1, none⟩ = some u1 ∧ wx.cell? ⟨b4, o4 + j * 5 + 2, none⟩ = some u2 ∧ wx.cell? ⟨b4, o4 + j * 5 + 3, none⟩ = some u3 ∧ wx.cell? ⟨b4, o4 + j * 5 + 4, none⟩ = some u4)) (first | exact HS0 | exact HSl) (first
      | (go_at_call 179; (with_reducible refine HC.mono ?_); rintro e w4 ⟨rfl, hg4, hL4⟩; have HSl := hbs hg4))
     clear HSl hbs HS0
     have HG4 : Hid (w3.grownBy w4 (some g)) := grown_trans hgr.out (grown_trans (show wr.grownBy wr.drew (some g) from ⟨rfl, rfl, rfl, Nat.le_refl _, fun _ _ _ => rfl⟩) hg4)
     have HL4 : Hid (rr = true → Lft w4 g (m - (ndExs (ks.take j) : Int) - (ndEx x : Int))) := hL4
     clear HC t0 t1 t2 t3 t4 q0 q4 x0 hb hg4 hL4
     cases rr
     ·
      have he : Hid (spEx (.mk 6 n mod name ks) d arg left = false) := by show _ = _; rw [HE.out]; exact spExs_no HJ.out HSP.out
      have hyy := grown_trans HY.out HG4.out
      go_wp2_with fail
      go_ret
      rw [he.out]
      exact ⟨rfl, hyy, by simp⟩
     ·
      have hle := spEx_le HSP.out
      have HL5 : Hid (Lft w4 g (m - (ndExs (ks.take (j + 1)) : Int))) := by
       have := HL4.out rfl
       rw [show m - (ndExs (ks.take j) : Int) - (ndEx x : Int) = m - (ndExs (ks.take (j + 1)) : Int) by rw [HNX.out]; omega] at this
       exact this
      go_wp2_with fail
      go_roundw
      case rel => exact ⟨j + 1, by omega, by go_num, HG4, HL5, (by show (_ : Int) ≤ _; rw [HNX.out]; omega), (show ∀ i x, i < j + 1 → _ from fun i y hi hy => (Nat.lt_or_ge i j).elim (fun h => hyes.out i y h hy) (fun h => by
       obtain rfl : i = j := by omega
       rw [HJ.out] at hy
       cases hy
       exact HSP.out))⟩
      case measure => simp [intOf]; omega
    ·
     have : j = ks.length := by omega
     subst this
     have he : Hid (spEx (.mk 6 n mod name ks) d arg left = true) := by
      show _ = _
      rw [HE.out]
      exact spExs_yes (fun i y hy => hyes.out i y (List.getElem?_eq_some_iff.1 hy).1 hy) hm0
     have hyy := grown_trans HY.out hgr.out
     have hLf := hLj.out
     rw [List.take_length] at hLf
     go_wp2_with fail
     go_ret
     rw [he.out]
     exact ⟨rfl, hyy, fun _ => by rw [HD.out, show left - ((1 + ndExs ks : Nat) : Int) = m - (ndExs ks : Int) by have := HMM.out; omega]; exact hLf⟩
 ·
  cases arg
  ·
   have he : Hid (spEx (.mk 7 n mod name ks) d false left = false) := spEx_arr
   clear HI4
   refine wp_region_held_drew (S := fun wx => (wx.cell? ⟨g, 0, none⟩ = some (.int .i64 m) ∧ wx.cell? ⟨gx, 0, none⟩ = some (.int .i64 7) ∧ wx.cell? ⟨gx, 1, none⟩ = some (.int .i64 n) ∧ wx.cell? ⟨gx, 2, none⟩ = some (.slice a2 nm c2) ∧ wx.cell? ⟨gx, 3, none⟩ = some (.slice a3 nn c3) ∧ wx.cell? ⟨gx, 4, none⟩ = some (.slice a4 ks.length c4))) (by kernel_rfl) HS0 (fun hHeld => ?_)
   refine ta 0 ?_ hHeld
   refine ta 1 ?_ hHeld
   refine ta 2 ?_ hHeld
   try simp only [nrm]
   refine ta 3 ?_ hHeld
   refine ta 4 ?_ hHeld
   refine ta 5 ?_ hHeld
   try simp only [nrm]
   refine ta 6 ?_ hHeld
   refine ta 7 ?_ hHeld
   refine ta 8 ?_ hHeld
   try simp only [nrm]
   refine ta 9 ?_ hHeld
   refine ta 11 ?_ hHeld
   refine ta 12 ?_ hHeld
   try simp only [nrm]
   refine ta 13 ?_ hHeld
   try simp only [nrm]
   refine ra 10 fun K hK => ?_
   go_simp
   (with_reducible refine HK.mono ?_)
   rintro e w3 ⟨rfl, hq⟩
   go_wp2_with fail
   refine hK.out _ _ (hbs hq) (fun hHeld => ?_)
   clear hK K
   try simp only [nrm]
   refine ta 14 ?_ hHeld
   refine ta 15 ?_ hHeld
   refine ta 16 ?_ hHeld
   try simp only [nrm]
   refine ta 17 ?_ hHeld
   refine ta 18 ?_ hHeld
   refine ta 19 ?_ hHeld
   try simp only [nrm]
   refine ta 20 ?_ hHeld
   refine ta 21 ?_ hHeld
   refine ta 22 ?_ hHeld
   try simp only [nrm]
   refine ta 23 ?_ hHeld
   refine ta 24 ?_ hHeld
   try simp only [nrm]
   refine wpAnyH_done (by kernel_rfl) ?_ _
   go_wp2_with fail
   go_ret
   rw [he.out]
   exact ⟨rfl, grown_trans yy (grown_any (grown_trans y2 hq) _), by simp⟩
  refine wp_region_held_drew (S := fun wx => (wx.cell? ⟨g, 0, none⟩ = some (.int .i64 m) ∧ wx.cell? ⟨gx, 0, none⟩ = some (.int .i64 7) ∧ wx.cell? ⟨gx, 1, none⟩ = some (.int .i64 n) ∧ wx.cell? ⟨gx, 2, none⟩ = some (.slice a2 nm c2) ∧ wx.cell? ⟨gx, 3, none⟩ = some (.slice a3 nn c3) ∧ wx.cell? ⟨gx, 4, none⟩ = some (.slice a4 ks.length c4))) (by kernel_rfl) HS0 (fun hHeld => ?_)
  refine ta 0 ?_ hHeld
  refine ta 1 ?_ hHeld
  refine ta 2 ?_ hHeld
  try simp only [nrm]
  refine ta 3 ?_ hHeld
  refine ta 4 ?_ hHeld
  refine ta 5 ?_ hHeld
  try simp only [nrm]
  refine ta 6 ?_ hHeld
  refine ta 7 ?_ hHeld
  refine ta 8 ?_ hHeld
  try simp only [nrm]
  refine ta 9 ?_ hHeld
  refine ta 11 ?_ hHeld
  refine ta 12 ?_ hHeld
  try simp only [nrm]
  refine ta 13 ?_ hHeld
  try simp only [nrm]
  refine ra 10 fun K hK => ?_
  go_simp
  (with_reducible refine HK.mono ?_)
  rintro e w3 ⟨rfl, hq⟩
  go_wp2_with fail
  refine hK.out _ _ (hbs hq) (fun hHeld => ?_)
  clear hK K
  try simp only [nrm]
  refine ta 14 ?_ hHeld
  refine ta 15 ?_ hHeld
  refine ta 16 ?_ hHeld
  try simp only [nrm]
  refine ta 17 ?_ hHeld
  refine ta 18 ?_ hHeld
  refine ta 19 ?_ hHeld
  try simp only [nrm]
  refine ta 20 ?_ hHeld
  try simp only [nrm]
  refine ta 21 ?_ hHeld
  refine ta 22 ?_ hHeld
  try simp only [nrm]
  refine ta 23 ?_ hHeld
  refine ta 24 ?_ hHeld
  try simp only [nrm]
  refine wpAnyH_done (by kernel_rfl) ?_ _
  have hq3 := grown_trans y2 hq
  replace x0 := x0.below (below_grown hq3) x0.lt
  replace hL2 : Lft w3 g m := Blk.below hL2 (below_grown hq3) (Blk.lt hL2)
  replace yy := grown_trans yy (grown_any hq3 _)
  replace hb := hb.trans ((below_grown hq3).mono hb.size)
  clear HK hq hq3 z0 q0 q1 q2 q3 q4 HS0 hbs y2
  obtain ⟨q0, q1, q2, q3, q4⟩ := x0.c5
  have hn3 := specNameOk a3 nn c3 name false w3 (h3.below hb) (by omega)
  have hn2 := specNameOk a2 nm c2 mod true w3 (h2.below hb) (by omega)
  by_cases e0 : nn = 0
  ·
   have hno : nameOk name false = false := nameOk_short (by rw [HNA.out]; omega)
   rw [e0] at q3 ⊢
   have he : Hid (spEx (.mk 7 n mod name ks) d true left = false) := spEx_loc (loc_no (.inr (.inr (.inr (.inl ⟨by decide, hno⟩)))))
   go_wp2_with fail
   go_ret
   rw [he.out]
   exact ⟨rfl, yy, by simp⟩
  have e0' : (0 : Int) < (nn : Int) := by omega
  generalize hnb : nameOk name false = nb at *
  have HNB : Hid (nameOk name false = nb) := hnb
  clear hnb
  go_wp2_with fail
  refine hn3.mono ?_
  rintro e w3 ⟨rfl, rfl⟩
  clear hn3
  cases nb
  ·
   skip
   have he : Hid (spEx (.mk 7 n mod name ks) d true left = false) := spEx_loc (loc_no (.inr (.inr (.inr (.inl ⟨by decide, HNB.out⟩)))))
   go_wp2_with fail
   go_ret
   rw [he.out]
   exact ⟨rfl, yy, by simp⟩
  by_cases em : nm = 0
  rotate_left
  ·
   have em' : (0 : Int) < (nm : Int) := by omega
   have he : Hid (spEx (.mk 7 n mod name ks) d true left = false) := spEx_loc (loc_no (.inr (.inr (.inr (.inr (.inr (.inl ⟨by rw [HMO.out]; exact em, by decide⟩)))))))
   go_wp2_with fail
   go_ret
   rw [he.out]
   exact ⟨rfl, yy, by simp⟩
  have em' : ¬ (0 : Int) < (nm : Int) := by omega
  have HEM : Hid (mod.length = 0) := HMO.out.trans em
  clear em
  by_cases n0 : n = 0
  rotate_left
  ·
   have n0' : (n != 0) = true := by simpa using n0
   have he : Hid (spEx (.mk 7 n mod name ks) d true left = false) := spEx_loc (loc_no (.inr (.inr (.inl (by simp [inB, exLow, exHigh]; omega)))))
   go_wp2_with fail
   go_ret
   rw [he.out]
   exact ⟨rfl, yy, by simp⟩
  have n0' : (n != 0) = false := by simpa using n0
  have HNN : Hid (inB n (exLow 7) (exHigh 7) = true) := by show _ = _; rw [n0]; decide
  clear n0
  have HE : Hid (spEx (.mk 7 n mod name ks) d true left = spExs ks (d + 1) false m) := by
   show _ = _
   rw [spEx_rest (loc_yes HI4.out.1 HI4.out.2 HNN.out (by rw [show exNamed 7 = true from by decide]; exact HNB.out) (by rw [decide_eq_true HEM.out]; rfl)) (.inr rfl) (by have := HMM.out; omega) (by omega), HMM.out]
   rfl
  have HD : Hid (ndEx (.mk 7 n mod name ks) = 1 + ndExs ks) := by show _ = _; simp [ndEx]
  have hz : ks.length = 0 := kids_zero HI4.out.2 (by decide)
  have hks : ks = [] := List.eq_nil_of_length_eq_zero hz
  have HT : Hid (spExs ks (d + 1) false m = true) := by show _ = _; rw [hks]; exact spExs_nil (by omega)
  have HD0 : Hid (ndExs ks = 0) := by show _ = _; rw [hks]; rfl
  subst hks
  simp only [List.length_nil] at q4 ⊢
  clear hz x0 hkl hk9
  go_wp2_with fail
  refine wp_loop_rounds 1 ?_
  rw [rounds_succ]
  go_wp2_with fail
  go_ret
  rw [HE.out, HT.out]
  exact ⟨rfl, yy, fun _ => by rw [HD.out, HD0.out, show left - ((1 + 0 : Nat) : Int) = m by have := HMM.out; omega]; exact hL2⟩

mutual
theorem spExT : ∀ x : Ex, SpEx x
 | .mk k n m a ks => spExR k n m a ks (spExsT ks)
theorem spExsT : ∀ (l : List Ex), ∀ x ∈ l, SpEx x
 | [], x, h => by simp at h
 | y :: l, x, h => by
  rcases List.mem_cons.1 h with h | h
  ·
   rw [h]; exact spExT y
  ·
   exact spExsT l x h
end

end Go.Proofs.YtopnodadggohiaaGreatDoor

/- What the specification tells of expressions. By mkspec6.py. -/
import Derived.Test.YtpgjdohgohabdaaGreatDoorPackE
import Derived.Test.YtpgjdohgohabdaaGreatDoorTk
import Derived.Deep.RegionHeld3
namespace Go.Proofs.YtpgjdohgohabdaaGreatDoor
open Go.RowKit
set_option linter.unusedVariables false
set_option linter.unusedSimpArgs false
set_option maxRecDepth 100000

/-- The count of what is left. -/
def Lft (w : World) (g : Nat) (n : Int) : Prop := Blk w g 3 [.int .i64 n]

def SpEx (x : Ex) : Prop := ∀ (w0 w : World) (vs : List Value) (g : Nat) (left d : Int) (arg : Bool), RdVals w0 x.fl vs → Below w0.heap.size w0 w → w0.heap.size ≤ g → Lft w g left → 0 ≤ left → left ≤ 250 → 0 ≤ d → d ≤ 17 → recLen x.fl ≤ 1048576 →
 Calls Tryz.prog 198 #[agg vs, .int .i64 d, .bool arg, .pointer (some ⟨g, 0, none⟩)] w fun e w' => e = .returned (.bool (spEx x d arg left)) ∧ w.grownBy w' (some g) ∧ (spEx x d arg left = true → Lft w' g (left - (ndEx x : Int)))

theorem wr_self {n : Int} : (n == wrap64 (wrap32 n)) = inB n (-2147483648) 2147483647 := by
 rw [Bool.eq_iff_iff]
 simp only [beq_iff_eq, inB, Bool.and_eq_true, decide_eq_true_eq, wrap64, wrap32]
 omega

theorem five_of {α : Type} {l : List α} (h : l.length = 5) : ∃ a b c d e, l = [a, b, c, d, e] := by
 match l, h with
 | [a, b, c, d, e], _ => exact ⟨a, b, c, d, e, rfl⟩

theorem specWrapC (n : Int) (w : World) :
  Calls Tryz.prog 219 #[.int .i64 n] w fun e w' => e = .returned (.int .i64 (wrap64 (wrap32 n))) ∧ w' = w := by
 go_enter Tryz.func219, Tryz.ntmps219
 go_wp2
 go_ret
 exact ⟨rfl, rfl⟩

set_option maxHeartbeats 40000000 in
theorem spExR (k n : Int) (mod name : List Int) (ks : List Ex) (S : ∀ x ∈ ks, SpEx x) : SpEx (.mk k n mod name ks) := by
 intro w0 w vs g left d arg hr hb hg hL hl0 hl1 hd0 hd1 hs
 unfold Ex.fl at hr
 have hs' : mod.length ≤ 1048576 ∧ name.length ≤ 1048576 := by simp only [Ex.fl, recLen, Fl.len] at hs; omega
 have hsk : rowsLen (exs ks) ≤ 1048576 := by simp only [Ex.fl, recLen, Fl.len] at hs; omega
 clear hs
 obtain ⟨y0, _, rfl, rfl, y1, _, rfl, rfl, y2, _, rfl, ⟨a2, c2, rfl, h2, hc2, _⟩, y3, _, rfl, ⟨a3, c3, rfl, h3, hc3, _⟩, y4, _, rfl, h4', rfl⟩ := hr
 obtain ⟨a4, c4, rfl, h4⟩ := h4'.list
 clear h4'
 have hkl : (exs ks).length = ks.length := by simp [exs_map]
 have hk9 : ks.length ≤ 9223372036854775807 := by have h5 := h4.cap; have h6 := h4.most; unfold maxLen at h6; omega
 rw [hkl]
 simp only [agg]
 obtain ⟨nn, hnn⟩ : ∃ z, z = name.length := ⟨_, rfl⟩
 obtain ⟨nm, hnm⟩ : ∃ z, z = mod.length := ⟨_, rfl⟩
 rw [← hnn] at h3 hs' hc3 ⊢
 rw [← hnm] at h2 hs' hc2 ⊢
 have HNA : Hid (name.length = nn) := hnn.symm
 have HMO : Hid (mod.length = nm) := hnm.symm
 clear hnn hnm
 have hgl : g < w.heap.size := Blk.lt hL
 have hgx : w.heap.size ≠ g := by omega
 have yy := grown_alloc w (.cells #[.int .i64 k, .int .i64 n, .slice a2 nm c2, .slice a3 nn c3, .slice a4 ks.length c4] 142 (0, 0)) (some g)
 have x0 := Blk.new w 142 [.int .i64 k, .int .i64 n, .slice a2 nm c2, .slice a3 nn c3, .slice a4 ks.length c4]
 have hL1 : Lft _ g left := Blk.old hL (o := .cells #[.int .i64 k, .int .i64 n, .slice a2 nm c2, .slice a3 nn c3, .slice a4 ks.length c4] 142 (0, 0))
 replace hb : Below w0.heap.size w0 (w.alloc (.cells #[.int .i64 k, .int .i64 n, .slice a2 nm c2, .slice a3 nn c3, .slice a4 ks.length c4] 142 (0, 0))) := hb.alloc hb.size _
 clear hL
 go_enter Tryz.func198, Tryz.ntmps198
 go_upto_region 1 with fail
 generalize w.alloc (.cells #[.int .i64 k, .int .i64 n, .slice a2 nm c2, .slice a3 nn c3, .slice a4 ks.length c4] 142 (0, 0)) = w1 at *
 have z0 := hL1.cell (i := 0) rfl
 have z1 := hL1.free 0
 go_upto_region 2 with fail
 have hL2 : Lft _ g (left - 1) := Blk.set hL1 (i := 0) (.int .i64 (left - 1))
 have hq : w1.grownBy (w1.setCell ⟨g, 0, none⟩ (.int .i64 (left - 1))) (some g) := grown_put
 replace x0 := x0.grown hq hgx
 replace yy := grown_trans yy hq
 replace hb := below_at hb hq hg
 generalize w1.setCell ⟨g, 0, none⟩ (.int .i64 (left - 1)) = w2 at *
 generalize w.heap.size = gx at *
 clear z0 z1 hL1 hq hgl
 obtain ⟨m, hm⟩ : ∃ m, m = left - 1 := ⟨_, rfl⟩
 rw [← hm] at hL2
 have z0 := hL2.cell (i := 0) rfl
 have q0 := x0.cell (i := 0) rfl
 have q1 := x0.cell (i := 1) rfl
 have q2 := x0.cell (i := 2) rfl
 have q3 := x0.cell (i := 3) rfl
 have q4 := x0.cell (i := 4) rfl
 have HMM : Hid (m = left - 1) := hm
 have HS0 : (w2.drew.cell? ⟨g, 0, none⟩ = some (.int .i64 m) ∧ w2.drew.cell? ⟨gx, 0, none⟩ = some (.int .i64 k) ∧ w2.drew.cell? ⟨gx, 1, none⟩ = some (.int .i64 n) ∧ w2.drew.cell? ⟨gx, 2, none⟩ = some (.slice a2 nm c2) ∧ w2.drew.cell? ⟨gx, 3, none⟩ = some (.slice a3 nn c3) ∧ w2.drew.cell? ⟨gx, 4, none⟩ = some (.slice a4 ks.length c4)) := ⟨z0, q0, q1, q2, q3, q4⟩
 have hbs : ∀ {wl : World}, w2.drew.grownBy wl none → (wl.cell? ⟨g, 0, none⟩ = some (.int .i64 m) ∧ wl.cell? ⟨gx, 0, none⟩ = some (.int .i64 k) ∧ wl.cell? ⟨gx, 1, none⟩ = some (.int .i64 n) ∧ wl.cell? ⟨gx, 2, none⟩ = some (.slice a2 nm c2) ∧ wl.cell? ⟨gx, 3, none⟩ = some (.slice a3 nn c3) ∧ wl.cell? ⟨gx, 4, none⟩ = some (.slice a4 ks.length c4)) := by
  intro wl hq
  have hb : Below w2.drew.heap.size w2.drew wl := below_grown hq
  exact ⟨cell_on HS0.1 hb, cell_on HS0.2.1 hb, cell_on HS0.2.2.1 hb, cell_on HS0.2.2.2.1 hb, cell_on HS0.2.2.2.2.1 hb, cell_on HS0.2.2.2.2.2 hb⟩
 have HK := l6kidsC k n (.slice a2 nm c2) (.slice a3 nn c3) a4 ks.length c4 w2.drew hk9
 have y2 : w2.grownBy w2.drew none := ⟨rfl, rfl, rfl, Nat.le_refl _, fun _ _ _ => rfl⟩
 by_cases r1 : m < 0
 ·
  have he : Hid (spEx (.mk k n mod name ks) d arg left = false) := spEx_room (.inl (by omega))
  clear HK hbs hm
  refine wp_region_held_drew (S := fun wx => (wx.cell? ⟨g, 0, none⟩ = some (.int .i64 m) ∧ wx.cell? ⟨gx, 0, none⟩ = some (.int .i64 k) ∧ wx.cell? ⟨gx, 1, none⟩ = some (.int .i64 n) ∧ wx.cell? ⟨gx, 2, none⟩ = some (.slice a2 nm c2) ∧ wx.cell? ⟨gx, 3, none⟩ = some (.slice a3 nn c3) ∧ wx.cell? ⟨gx, 4, none⟩ = some (.slice a4 ks.length c4))) (by kernel_rfl) HS0 (fun hHeld => ?_)
  refine tk (i := 0) (v := ?v501) rfl (by kernel_rfl) (.inl ⟨by rfl, ?y501⟩) hHeld (fun _ _ _ h => h) ?_
  case y501 => intro w hSw; (try dsimp only at hSw); go_simp; first | done | rfl
  refine tk (i := 1) (v := ?v502) rfl (by kernel_rfl) (.inl ⟨by rfl, ?y502⟩) hHeld (fun _ _ _ h => h) ?_
  case y502 => intro w hSw; (try dsimp only at hSw); go_simp; first | done | rfl
  refine tk (i := 2) (v := ?v503) rfl (by kernel_rfl) (.inl ⟨by rfl, ?y503⟩) hHeld (fun _ _ _ h => h) ?_
  case y503 => intro w hSw; (try dsimp only at hSw); go_simp; first | done | rfl
  try simp only [nrm]
  refine tk (i := 3) (v := ?v504) rfl (by kernel_rfl) (.inl ⟨by rfl, ?y504⟩) hHeld (fun _ _ _ h => h) ?_
  case y504 => intro w hSw; (try dsimp only at hSw); go_simp; first | done | rfl
  refine tk (i := 4) (v := ?v505) rfl (by kernel_rfl) (.inl ⟨by rfl, ?y505⟩) hHeld (fun _ _ _ h => h) ?_
  case y505 => intro w hSw; (try dsimp only at hSw); go_simp; first | done | rfl
  try simp only [nrm]
  refine skq (i := 5) rfl (by kernel_rfl) (by rfl) hHeld (fun _ _ _ h => h) ?_
  refine skq (i := 6) rfl (by kernel_rfl) (by rfl) hHeld (fun _ _ _ h => h) ?_
  try simp only [nrm]
  refine tk (i := 7) (v := ?v508) rfl (by kernel_rfl) (.inl ⟨by rfl, ?y508⟩) hHeld (fun _ _ _ h => h) ?_
  case y508 => intro w hSw; (try dsimp only at hSw); go_simp; first | done | rfl
  refine tk (i := 8) (v := ?v509) rfl (by kernel_rfl) (.inl ⟨by rfl, ?y509⟩) hHeld (fun _ _ _ h => h) ?_
  case y509 => intro w hSw; (try dsimp only at hSw); go_simp; first | done | rfl
  try simp only [nrm]
  refine skq (i := 9) rfl (by kernel_rfl) (by rfl) hHeld (fun _ _ _ h => h) ?_
  refine skq (i := 10) rfl (by kernel_rfl) (by rfl) hHeld (fun _ _ _ h => h) ?_
  refine skq (i := 11) rfl (by kernel_rfl) (by rfl) hHeld (fun _ _ _ h => h) ?_
  try simp only [nrm]
  refine skq (i := 12) rfl (by kernel_rfl) (by rfl) hHeld (fun _ _ _ h => h) ?_
  refine skq (i := 13) rfl (by kernel_rfl) (by rfl) hHeld (fun _ _ _ h => h) ?_
  refine skq (i := 14) rfl (by kernel_rfl) (by rfl) hHeld (fun _ _ _ h => h) ?_
  try simp only [nrm]
  refine tk (i := 15) (v := ?v516) rfl (by kernel_rfl) (.inl ⟨by rfl, ?y516⟩) hHeld (fun _ _ _ h => h) ?_
  case y516 => intro w hSw; (try dsimp only at hSw); go_simp; first | done | rfl
  refine tk (i := 16) (v := ?v517) rfl (by kernel_rfl) (.inl ⟨by rfl, ?y517⟩) hHeld (fun _ _ _ h => h) ?_
  case y517 => intro w hSw; (try dsimp only at hSw); go_simp; first | done | rfl
  try simp only [nrm]
  refine skq (i := 17) rfl (by kernel_rfl) (by rfl) hHeld (fun _ _ _ h => h) ?_
  refine skq (i := 18) rfl (by kernel_rfl) (by rfl) hHeld (fun _ _ _ h => h) ?_
  refine skq (i := 19) rfl (by kernel_rfl) (by rfl) hHeld (fun _ _ _ h => h) ?_
  try simp only [nrm]
  refine skq (i := 20) rfl (by kernel_rfl) (by rfl) hHeld (fun _ _ _ h => h) ?_
  refine skq (i := 21) rfl (by kernel_rfl) (by rfl) hHeld (fun _ _ _ h => h) ?_
  refine skq (i := 22) rfl (by kernel_rfl) (by rfl) hHeld (fun _ _ _ h => h) ?_
  try simp only [nrm]
  refine skq (i := 23) rfl (by kernel_rfl) (by rfl) hHeld (fun _ _ _ h => h) ?_
  try simp only [nrm]
  refine tk (i := 24) (v := ?v525) rfl (by kernel_rfl) (.inl ⟨by rfl, ?y525⟩) hHeld (fun _ _ _ h => h) ?_
  case y525 => intro w hSw; (try dsimp only at hSw); go_simp; first | done | rfl
  try simp only [nrm]
  refine wpAnyH_done (by kernel_rfl) ?_ _
  go_wp2_with fail
  go_ret
  rw [he.out]
  exact ⟨rfl, grown_trans yy (grown_any y2 _), by simp⟩
 by_cases r2 : 16 < d
 ·
  have he : Hid (spEx (.mk k n mod name ks) d arg left = false) := spEx_room (.inr r2)
  clear HK hbs hm
  refine wp_region_held_drew (S := fun wx => (wx.cell? ⟨g, 0, none⟩ = some (.int .i64 m) ∧ wx.cell? ⟨gx, 0, none⟩ = some (.int .i64 k) ∧ wx.cell? ⟨gx, 1, none⟩ = some (.int .i64 n) ∧ wx.cell? ⟨gx, 2, none⟩ = some (.slice a2 nm c2) ∧ wx.cell? ⟨gx, 3, none⟩ = some (.slice a3 nn c3) ∧ wx.cell? ⟨gx, 4, none⟩ = some (.slice a4 ks.length c4))) (by kernel_rfl) HS0 (fun hHeld => ?_)
  refine tk (i := 0) (v := ?v526) rfl (by kernel_rfl) (.inl ⟨by rfl, ?y526⟩) hHeld (fun _ _ _ h => h) ?_
  case y526 => intro w hSw; (try dsimp only at hSw); go_simp; first | done | rfl
  refine tk (i := 1) (v := ?v527) rfl (by kernel_rfl) (.inl ⟨by rfl, ?y527⟩) hHeld (fun _ _ _ h => h) ?_
  case y527 => intro w hSw; (try dsimp only at hSw); go_simp; first | done | rfl
  refine tk (i := 2) (v := ?v528) rfl (by kernel_rfl) (.inl ⟨by rfl, ?y528⟩) hHeld (fun _ _ _ h => h) ?_
  case y528 => intro w hSw; (try dsimp only at hSw); go_simp; first | done | rfl
  try simp only [nrm]
  refine tk (i := 3) (v := ?v529) rfl (by kernel_rfl) (.inl ⟨by rfl, ?y529⟩) hHeld (fun _ _ _ h => h) ?_
  case y529 => intro w hSw; (try dsimp only at hSw); go_simp; first | done | rfl
  refine tk (i := 4) (v := ?v530) rfl (by kernel_rfl) (.inl ⟨by rfl, ?y530⟩) hHeld (fun _ _ _ h => h) ?_
  case y530 => intro w hSw; (try dsimp only at hSw); go_simp; first | done | rfl
  refine tk (i := 5) (v := ?v531) rfl (by kernel_rfl) (.inl ⟨by rfl, ?y531⟩) hHeld (fun _ _ _ h => h) ?_
  case y531 => intro w hSw; (try dsimp only at hSw); go_simp; first | done | rfl
  try simp only [nrm]
  refine tk (i := 6) (v := ?v532) rfl (by kernel_rfl) (.inl ⟨by rfl, ?y532⟩) hHeld (fun _ _ _ h => h) ?_
  case y532 => intro w hSw; (try dsimp only at hSw); go_simp; first | done | rfl
  refine tk (i := 7) (v := ?v533) rfl (by kernel_rfl) (.inl ⟨by rfl, ?y533⟩) hHeld (fun _ _ _ h => h) ?_
  case y533 => intro w hSw; (try dsimp only at hSw); go_simp; first | done | rfl
  refine tk (i := 8) (v := ?v534) rfl (by kernel_rfl) (.inl ⟨by rfl, ?y534⟩) hHeld (fun _ _ _ h => h) ?_
  case y534 => intro w hSw; (try dsimp only at hSw); go_simp; first | done | rfl
  try simp only [nrm]
  refine skq (i := 9) rfl (by kernel_rfl) (by rfl) hHeld (fun _ _ _ h => h) ?_
  refine skq (i := 10) rfl (by kernel_rfl) (by rfl) hHeld (fun _ _ _ h => h) ?_
  refine skq (i := 11) rfl (by kernel_rfl) (by rfl) hHeld (fun _ _ _ h => h) ?_
  try simp only [nrm]
  refine skq (i := 12) rfl (by kernel_rfl) (by rfl) hHeld (fun _ _ _ h => h) ?_
  refine skq (i := 13) rfl (by kernel_rfl) (by rfl) hHeld (fun _ _ _ h => h) ?_
  refine skq (i := 14) rfl (by kernel_rfl) (by rfl) hHeld (fun _ _ _ h => h) ?_
  try simp only [nrm]
  refine tk (i := 15) (v := ?v541) rfl (by kernel_rfl) (.inl ⟨by rfl, ?y541⟩) hHeld (fun _ _ _ h => h) ?_
  case y541 => intro w hSw; (try dsimp only at hSw); go_simp; first | done | rfl
  refine tk (i := 16) (v := ?v542) rfl (by kernel_rfl) (.inl ⟨by rfl, ?y542⟩) hHeld (fun _ _ _ h => h) ?_
  case y542 => intro w hSw; (try dsimp only at hSw); go_simp; first | done | rfl
  try simp only [nrm]
  refine skq (i := 17) rfl (by kernel_rfl) (by rfl) hHeld (fun _ _ _ h => h) ?_
  refine skq (i := 18) rfl (by kernel_rfl) (by rfl) hHeld (fun _ _ _ h => h) ?_
  refine skq (i := 19) rfl (by kernel_rfl) (by rfl) hHeld (fun _ _ _ h => h) ?_
  try simp only [nrm]
  refine skq (i := 20) rfl (by kernel_rfl) (by rfl) hHeld (fun _ _ _ h => h) ?_
  refine skq (i := 21) rfl (by kernel_rfl) (by rfl) hHeld (fun _ _ _ h => h) ?_
  refine skq (i := 22) rfl (by kernel_rfl) (by rfl) hHeld (fun _ _ _ h => h) ?_
  try simp only [nrm]
  refine skq (i := 23) rfl (by kernel_rfl) (by rfl) hHeld (fun _ _ _ h => h) ?_
  try simp only [nrm]
  refine tk (i := 24) (v := ?v550) rfl (by kernel_rfl) (.inl ⟨by rfl, ?y550⟩) hHeld (fun _ _ _ h => h) ?_
  case y550 => intro w hSw; (try dsimp only at hSw); go_simp; first | done | rfl
  try simp only [nrm]
  refine wpAnyH_done (by kernel_rfl) ?_ _
  go_wp2_with fail
  go_ret
  rw [he.out]
  exact ⟨rfl, grown_trans yy (grown_any y2 _), by simp⟩
 by_cases r3 : sKids k ks.length = ks.length
 rotate_left
 ·
  have hI := fun h => r3 ((sKids_iff k ks.length).2 h)
  have r3' : (sKids k ks.length != (ks.length : Int)) = true := by simpa using r3
  have hloc : exLoc k n mod name ks.length = false := by
   cases i1 : inB k 0 7
   ·
    exact loc_no (.inl i1)
   ·
    refine loc_no (.inr (.inl ?_))
    cases i2 : inB (ks.length : Int) (exLeast k) (exMost k)
    ·
     rfl
    ·
     exact absurd ⟨i1, by simp [inB] at i2; omega, by simp [inB] at i2; omega⟩ hI
  have he : Hid (spEx (.mk k n mod name ks) d arg left = false) := spEx_loc hloc
  clear hI hloc hm r3
  generalize sKids k ks.length = sk at *
  refine wp_region_held_drew (S := fun wx => (wx.cell? ⟨g, 0, none⟩ = some (.int .i64 m) ∧ wx.cell? ⟨gx, 0, none⟩ = some (.int .i64 k) ∧ wx.cell? ⟨gx, 1, none⟩ = some (.int .i64 n) ∧ wx.cell? ⟨gx, 2, none⟩ = some (.slice a2 nm c2) ∧ wx.cell? ⟨gx, 3, none⟩ = some (.slice a3 nn c3) ∧ wx.cell? ⟨gx, 4, none⟩ = some (.slice a4 ks.length c4))) (by kernel_rfl) HS0 (fun hHeld => ?_)
  refine tk (i := 0) (v := ?v551) rfl (by kernel_rfl) (.inl ⟨by rfl, ?y551⟩) hHeld (fun _ _ _ h => h) ?_
  case y551 => intro w hSw; (try dsimp only at hSw); go_simp; first | done | rfl
  refine tk (i := 1) (v := ?v552) rfl (by kernel_rfl) (.inl ⟨by rfl, ?y552⟩) hHeld (fun _ _ _ h => h) ?_
  case y552 => intro w hSw; (try dsimp only at hSw); go_simp; first | done | rfl
  refine tk (i := 2) (v := ?v553) rfl (by kernel_rfl) (.inl ⟨by rfl, ?y553⟩) hHeld (fun _ _ _ h => h) ?_
  case y553 => intro w hSw; (try dsimp only at hSw); go_simp; first | done | rfl
  try simp only [nrm]
  refine tk (i := 3) (v := ?v554) rfl (by kernel_rfl) (.inl ⟨by rfl, ?y554⟩) hHeld (fun _ _ _ h => h) ?_
  case y554 => intro w hSw; (try dsimp only at hSw); go_simp; first | done | rfl
  refine tk (i := 4) (v := ?v555) rfl (by kernel_rfl) (.inl ⟨by rfl, ?y555⟩) hHeld (fun _ _ _ h => h) ?_
  case y555 => intro w hSw; (try dsimp only at hSw); go_simp; first | done | rfl
  refine tk (i := 5) (v := ?v556) rfl (by kernel_rfl) (.inl ⟨by rfl, ?y556⟩) hHeld (fun _ _ _ h => h) ?_
  case y556 => intro w hSw; (try dsimp only at hSw); go_simp; first | done | rfl
  try simp only [nrm]
  refine tk (i := 6) (v := ?v557) rfl (by kernel_rfl) (.inl ⟨by rfl, ?y557⟩) hHeld (fun _ _ _ h => h) ?_
  case y557 => intro w hSw; (try dsimp only at hSw); go_simp; first | done | rfl
  refine tk (i := 7) (v := ?v558) rfl (by kernel_rfl) (.inl ⟨by rfl, ?y558⟩) hHeld (fun _ _ _ h => h) ?_
  case y558 => intro w hSw; (try dsimp only at hSw); go_simp; first | done | rfl
  refine tk (i := 8) (v := ?v559) rfl (by kernel_rfl) (.inl ⟨by rfl, ?y559⟩) hHeld (fun _ _ _ h => h) ?_
  case y559 => intro w hSw; (try dsimp only at hSw); go_simp; first | done | rfl
  try simp only [nrm]
  refine tk (i := 9) (v := ?v560) rfl (by kernel_rfl) (.inl ⟨by rfl, ?y560⟩) hHeld (fun _ _ _ h => h) ?_
  case y560 => intro w hSw; (try dsimp only at hSw); go_simp; first | done | rfl
  refine tk (i := 11) (v := ?v561) rfl (by kernel_rfl) (.inl ⟨by rfl, ?y561⟩) hHeld (fun _ _ _ h => h) ?_
  case y561 => intro w hSw; (try dsimp only at hSw); go_simp; first | done | rfl
  refine tk (i := 12) (v := ?v562) rfl (by kernel_rfl) (.inl ⟨by rfl, ?y562⟩) hHeld (fun _ _ _ h => h) ?_
  case y562 => intro w hSw; (try dsimp only at hSw); go_simp; first | done | rfl
  try simp only [nrm]
  refine tk (i := 13) (v := ?v563) rfl (by kernel_rfl) (.inl ⟨by rfl, ?y563⟩) hHeld (fun _ _ _ h => h) ?_
  case y563 => intro w hSw; (try dsimp only at hSw); go_simp; first | done | rfl
  try simp only [nrm]
  refine wpAnyH_ready (rs := [10]) (by kernel_rfl) (by simp) ?_
  refine AllReadyH.cons (i := 10) (o := ?o564) ?i564 (fun K hK => ?_) AllReadyH.nil
  case i564 => exact rfl
  go_simp
  (with_reducible refine HK.mono ?_)
  rintro e w3 ⟨rfl, hq⟩
  go_wp2_with fail
  refine hK.out _ _ (hbs hq) (fun hHeld => ?_)
  clear hK K
  try simp only [nrm]
  refine tk (i := 14) (v := ?v565) rfl (by kernel_rfl) (.inl ⟨by rfl, ?y565⟩) hHeld (fun _ _ _ h => h) ?_
  case y565 => intro w hSw; (try dsimp only at hSw); go_simp; first | done | rfl
  refine tk (i := 15) (v := ?v566) rfl (by kernel_rfl) (.inl ⟨by rfl, ?y566⟩) hHeld (fun _ _ _ h => h) ?_
  case y566 => intro w hSw; (try dsimp only at hSw); go_simp; first | done | rfl
  refine tk (i := 16) (v := ?v567) rfl (by kernel_rfl) (.inl ⟨by rfl, ?y567⟩) hHeld (fun _ _ _ h => h) ?_
  case y567 => intro w hSw; (try dsimp only at hSw); go_simp; first | done | rfl
  try simp only [nrm]
  refine skq (i := 17) rfl (by kernel_rfl) (by rfl) hHeld (fun _ _ _ h => h) ?_
  refine skq (i := 18) rfl (by kernel_rfl) (by rfl) hHeld (fun _ _ _ h => h) ?_
  refine skq (i := 19) rfl (by kernel_rfl) (by rfl) hHeld (fun _ _ _ h => h) ?_
  try simp only [nrm]
  refine skq (i := 20) rfl (by kernel_rfl) (by rfl) hHeld (fun _ _ _ h => h) ?_
  refine skq (i := 21) rfl (by kernel_rfl) (by rfl) hHeld (fun _ _ _ h => h) ?_
  refine skq (i := 22) rfl (by kernel_rfl) (by rfl) hHeld (fun _ _ _ h => h) ?_
  try simp only [nrm]
  refine skq (i := 23) rfl (by kernel_rfl) (by rfl) hHeld (fun _ _ _ h => h) ?_
  try simp only [nrm]
  refine tk (i := 24) (v := ?v575) rfl (by kernel_rfl) (.inl ⟨by rfl, ?y575⟩) hHeld (fun _ _ _ h => h) ?_
  case y575 => intro w hSw; (try dsimp only at hSw); go_simp; first | done | rfl
  try simp only [nrm]
  refine wpAnyH_done (by kernel_rfl) ?_ _
  go_wp2_with fail
  go_ret
  rw [he.out]
  exact ⟨rfl, grown_trans yy (grown_any (grown_trans y2 hq) _), by simp⟩
 obtain ⟨i1, i2, i3⟩ := (sKids_iff k ks.length).1 r3
 have HI4 : Hid (inB k 0 7 = true ∧ inB (ks.length : Int) (exLeast k) (exMost k) = true) := ⟨i1, by simp [inB]; omega⟩
 rw [r3] at HK
 have h8 : k = 0 ∨ k = 1 ∨ k = 2 ∨ k = 3 ∨ k = 4 ∨ k = 5 ∨ k = 6 ∨ k = 7 := by simp [inB] at i1; omega
 clear r3 i1 i2 i3 hm
 rcases h8 with rfl | rfl | rfl | rfl | rfl | rfl | rfl | rfl

 ·
  refine wp_region_held_drew (S := fun wx => (wx.cell? ⟨g, 0, none⟩ = some (.int .i64 m) ∧ wx.cell? ⟨gx, 0, none⟩ = some (.int .i64 0) ∧ wx.cell? ⟨gx, 1, none⟩ = some (.int .i64 n) ∧ wx.cell? ⟨gx, 2, none⟩ = some (.slice a2 nm c2) ∧ wx.cell? ⟨gx, 3, none⟩ = some (.slice a3 nn c3) ∧ wx.cell? ⟨gx, 4, none⟩ = some (.slice a4 ks.length c4))) (by kernel_rfl) HS0 (fun hHeld => ?_)
  refine tk (i := 0) (v := ?v576) rfl (by kernel_rfl) (.inl ⟨by rfl, ?y576⟩) hHeld (fun _ _ _ h => h) ?_
  case y576 => intro w hSw; (try dsimp only at hSw); go_simp; first | done | rfl
  refine tk (i := 1) (v := ?v577) rfl (by kernel_rfl) (.inl ⟨by rfl, ?y577⟩) hHeld (fun _ _ _ h => h) ?_
  case y577 => intro w hSw; (try dsimp only at hSw); go_simp; first | done | rfl
  refine tk (i := 2) (v := ?v578) rfl (by kernel_rfl) (.inl ⟨by rfl, ?y578⟩) hHeld (fun _ _ _ h => h) ?_
  case y578 => intro w hSw; (try dsimp only at hSw); go_simp; first | done | rfl
  try simp only [nrm]
  refine tk (i := 3) (v := ?v579) rfl (by kernel_rfl) (.inl ⟨by rfl, ?y579⟩) hHeld (fun _ _ _ h => h) ?_
  case y579 => intro w hSw; (try dsimp only at hSw); go_simp; first | done | rfl
  refine tk (i := 4) (v := ?v580) rfl (by kernel_rfl) (.inl ⟨by rfl, ?y580⟩) hHeld (fun _ _ _ h => h) ?_
  case y580 => intro w hSw; (try dsimp only at hSw); go_simp; first | done | rfl
  refine tk (i := 5) (v := ?v581) rfl (by kernel_rfl) (.inl ⟨by rfl, ?y581⟩) hHeld (fun _ _ _ h => h) ?_
  case y581 => intro w hSw; (try dsimp only at hSw); go_simp; first | done | rfl
  try simp only [nrm]
  refine tk (i := 6) (v := ?v582) rfl (by kernel_rfl) (.inl ⟨by rfl, ?y582⟩) hHeld (fun _ _ _ h => h) ?_
  case y582 => intro w hSw; (try dsimp only at hSw); go_simp; first | done | rfl
  refine tk (i := 7) (v := ?v583) rfl (by kernel_rfl) (.inl ⟨by rfl, ?y583⟩) hHeld (fun _ _ _ h => h) ?_
  case y583 => intro w hSw; (try dsimp only at hSw); go_simp; first | done | rfl
  refine tk (i := 8) (v := ?v584) rfl (by kernel_rfl) (.inl ⟨by rfl, ?y584⟩) hHeld (fun _ _ _ h => h) ?_
  case y584 => intro w hSw; (try dsimp only at hSw); go_simp; first | done | rfl
  try simp only [nrm]
  refine tk (i := 9) (v := ?v585) rfl (by kernel_rfl) (.inl ⟨by rfl, ?y585⟩) hHeld (fun _ _ _ h => h) ?_
  case y585 => intro w hSw; (try dsimp only at hSw); go_simp; first | done | rfl
  refine tk (i := 11) (v := ?v586) rfl (by kernel_rfl) (.inl ⟨by rfl, ?y586⟩) hHeld (fun _ _ _ h => h) ?_
  case y586 => intro w hSw; (try dsimp only at hSw); go_simp; first | done | rfl
  refine tk (i := 12) (v := ?v587) rfl (by kernel_rfl) (.inl ⟨by rfl, ?y587⟩) hHeld (fun _ _ _ h => h) ?_
  case y587 => intro w hSw; (try dsimp only at hSw); go_simp; first | done | rfl
  try simp only [nrm]
  refine tk (i := 13) (v := ?v588) rfl (by kernel_rfl) (.inl ⟨by rfl, ?y588⟩) hHeld (fun _ _ _ h => h) ?_
  case y588 => intro w hSw; (try dsimp only at hSw); go_simp; first | done | rfl
  try simp only [nrm]
  refine wpAnyH_ready (rs := [10]) (by kernel_rfl) (by simp) ?_
  refine AllReadyH.cons (i := 10) (o := ?o589) ?i589 (fun K hK => ?_) AllReadyH.nil
  case i589 => exact rfl
  go_simp
  (with_reducible refine HK.mono ?_)
  rintro e w3 ⟨rfl, hq⟩
  go_wp2_with fail
  refine hK.out _ _ (hbs hq) (fun hHeld => ?_)
  clear hK K
  try simp only [nrm]
  refine tk (i := 14) (v := ?v590) rfl (by kernel_rfl) (.inl ⟨by rfl, ?y590⟩) hHeld (fun _ _ _ h => h) ?_
  case y590 => intro w hSw; (try dsimp only at hSw); go_simp; first | done | rfl
  refine tk (i := 15) (v := ?v591) rfl (by kernel_rfl) (.inl ⟨by rfl, ?y591⟩) hHeld (fun _ _ _ h => h) ?_
  case y591 => intro w hSw; (try dsimp only at hSw); go_simp; first | done | rfl
  refine tk (i := 16) (v := ?v592) rfl (by kernel_rfl) (.inl ⟨by rfl, ?y592⟩) hHeld (fun _ _ _ h => h) ?_
  case y592 => intro w hSw; (try dsimp only at hSw); go_simp; first | done | rfl
  try simp only [nrm]
  refine tk (i := 17) (v := ?v593) rfl (by kernel_rfl) (.inl ⟨by rfl, ?y593⟩) hHeld (fun _ _ _ h => h) ?_
  case y593 => intro w hSw; (try dsimp only at hSw); go_simp; first | done | rfl
  refine tk (i := 18) (v := ?v594) rfl (by kernel_rfl) (.inl ⟨by rfl, ?y594⟩) hHeld (fun _ _ _ h => h) ?_
  case y594 => intro w hSw; (try dsimp only at hSw); go_simp; first | done | rfl
  refine tk (i := 19) (v := ?v595) rfl (by kernel_rfl) (.inl ⟨by rfl, ?y595⟩) hHeld (fun _ _ _ h => h) ?_
  case y595 => intro w hSw; (try dsimp only at hSw); go_simp; first | done | rfl
  try simp only [nrm]
  refine tk (i := 20) (v := ?v596) rfl (by kernel_rfl) (.inl ⟨by rfl, ?y596⟩) hHeld (fun _ _ _ h => h) ?_
  case y596 => intro w hSw; (try dsimp only at hSw); go_simp; first | done | rfl
  try simp only [nrm]
  refine skq (i := 21) rfl (by kernel_rfl) (by rfl) hHeld (fun _ _ _ h => h) ?_
  refine skq (i := 22) rfl (by kernel_rfl) (by rfl) hHeld (fun _ _ _ h => h) ?_
  try simp only [nrm]
  refine tk (i := 23) (v := ?v599) rfl (by kernel_rfl) (.inl ⟨by rfl, ?y599⟩) hHeld (fun _ _ _ h => h) ?_
  case y599 => intro w hSw; (try dsimp only at hSw); go_simp; first | done | rfl
  refine tk (i := 24) (v := ?v600) rfl (by kernel_rfl) (.inl ⟨by rfl, ?y600⟩) hHeld (fun _ _ _ h => h) ?_
  case y600 => intro w hSw; (try dsimp only at hSw); go_simp; first | done | rfl
  try simp only [nrm]
  refine wpAnyH_done (by kernel_rfl) ?_ _
  have hq3 := grown_trans y2 hq
  replace x0 := x0.below (below_grown hq3) x0.lt
  replace hL2 : Lft w3 g m := Blk.below hL2 (below_grown hq3) (Blk.lt hL2)
  replace yy := grown_trans yy (grown_any hq3 _)
  replace hb := hb.trans ((below_grown hq3).mono hb.size)
  clear HK hq hq3 z0 q0 q1 q2 q3 q4 HS0 hbs y2
  have q0 := x0.cell (i := 0) rfl
  have q1 := x0.cell (i := 1) rfl
  have q2 := x0.cell (i := 2) rfl
  have q3 := x0.cell (i := 3) rfl
  have q4 := x0.cell (i := 4) rfl
  have hn3 := specNameOk a3 nn c3 name false w3 (h3.below hb) (by omega)
  have hn2 := specNameOk a2 nm c2 mod true w3 (h2.below hb) (by omega)
  by_cases e0 : nn = 0
  rotate_left
  ·
   have e0' : (0 : Int) < (nn : Int) := by omega
   have he : Hid (spEx (.mk 0 n mod name ks) d arg left = false) := spEx_loc (loc_no (.inr (.inr (.inr (.inr (.inl ⟨by decide, by rw [HNA.out]; exact e0⟩))))))
   go_wp2_with fail
   go_ret
   rw [he.out]
   exact ⟨rfl, yy, by simp⟩
  have e0' : ¬ (0 : Int) < (nn : Int) := by omega
  have HE0 : Hid (name.length = 0) := HNA.out.trans e0
  clear e0
  by_cases em : nm = 0
  rotate_left
  ·
   have em' : (0 : Int) < (nm : Int) := by omega
   have he : Hid (spEx (.mk 0 n mod name ks) d arg left = false) := spEx_loc (loc_no (.inr (.inr (.inr (.inr (.inr (.inl ⟨by rw [HMO.out]; exact em, by decide⟩)))))))
   go_wp2_with fail
   go_ret
   rw [he.out]
   exact ⟨rfl, yy, by simp⟩
  have em' : ¬ (0 : Int) < (nm : Int) := by omega
  have HEM : Hid (mod.length = 0) := HMO.out.trans em
  clear em
  have hwf : (n != wrap64 (wrap32 n)) = !(inB n (-2147483648) 2147483647) := by rw [← wr_self]; rfl
  have HW := specWrapC n w3.drew
  generalize wrap64 (wrap32 n) = wn at *
  generalize hnn : inB n (-2147483648) 2147483647 = nnb at *
  have HNN : Hid (inB n (exLow 0) (exHigh 0) = nnb) := hnn
  clear hnn
  go_upto_region 13 with fail
  have q1d : w3.drew.cell? ⟨gx, 1, none⟩ = some (.int .i64 n) := q1
  go_region_held3 (fun wx => wx.cell? ⟨gx, 1, none⟩ = some (.int .i64 n)) (first | exact q1d) (first
   | (go_at_call 219; (with_reducible refine HW.mono ?_); rintro e w4 ⟨rfl, rfl⟩))
  have y3 : w3.grownBy w3.drew none := ⟨rfl, rfl, rfl, Nat.le_refl _, fun _ _ _ => rfl⟩
  replace x0 : Blk w3.drew gx 142 _ := x0
  replace hL2 : Lft w3.drew g m := hL2
  replace yy := grown_trans yy (grown_any y3 _)
  replace hb := hb.drew
  clear HW q0 q1 q2 q3 q4 q1d y3 hn2 hn3
  generalize w3.drew = w4 at *
  have q0 := x0.cell (i := 0) rfl
  have q1 := x0.cell (i := 1) rfl
  have q2 := x0.cell (i := 2) rfl
  have q3 := x0.cell (i := 3) rfl
  have q4 := x0.cell (i := 4) rfl
  cases nnb
  ·
   skip
   have he : Hid (spEx (.mk 0 n mod name ks) d arg left = false) := spEx_loc (loc_no (.inr (.inr (.inl HNN.out))))
   go_wp2_with fail
   go_ret
   rw [he.out]
   exact ⟨rfl, yy, by simp⟩
  have HE : Hid (spEx (.mk 0 n mod name ks) d arg left = spExs ks (d + 1) false m) := by
   show _ = _
   rw [spEx_rest (loc_yes HI4.out.1 HI4.out.2 HNN.out (by rw [show exNamed 0 = false from by decide]; exact decide_eq_true HE0.out) (by rw [decide_eq_true HEM.out]; rfl)) (.inl (by decide)) (by have := HMM.out; omega) (by omega), HMM.out]
   rfl
  have HD : Hid (ndEx (.mk 0 n mod name ks) = 1 + ndExs ks) := by show _ = _; simp [ndEx]
  have hz : ks.length = 0 := kids_zero HI4.out.2 (by decide)
  have hks : ks = [] := List.eq_nil_of_length_eq_zero hz
  have HT : Hid (spExs ks (d + 1) false m = true) := by show _ = _; rw [hks]; exact spExs_nil (by omega)
  have HD0 : Hid (ndExs ks = 0) := by show _ = _; rw [hks]; rfl
  subst hks
  simp only [List.length_nil] at q4 ⊢
  clear hz x0 hkl hk9
  go_wp2_with fail
  refine wp_loop_rounds 1 ?_
  rw [rounds_succ]
  go_wp2_with fail
  go_ret
  rw [HE.out, HT.out]
  exact ⟨rfl, yy, fun _ => by rw [HD.out, HD0.out, show left - ((1 + 0 : Nat) : Int) = m by have := HMM.out; omega]; exact hL2⟩
 ·
  refine wp_region_held_drew (S := fun wx => (wx.cell? ⟨g, 0, none⟩ = some (.int .i64 m) ∧ wx.cell? ⟨gx, 0, none⟩ = some (.int .i64 1) ∧ wx.cell? ⟨gx, 1, none⟩ = some (.int .i64 n) ∧ wx.cell? ⟨gx, 2, none⟩ = some (.slice a2 nm c2) ∧ wx.cell? ⟨gx, 3, none⟩ = some (.slice a3 nn c3) ∧ wx.cell? ⟨gx, 4, none⟩ = some (.slice a4 ks.length c4))) (by kernel_rfl) HS0 (fun hHeld => ?_)
  refine tk (i := 0) (v := ?v601) rfl (by kernel_rfl) (.inl ⟨by rfl, ?y601⟩) hHeld (fun _ _ _ h => h) ?_
  case y601 => intro w hSw; (try dsimp only at hSw); go_simp; first | done | rfl
  refine tk (i := 1) (v := ?v602) rfl (by kernel_rfl) (.inl ⟨by rfl, ?y602⟩) hHeld (fun _ _ _ h => h) ?_
  case y602 => intro w hSw; (try dsimp only at hSw); go_simp; first | done | rfl
  refine tk (i := 2) (v := ?v603) rfl (by kernel_rfl) (.inl ⟨by rfl, ?y603⟩) hHeld (fun _ _ _ h => h) ?_
  case y603 => intro w hSw; (try dsimp only at hSw); go_simp; first | done | rfl
  try simp only [nrm]
  refine tk (i := 3) (v := ?v604) rfl (by kernel_rfl) (.inl ⟨by rfl, ?y604⟩) hHeld (fun _ _ _ h => h) ?_
  case y604 => intro w hSw; (try dsimp only at hSw); go_simp; first | done | rfl
  refine tk (i := 4) (v := ?v605) rfl (by kernel_rfl) (.inl ⟨by rfl, ?y605⟩) hHeld (fun _ _ _ h => h) ?_
  case y605 => intro w hSw; (try dsimp only at hSw); go_simp; first | done | rfl
  refine tk (i := 5) (v := ?v606) rfl (by kernel_rfl) (.inl ⟨by rfl, ?y606⟩) hHeld (fun _ _ _ h => h) ?_
  case y606 => intro w hSw; (try dsimp only at hSw); go_simp; first | done | rfl
  try simp only [nrm]
  refine tk (i := 6) (v := ?v607) rfl (by kernel_rfl) (.inl ⟨by rfl, ?y607⟩) hHeld (fun _ _ _ h => h) ?_
  case y607 => intro w hSw; (try dsimp only at hSw); go_simp; first | done | rfl
  refine tk (i := 7) (v := ?v608) rfl (by kernel_rfl) (.inl ⟨by rfl, ?y608⟩) hHeld (fun _ _ _ h => h) ?_
  case y608 => intro w hSw; (try dsimp only at hSw); go_simp; first | done | rfl
  refine tk (i := 8) (v := ?v609) rfl (by kernel_rfl) (.inl ⟨by rfl, ?y609⟩) hHeld (fun _ _ _ h => h) ?_
  case y609 => intro w hSw; (try dsimp only at hSw); go_simp; first | done | rfl
  try simp only [nrm]
  refine tk (i := 9) (v := ?v610) rfl (by kernel_rfl) (.inl ⟨by rfl, ?y610⟩) hHeld (fun _ _ _ h => h) ?_
  case y610 => intro w hSw; (try dsimp only at hSw); go_simp; first | done | rfl
  refine tk (i := 11) (v := ?v611) rfl (by kernel_rfl) (.inl ⟨by rfl, ?y611⟩) hHeld (fun _ _ _ h => h) ?_
  case y611 => intro w hSw; (try dsimp only at hSw); go_simp; first | done | rfl
  refine tk (i := 12) (v := ?v612) rfl (by kernel_rfl) (.inl ⟨by rfl, ?y612⟩) hHeld (fun _ _ _ h => h) ?_
  case y612 => intro w hSw; (try dsimp only at hSw); go_simp; first | done | rfl
  try simp only [nrm]
  refine tk (i := 13) (v := ?v613) rfl (by kernel_rfl) (.inl ⟨by rfl, ?y613⟩) hHeld (fun _ _ _ h => h) ?_
  case y613 => intro w hSw; (try dsimp only at hSw); go_simp; first | done | rfl
  try simp only [nrm]
  refine wpAnyH_ready (rs := [10]) (by kernel_rfl) (by simp) ?_
  refine AllReadyH.cons (i := 10) (o := ?o614) ?i614 (fun K hK => ?_) AllReadyH.nil
  case i614 => exact rfl
  go_simp
  (with_reducible refine HK.mono ?_)
  rintro e w3 ⟨rfl, hq⟩
  go_wp2_with fail
  refine hK.out _ _ (hbs hq) (fun hHeld => ?_)
  clear hK K
  try simp only [nrm]
  refine tk (i := 14) (v := ?v615) rfl (by kernel_rfl) (.inl ⟨by rfl, ?y615⟩) hHeld (fun _ _ _ h => h) ?_
  case y615 => intro w hSw; (try dsimp only at hSw); go_simp; first | done | rfl
  refine tk (i := 15) (v := ?v616) rfl (by kernel_rfl) (.inl ⟨by rfl, ?y616⟩) hHeld (fun _ _ _ h => h) ?_
  case y616 => intro w hSw; (try dsimp only at hSw); go_simp; first | done | rfl
  refine tk (i := 16) (v := ?v617) rfl (by kernel_rfl) (.inl ⟨by rfl, ?y617⟩) hHeld (fun _ _ _ h => h) ?_
  case y617 => intro w hSw; (try dsimp only at hSw); go_simp; first | done | rfl
  try simp only [nrm]
  refine tk (i := 17) (v := ?v618) rfl (by kernel_rfl) (.inl ⟨by rfl, ?y618⟩) hHeld (fun _ _ _ h => h) ?_
  case y618 => intro w hSw; (try dsimp only at hSw); go_simp; first | done | rfl
  refine tk (i := 18) (v := ?v619) rfl (by kernel_rfl) (.inl ⟨by rfl, ?y619⟩) hHeld (fun _ _ _ h => h) ?_
  case y619 => intro w hSw; (try dsimp only at hSw); go_simp; first | done | rfl
  refine tk (i := 19) (v := ?v620) rfl (by kernel_rfl) (.inl ⟨by rfl, ?y620⟩) hHeld (fun _ _ _ h => h) ?_
  case y620 => intro w hSw; (try dsimp only at hSw); go_simp; first | done | rfl
  try simp only [nrm]
  refine tk (i := 20) (v := ?v621) rfl (by kernel_rfl) (.inl ⟨by rfl, ?y621⟩) hHeld (fun _ _ _ h => h) ?_
  case y621 => intro w hSw; (try dsimp only at hSw); go_simp; first | done | rfl
  try simp only [nrm]
  refine skq (i := 21) rfl (by kernel_rfl) (by rfl) hHeld (fun _ _ _ h => h) ?_
  refine skq (i := 22) rfl (by kernel_rfl) (by rfl) hHeld (fun _ _ _ h => h) ?_
  try simp only [nrm]
  refine tk (i := 23) (v := ?v624) rfl (by kernel_rfl) (.inl ⟨by rfl, ?y624⟩) hHeld (fun _ _ _ h => h) ?_
  case y624 => intro w hSw; (try dsimp only at hSw); go_simp; first | done | rfl
  refine tk (i := 24) (v := ?v625) rfl (by kernel_rfl) (.inl ⟨by rfl, ?y625⟩) hHeld (fun _ _ _ h => h) ?_
  case y625 => intro w hSw; (try dsimp only at hSw); go_simp; first | done | rfl
  try simp only [nrm]
  refine wpAnyH_done (by kernel_rfl) ?_ _
  have hq3 := grown_trans y2 hq
  replace x0 := x0.below (below_grown hq3) x0.lt
  replace hL2 : Lft w3 g m := Blk.below hL2 (below_grown hq3) (Blk.lt hL2)
  replace yy := grown_trans yy (grown_any hq3 _)
  replace hb := hb.trans ((below_grown hq3).mono hb.size)
  clear HK hq hq3 z0 q0 q1 q2 q3 q4 HS0 hbs y2
  have q0 := x0.cell (i := 0) rfl
  have q1 := x0.cell (i := 1) rfl
  have q2 := x0.cell (i := 2) rfl
  have q3 := x0.cell (i := 3) rfl
  have q4 := x0.cell (i := 4) rfl
  have hn3 := specNameOk a3 nn c3 name false w3 (h3.below hb) (by omega)
  have hn2 := specNameOk a2 nm c2 mod true w3 (h2.below hb) (by omega)
  by_cases e0 : nn = 0
  ·
   have hno : nameOk name false = false := nameOk_short (by rw [HNA.out]; omega)
   rw [e0] at q3 ⊢
   have he : Hid (spEx (.mk 1 n mod name ks) d arg left = false) := spEx_loc (loc_no (.inr (.inr (.inr (.inl ⟨by decide, hno⟩)))))
   go_wp2_with fail
   go_ret
   rw [he.out]
   exact ⟨rfl, yy, by simp⟩
  have e0' : (0 : Int) < (nn : Int) := by omega
  generalize hnb : nameOk name false = nb at *
  have HNB : Hid (nameOk name false = nb) := hnb
  clear hnb
  go_wp2_with fail
  refine hn3.mono ?_
  rintro e w3 ⟨rfl, rfl⟩
  clear hn3
  cases nb
  ·
   skip
   have he : Hid (spEx (.mk 1 n mod name ks) d arg left = false) := spEx_loc (loc_no (.inr (.inr (.inr (.inl ⟨by decide, HNB.out⟩)))))
   go_wp2_with fail
   go_ret
   rw [he.out]
   exact ⟨rfl, yy, by simp⟩
  by_cases em : nm = 0
  rotate_left
  ·
   have em' : (0 : Int) < (nm : Int) := by omega
   have he : Hid (spEx (.mk 1 n mod name ks) d arg left = false) := spEx_loc (loc_no (.inr (.inr (.inr (.inr (.inr (.inl ⟨by rw [HMO.out]; exact em, by decide⟩)))))))
   go_wp2_with fail
   go_ret
   rw [he.out]
   exact ⟨rfl, yy, by simp⟩
  have em' : ¬ (0 : Int) < (nm : Int) := by omega
  have HEM : Hid (mod.length = 0) := HMO.out.trans em
  clear em
  by_cases n0 : n = 0
  rotate_left
  ·
   have n0' : (n != 0) = true := by simpa using n0
   have he : Hid (spEx (.mk 1 n mod name ks) d arg left = false) := spEx_loc (loc_no (.inr (.inr (.inl (by simp [inB, exLow, exHigh]; omega)))))
   go_wp2_with fail
   go_ret
   rw [he.out]
   exact ⟨rfl, yy, by simp⟩
  have n0' : (n != 0) = false := by simpa using n0
  have HNN : Hid (inB n (exLow 1) (exHigh 1) = true) := by show _ = _; rw [n0]; decide
  clear n0
  have HE : Hid (spEx (.mk 1 n mod name ks) d arg left = spExs ks (d + 1) false m) := by
   show _ = _
   rw [spEx_rest (loc_yes HI4.out.1 HI4.out.2 HNN.out (by rw [show exNamed 1 = true from by decide]; exact HNB.out) (by rw [decide_eq_true HEM.out]; rfl)) (.inl (by decide)) (by have := HMM.out; omega) (by omega), HMM.out]
   rfl
  have HD : Hid (ndEx (.mk 1 n mod name ks) = 1 + ndExs ks) := by show _ = _; simp [ndEx]
  have hz : ks.length = 0 := kids_zero HI4.out.2 (by decide)
  have hks : ks = [] := List.eq_nil_of_length_eq_zero hz
  have HT : Hid (spExs ks (d + 1) false m = true) := by show _ = _; rw [hks]; exact spExs_nil (by omega)
  have HD0 : Hid (ndExs ks = 0) := by show _ = _; rw [hks]; rfl
  subst hks
  simp only [List.length_nil] at q4 ⊢
  clear hz x0 hkl hk9
  go_wp2_with fail
  refine wp_loop_rounds 1 ?_
  rw [rounds_succ]
  go_wp2_with fail
  go_ret
  rw [HE.out, HT.out]
  exact ⟨rfl, yy, fun _ => by rw [HD.out, HD0.out, show left - ((1 + 0 : Nat) : Int) = m by have := HMM.out; omega]; exact hL2⟩
 ·
  refine wp_region_held_drew (S := fun wx => (wx.cell? ⟨g, 0, none⟩ = some (.int .i64 m) ∧ wx.cell? ⟨gx, 0, none⟩ = some (.int .i64 2) ∧ wx.cell? ⟨gx, 1, none⟩ = some (.int .i64 n) ∧ wx.cell? ⟨gx, 2, none⟩ = some (.slice a2 nm c2) ∧ wx.cell? ⟨gx, 3, none⟩ = some (.slice a3 nn c3) ∧ wx.cell? ⟨gx, 4, none⟩ = some (.slice a4 ks.length c4))) (by kernel_rfl) HS0 (fun hHeld => ?_)
  refine tk (i := 0) (v := ?v626) rfl (by kernel_rfl) (.inl ⟨by rfl, ?y626⟩) hHeld (fun _ _ _ h => h) ?_
  case y626 => intro w hSw; (try dsimp only at hSw); go_simp; first | done | rfl
  refine tk (i := 1) (v := ?v627) rfl (by kernel_rfl) (.inl ⟨by rfl, ?y627⟩) hHeld (fun _ _ _ h => h) ?_
  case y627 => intro w hSw; (try dsimp only at hSw); go_simp; first | done | rfl
  refine tk (i := 2) (v := ?v628) rfl (by kernel_rfl) (.inl ⟨by rfl, ?y628⟩) hHeld (fun _ _ _ h => h) ?_
  case y628 => intro w hSw; (try dsimp only at hSw); go_simp; first | done | rfl
  try simp only [nrm]
  refine tk (i := 3) (v := ?v629) rfl (by kernel_rfl) (.inl ⟨by rfl, ?y629⟩) hHeld (fun _ _ _ h => h) ?_
  case y629 => intro w hSw; (try dsimp only at hSw); go_simp; first | done | rfl
  refine tk (i := 4) (v := ?v630) rfl (by kernel_rfl) (.inl ⟨by rfl, ?y630⟩) hHeld (fun _ _ _ h => h) ?_
  case y630 => intro w hSw; (try dsimp only at hSw); go_simp; first | done | rfl
  refine tk (i := 5) (v := ?v631) rfl (by kernel_rfl) (.inl ⟨by rfl, ?y631⟩) hHeld (fun _ _ _ h => h) ?_
  case y631 => intro w hSw; (try dsimp only at hSw); go_simp; first | done | rfl
  try simp only [nrm]
  refine tk (i := 6) (v := ?v632) rfl (by kernel_rfl) (.inl ⟨by rfl, ?y632⟩) hHeld (fun _ _ _ h => h) ?_
  case y632 => intro w hSw; (try dsimp only at hSw); go_simp; first | done | rfl
  refine tk (i := 7) (v := ?v633) rfl (by kernel_rfl) (.inl ⟨by rfl, ?y633⟩) hHeld (fun _ _ _ h => h) ?_
  case y633 => intro w hSw; (try dsimp only at hSw); go_simp; first | done | rfl
  refine tk (i := 8) (v := ?v634) rfl (by kernel_rfl) (.inl ⟨by rfl, ?y634⟩) hHeld (fun _ _ _ h => h) ?_
  case y634 => intro w hSw; (try dsimp only at hSw); go_simp; first | done | rfl
  try simp only [nrm]
  refine tk (i := 9) (v := ?v635) rfl (by kernel_rfl) (.inl ⟨by rfl, ?y635⟩) hHeld (fun _ _ _ h => h) ?_
  case y635 => intro w hSw; (try dsimp only at hSw); go_simp; first | done | rfl
  refine tk (i := 11) (v := ?v636) rfl (by kernel_rfl) (.inl ⟨by rfl, ?y636⟩) hHeld (fun _ _ _ h => h) ?_
  case y636 => intro w hSw; (try dsimp only at hSw); go_simp; first | done | rfl
  refine tk (i := 12) (v := ?v637) rfl (by kernel_rfl) (.inl ⟨by rfl, ?y637⟩) hHeld (fun _ _ _ h => h) ?_
  case y637 => intro w hSw; (try dsimp only at hSw); go_simp; first | done | rfl
  try simp only [nrm]
  refine tk (i := 13) (v := ?v638) rfl (by kernel_rfl) (.inl ⟨by rfl, ?y638⟩) hHeld (fun _ _ _ h => h) ?_
  case y638 => intro w hSw; (try dsimp only at hSw); go_simp; first | done | rfl
  try simp only [nrm]
  refine wpAnyH_ready (rs := [10]) (by kernel_rfl) (by simp) ?_
  refine AllReadyH.cons (i := 10) (o := ?o639) ?i639 (fun K hK => ?_) AllReadyH.nil
  case i639 => exact rfl
  go_simp
  (with_reducible refine HK.mono ?_)
  rintro e w3 ⟨rfl, hq⟩
  go_wp2_with fail
  refine hK.out _ _ (hbs hq) (fun hHeld => ?_)
  clear hK K
  try simp only [nrm]
  refine tk (i := 14) (v := ?v640) rfl (by kernel_rfl) (.inl ⟨by rfl, ?y640⟩) hHeld (fun _ _ _ h => h) ?_
  case y640 => intro w hSw; (try dsimp only at hSw); go_simp; first | done | rfl
  refine tk (i := 15) (v := ?v641) rfl (by kernel_rfl) (.inl ⟨by rfl, ?y641⟩) hHeld (fun _ _ _ h => h) ?_
  case y641 => intro w hSw; (try dsimp only at hSw); go_simp; first | done | rfl
  refine tk (i := 16) (v := ?v642) rfl (by kernel_rfl) (.inl ⟨by rfl, ?y642⟩) hHeld (fun _ _ _ h => h) ?_
  case y642 => intro w hSw; (try dsimp only at hSw); go_simp; first | done | rfl
  try simp only [nrm]
  refine tk (i := 17) (v := ?v643) rfl (by kernel_rfl) (.inl ⟨by rfl, ?y643⟩) hHeld (fun _ _ _ h => h) ?_
  case y643 => intro w hSw; (try dsimp only at hSw); go_simp; first | done | rfl
  refine tk (i := 18) (v := ?v644) rfl (by kernel_rfl) (.inl ⟨by rfl, ?y644⟩) hHeld (fun _ _ _ h => h) ?_
  case y644 => intro w hSw; (try dsimp only at hSw); go_simp; first | done | rfl
  refine tk (i := 19) (v := ?v645) rfl (by kernel_rfl) (.inl ⟨by rfl, ?y645⟩) hHeld (fun _ _ _ h => h) ?_
  case y645 => intro w hSw; (try dsimp only at hSw); go_simp; first | done | rfl
  try simp only [nrm]
  refine tk (i := 20) (v := ?v646) rfl (by kernel_rfl) (.inl ⟨by rfl, ?y646⟩) hHeld (fun _ _ _ h => h) ?_
  case y646 => intro w hSw; (try dsimp only at hSw); go_simp; first | done | rfl
  try simp only [nrm]
  refine skq (i := 21) rfl (by kernel_rfl) (by rfl) hHeld (fun _ _ _ h => h) ?_
  refine skq (i := 22) rfl (by kernel_rfl) (by rfl) hHeld (fun _ _ _ h => h) ?_
  try simp only [nrm]
  refine tk (i := 23) (v := ?v649) rfl (by kernel_rfl) (.inl ⟨by rfl, ?y649⟩) hHeld (fun _ _ _ h => h) ?_
  case y649 => intro w hSw; (try dsimp only at hSw); go_simp; first | done | rfl
  refine tk (i := 24) (v := ?v650) rfl (by kernel_rfl) (.inl ⟨by rfl, ?y650⟩) hHeld (fun _ _ _ h => h) ?_
  case y650 => intro w hSw; (try dsimp only at hSw); go_simp; first | done | rfl
  try simp only [nrm]
  refine wpAnyH_done (by kernel_rfl) ?_ _
  have hq3 := grown_trans y2 hq
  replace x0 := x0.below (below_grown hq3) x0.lt
  replace hL2 : Lft w3 g m := Blk.below hL2 (below_grown hq3) (Blk.lt hL2)
  replace yy := grown_trans yy (grown_any hq3 _)
  replace hb := hb.trans ((below_grown hq3).mono hb.size)
  clear HK hq hq3 z0 q0 q1 q2 q3 q4 HS0 hbs y2
  have q0 := x0.cell (i := 0) rfl
  have q1 := x0.cell (i := 1) rfl
  have q2 := x0.cell (i := 2) rfl
  have q3 := x0.cell (i := 3) rfl
  have q4 := x0.cell (i := 4) rfl
  have hn3 := specNameOk a3 nn c3 name false w3 (h3.below hb) (by omega)
  have hn2 := specNameOk a2 nm c2 mod true w3 (h2.below hb) (by omega)
  by_cases e0 : nn = 0
  ·
   have hno : nameOk name false = false := nameOk_short (by rw [HNA.out]; omega)
   rw [e0] at q3 ⊢
   have he : Hid (spEx (.mk 2 n mod name ks) d arg left = false) := spEx_loc (loc_no (.inr (.inr (.inr (.inl ⟨by decide, hno⟩)))))
   go_wp2_with fail
   go_ret
   rw [he.out]
   exact ⟨rfl, yy, by simp⟩
  have e0' : (0 : Int) < (nn : Int) := by omega
  generalize hnb : nameOk name false = nb at *
  have HNB : Hid (nameOk name false = nb) := hnb
  clear hnb
  go_wp2_with fail
  refine hn3.mono ?_
  rintro e w3 ⟨rfl, rfl⟩
  clear hn3
  cases nb
  ·
   skip
   have he : Hid (spEx (.mk 2 n mod name ks) d arg left = false) := spEx_loc (loc_no (.inr (.inr (.inr (.inl ⟨by decide, HNB.out⟩)))))
   go_wp2_with fail
   go_ret
   rw [he.out]
   exact ⟨rfl, yy, by simp⟩
  by_cases em : nm = 0
  rotate_left
  ·
   have em' : (0 : Int) < (nm : Int) := by omega
   have he : Hid (spEx (.mk 2 n mod name ks) d arg left = false) := spEx_loc (loc_no (.inr (.inr (.inr (.inr (.inr (.inl ⟨by rw [HMO.out]; exact em, by decide⟩)))))))
   go_wp2_with fail
   go_ret
   rw [he.out]
   exact ⟨rfl, yy, by simp⟩
  have em' : ¬ (0 : Int) < (nm : Int) := by omega
  have HEM : Hid (mod.length = 0) := HMO.out.trans em
  clear em
  by_cases n0 : n = 0
  rotate_left
  ·
   have n0' : (n != 0) = true := by simpa using n0
   have he : Hid (spEx (.mk 2 n mod name ks) d arg left = false) := spEx_loc (loc_no (.inr (.inr (.inl (by simp [inB, exLow, exHigh]; omega)))))
   go_wp2_with fail
   go_ret
   rw [he.out]
   exact ⟨rfl, yy, by simp⟩
  have n0' : (n != 0) = false := by simpa using n0
  have HNN : Hid (inB n (exLow 2) (exHigh 2) = true) := by show _ = _; rw [n0]; decide
  clear n0
  have HE : Hid (spEx (.mk 2 n mod name ks) d arg left = spExs ks (d + 1) false m) := by
   show _ = _
   rw [spEx_rest (loc_yes HI4.out.1 HI4.out.2 HNN.out (by rw [show exNamed 2 = true from by decide]; exact HNB.out) (by rw [decide_eq_true HEM.out]; rfl)) (.inl (by decide)) (by have := HMM.out; omega) (by omega), HMM.out]
   rfl
  have HD : Hid (ndEx (.mk 2 n mod name ks) = 1 + ndExs ks) := by show _ = _; simp [ndEx]
  have HX0 : Hid _ := x0
  have HY : Hid (w.grownBy w3 (some g)) := yy
  have HB3 : Hid (Below w0.heap.size w0 w3) := hb
  have HLF : Hid (Lft w3 g (m - (ndExs (ks.take 0) : Int))) := by show Lft _ _ _; simpa [ndExs] using hL2
  have HRW : Hid (LRow w0 a4 c4 5 (exs ks)) := h4
  have HSK : Hid (rowsLen (exs ks) ≤ 1048576) := hsk
  have HSS : Hid (∀ x ∈ ks, SpEx x) := S
  have hm0 : 0 ≤ m := by omega
  have hm1 : m ≤ 250 := by have := HMM.out; omega
  have hd2 : d + 1 ≤ 17 := by omega
  have hd3 : 0 ≤ d + 1 := by omega
  go_wp2_with fail
  clear q0 q1 q2 q3 q4 x0 yy hb hL2 h4
  go_loopw [10] (fun i wr => ∃ j : Nat, j ≤ ks.length ∧ i = .int .i64 j ∧ Hid (w3.grownBy wr (some g)) ∧ Hid (Lft wr g (m - (ndExs (ks.take j) : Int))) ∧ Hid ((ndExs (ks.take j) : Int) ≤ m) ∧ Hid (∀ i x, i < j → ks[i]? = some x → spEx x (d + 1) false (m - (ndExs (ks.take i) : Int)) = true)) (fun i _ => ks.length - (intOf i).toNat)
  case atStart => exact ⟨0, Nat.zero_le _, rfl, grown_refl _ _, HLF, by show (_ : Int) ≤ _; simp [ndExs]; omega, by show ∀ _ _, _; omega⟩
  case round =>
   obtain ⟨j, hj, rfl, hgr, hLj, hnj, hyes⟩ := hrel
   clear HLF
   have x0 := Blk.grown HX0.out hgr.out hgx
   have q0 := x0.cell (i := 0) rfl
   have q4 := x0.cell (i := 4) rfl
   have hb := below_at HB3.out hgr.out hg
   by_cases hlt : j < ks.length
   ·
    obtain ⟨b4, o4, rfl⟩ := LRow.addr HRW.out (by rw [hkl]; omega)
    obtain ⟨x, hx⟩ : ∃ x, ks[j]? = some x := ⟨ks[j], List.getElem?_eq_getElem _⟩
    have hxj : (exs ks)[j]? = some x.fl := by rw [exs_map, List.getElem?_map, hx]; rfl
    obtain ⟨us, hvs, hcl⟩ := (LRow.el HRW.out hxj).vals
    obtain ⟨u0, u1, u2, u3, u4, rfl⟩ := five_of (hvs.len.trans (exs_len x))
    have hc0 : w0.cell? ⟨b4, o4 + j * 5, none⟩ = some u0 := hcl 0 _ rfl
    replace hcl : ∀ i v, _ → _ := fun i v hv => cell_on (hcl i v hv) hb
    have t0 : wr.cell? ⟨b4, o4 + j * 5, none⟩ = some u0 := hcl 0 _ rfl
    have t1 : wr.cell? ⟨b4, o4 + j * 5 + 1, none⟩ = some u1 := hcl 1 _ rfl
    have t2 : wr.cell? ⟨b4, o4 + j * 5 + 2, none⟩ = some u2 := hcl 2 _ rfl
    have t3 : wr.cell? ⟨b4, o4 + j * 5 + 3, none⟩ = some u3 := hcl 3 _ rfl
    have t4 : wr.cell? ⟨b4, o4 + j * 5 + 4, none⟩ = some u4 := hcl 4 _ rfl
    have hmem := List.mem_of_getElem? hx
    have hsx : recLen x.fl ≤ 1048576 := Nat.le_trans (recLen_le (List.mem_of_getElem? hxj)) HSK.out
    have hbd : Below w0.heap.size w0 wr.drew := hb.drew
    have hLd : Lft wr.drew g (m - (ndExs (ks.take j) : Int)) := hLj.out
    have HC := HSS.out x hmem w0 wr.drew [u0, u1, u2, u3, u4] g (m - (ndExs (ks.take j) : Int)) (d + 1) false hvs hbd hg hLd (by have := hnj.out; omega) (by omega) hd3 hd2 hsx
    simp only [agg] at HC
    have HJ : Hid (ks[j]? = some x) := hx
    have HNX : Hid (ndExs (ks.take (j + 1)) = ndExs (ks.take j) + ndEx x) := ndExs_next hx
    clear hcl hx hxj hmem hsx hvs hbd hLd
    generalize hsp : spEx x (d + 1) false (m - (ndExs (ks.take j) : Int)) = rr at *
    have HSP : Hid (spEx x (d + 1) false (m - (ndExs (ks.take j) : Int)) = rr) := hsp
    clear hsp
    have hb4 : b4 ≠ g := by
     have := World.block_lt_of_cell? w0 _ hc0
     simp only at this
     omega
    have HS0 : (wr.drew.cell? ⟨gx, 0, none⟩ = some (.int .i64 2) ∧ wr.drew.cell? ⟨gx, 4, none⟩ = some (.slice (some ⟨b4, o4, none⟩) ks.length c4) ∧ wr.drew.cell? ⟨b4, o4 + j * 5, none⟩ = some u0 ∧ wr.drew.cell? ⟨b4, o4 + j * 5 + 1, none⟩ = some u1 ∧ wr.drew.cell? ⟨b4, o4 + j * 5 + 2, none⟩ = some u2 ∧ wr.drew.cell? ⟨b4, o4 + j * 5 + 3, none⟩ = some u3 ∧ wr.drew.cell? ⟨b4, o4 + j * 5 + 4, none⟩ = some u4) := ⟨q0, q4, t0, t1, t2, t3, t4⟩
    have hbs : ∀ {wl : World}, wr.drew.grownBy wl (some g) → (wl.cell? ⟨gx, 0, none⟩ = some (.int .i64 2) ∧ wl.cell? ⟨gx, 4, none⟩ = some (.slice (some ⟨b4, o4, none⟩) ks.length c4) ∧ wl.cell? ⟨b4, o4 + j * 5, none⟩ = some u0 ∧ wl.cell? ⟨b4, o4 + j * 5 + 1, none⟩ = some u1 ∧ wl.cell? ⟨b4, o4 + j * 5 + 2, none⟩ = some u2 ∧ wl.cell? ⟨b4, o4 + j * 5 + 3, none⟩ = some u3 ∧ wl.cell? ⟨b4, o4 + j * 5 + 4, none⟩ = some u4) := fun hq => ⟨cell_at HS0.1 hq hgx, cell_at HS0.2.1 hq hgx, cell_at HS0.2.2.1 hq hb4, cell_at HS0.2.2.2.1 hq hb4, cell_at HS0.2.2.2.2.1 hq hb4, cell_at HS0.2.2.2.2.2.1 hq hb4, cell_at HS0.2.2.2.2.2.2 hq hb4⟩
    have z5 : (0 : Int) ≤ (j : Int) := by omega
    have z7 : IntKind.i64.wrap (d + 1) = d + 1 := by rw [IntKind.wrap_i64]; omega
    have z6 : (j : Int) < (ks.length : Int) := by omega
    go_upto_region 21 with fail
    go_region_held3 (fun wx => (wx.cell? ⟨gx, 0, none⟩ = some (.int .i64 2) ∧ wx.cell? ⟨gx, 4, none⟩ = some (.slice (some ⟨b4, o4, none⟩) ks.length c4) ∧ wx.cell? ⟨b4, o4 + j * 5, none⟩ = some u0 ∧ wx.cell? ⟨b4, o4 + j * 5 + 1, none⟩ = some u1 ∧ wx.cell? ⟨b4, o4 + j * 5 + 2, none⟩ = some u2 ∧ wx.cell? ⟨b4, o4 + j * 5 + 3, none⟩ = some u3 ∧ wx.cell? ⟨b4, o4 + j * 5 + 4, none⟩ = some u4)) (first | exact HS0 | exact HSl) (first
     | (go_at_call 198; (with_reducible refine HC.mono ?_); rintro e w4 ⟨rfl, hg4, hL4⟩; have HSl := hbs hg4))
    clear HSl hbs HS0
    have HG4 : Hid (w3.grownBy w4 (some g)) := grown_trans hgr.out (grown_trans (show wr.grownBy wr.drew (some g) from ⟨rfl, rfl, rfl, Nat.le_refl _, fun _ _ _ => rfl⟩) hg4)
    have HL4 : Hid (rr = true → Lft w4 g (m - (ndExs (ks.take j) : Int) - (ndEx x : Int))) := hL4
    clear HC t0 t1 t2 t3 t4 q0 q4 x0 hb hg4 hL4
    cases rr
    ·
     have he : Hid (spEx (.mk 2 n mod name ks) d arg left = false) := by show _ = _; rw [HE.out]; exact spExs_no HJ.out HSP.out
     have hyy := grown_trans HY.out HG4.out
     go_wp2_with fail
     go_ret
     rw [he.out]
     exact ⟨rfl, hyy, by simp⟩
    ·
     have hle := spEx_le HSP.out
     have HL5 : Hid (Lft w4 g (m - (ndExs (ks.take (j + 1)) : Int))) := by
      have := HL4.out rfl
      rw [show m - (ndExs (ks.take j) : Int) - (ndEx x : Int) = m - (ndExs (ks.take (j + 1)) : Int) by rw [HNX.out]; omega] at this
      exact this
     go_wp2_with fail
     go_roundw
     case rel => exact ⟨j + 1, by omega, by go_num, HG4, HL5, (by show (_ : Int) ≤ _; rw [HNX.out]; omega), (show ∀ i x, i < j + 1 → _ from fun i y hi hy => (Nat.lt_or_ge i j).elim (fun h => hyes.out i y h hy) (fun h => by
      obtain rfl : i = j := by omega
      rw [HJ.out] at hy
      cases hy
      exact HSP.out))⟩
     case measure => simp [intOf]; omega
   ·
    have : j = ks.length := by omega
    subst this
    have he : Hid (spEx (.mk 2 n mod name ks) d arg left = true) := by
     show _ = _
     rw [HE.out]
     exact spExs_yes (fun i y hy => hyes.out i y (List.getElem?_eq_some_iff.1 hy).1 hy) hm0
    have hyy := grown_trans HY.out hgr.out
    have hLf := hLj.out
    rw [List.take_length] at hLf
    go_wp2_with fail
    go_ret
    rw [he.out]
    exact ⟨rfl, hyy, fun _ => by rw [HD.out, show left - ((1 + ndExs ks : Nat) : Int) = m - (ndExs ks : Int) by have := HMM.out; omega]; exact hLf⟩
 ·
  refine wp_region_held_drew (S := fun wx => (wx.cell? ⟨g, 0, none⟩ = some (.int .i64 m) ∧ wx.cell? ⟨gx, 0, none⟩ = some (.int .i64 3) ∧ wx.cell? ⟨gx, 1, none⟩ = some (.int .i64 n) ∧ wx.cell? ⟨gx, 2, none⟩ = some (.slice a2 nm c2) ∧ wx.cell? ⟨gx, 3, none⟩ = some (.slice a3 nn c3) ∧ wx.cell? ⟨gx, 4, none⟩ = some (.slice a4 ks.length c4))) (by kernel_rfl) HS0 (fun hHeld => ?_)
  refine tk (i := 0) (v := ?v651) rfl (by kernel_rfl) (.inl ⟨by rfl, ?y651⟩) hHeld (fun _ _ _ h => h) ?_
  case y651 => intro w hSw; (try dsimp only at hSw); go_simp; first | done | rfl
  refine tk (i := 1) (v := ?v652) rfl (by kernel_rfl) (.inl ⟨by rfl, ?y652⟩) hHeld (fun _ _ _ h => h) ?_
  case y652 => intro w hSw; (try dsimp only at hSw); go_simp; first | done | rfl
  refine tk (i := 2) (v := ?v653) rfl (by kernel_rfl) (.inl ⟨by rfl, ?y653⟩) hHeld (fun _ _ _ h => h) ?_
  case y653 => intro w hSw; (try dsimp only at hSw); go_simp; first | done | rfl
  try simp only [nrm]
  refine tk (i := 3) (v := ?v654) rfl (by kernel_rfl) (.inl ⟨by rfl, ?y654⟩) hHeld (fun _ _ _ h => h) ?_
  case y654 => intro w hSw; (try dsimp only at hSw); go_simp; first | done | rfl
  refine tk (i := 4) (v := ?v655) rfl (by kernel_rfl) (.inl ⟨by rfl, ?y655⟩) hHeld (fun _ _ _ h => h) ?_
  case y655 => intro w hSw; (try dsimp only at hSw); go_simp; first | done | rfl
  refine tk (i := 5) (v := ?v656) rfl (by kernel_rfl) (.inl ⟨by rfl, ?y656⟩) hHeld (fun _ _ _ h => h) ?_
  case y656 => intro w hSw; (try dsimp only at hSw); go_simp; first | done | rfl
  try simp only [nrm]
  refine tk (i := 6) (v := ?v657) rfl (by kernel_rfl) (.inl ⟨by rfl, ?y657⟩) hHeld (fun _ _ _ h => h) ?_
  case y657 => intro w hSw; (try dsimp only at hSw); go_simp; first | done | rfl
  refine tk (i := 7) (v := ?v658) rfl (by kernel_rfl) (.inl ⟨by rfl, ?y658⟩) hHeld (fun _ _ _ h => h) ?_
  case y658 => intro w hSw; (try dsimp only at hSw); go_simp; first | done | rfl
  refine tk (i := 8) (v := ?v659) rfl (by kernel_rfl) (.inl ⟨by rfl, ?y659⟩) hHeld (fun _ _ _ h => h) ?_
  case y659 => intro w hSw; (try dsimp only at hSw); go_simp; first | done | rfl
  try simp only [nrm]
  refine tk (i := 9) (v := ?v660) rfl (by kernel_rfl) (.inl ⟨by rfl, ?y660⟩) hHeld (fun _ _ _ h => h) ?_
  case y660 => intro w hSw; (try dsimp only at hSw); go_simp; first | done | rfl
  refine tk (i := 11) (v := ?v661) rfl (by kernel_rfl) (.inl ⟨by rfl, ?y661⟩) hHeld (fun _ _ _ h => h) ?_
  case y661 => intro w hSw; (try dsimp only at hSw); go_simp; first | done | rfl
  refine tk (i := 12) (v := ?v662) rfl (by kernel_rfl) (.inl ⟨by rfl, ?y662⟩) hHeld (fun _ _ _ h => h) ?_
  case y662 => intro w hSw; (try dsimp only at hSw); go_simp; first | done | rfl
  try simp only [nrm]
  refine tk (i := 13) (v := ?v663) rfl (by kernel_rfl) (.inl ⟨by rfl, ?y663⟩) hHeld (fun _ _ _ h => h) ?_
  case y663 => intro w hSw; (try dsimp only at hSw); go_simp; first | done | rfl
  try simp only [nrm]
  refine wpAnyH_ready (rs := [10]) (by kernel_rfl) (by simp) ?_
  refine AllReadyH.cons (i := 10) (o := ?o664) ?i664 (fun K hK => ?_) AllReadyH.nil
  case i664 => exact rfl
  go_simp
  (with_reducible refine HK.mono ?_)
  rintro e w3 ⟨rfl, hq⟩
  go_wp2_with fail
  refine hK.out _ _ (hbs hq) (fun hHeld => ?_)
  clear hK K
  try simp only [nrm]
  refine tk (i := 14) (v := ?v665) rfl (by kernel_rfl) (.inl ⟨by rfl, ?y665⟩) hHeld (fun _ _ _ h => h) ?_
  case y665 => intro w hSw; (try dsimp only at hSw); go_simp; first | done | rfl
  refine tk (i := 15) (v := ?v666) rfl (by kernel_rfl) (.inl ⟨by rfl, ?y666⟩) hHeld (fun _ _ _ h => h) ?_
  case y666 => intro w hSw; (try dsimp only at hSw); go_simp; first | done | rfl
  refine tk (i := 16) (v := ?v667) rfl (by kernel_rfl) (.inl ⟨by rfl, ?y667⟩) hHeld (fun _ _ _ h => h) ?_
  case y667 => intro w hSw; (try dsimp only at hSw); go_simp; first | done | rfl
  try simp only [nrm]
  refine tk (i := 17) (v := ?v668) rfl (by kernel_rfl) (.inl ⟨by rfl, ?y668⟩) hHeld (fun _ _ _ h => h) ?_
  case y668 => intro w hSw; (try dsimp only at hSw); go_simp; first | done | rfl
  refine tk (i := 18) (v := ?v669) rfl (by kernel_rfl) (.inl ⟨by rfl, ?y669⟩) hHeld (fun _ _ _ h => h) ?_
  case y669 => intro w hSw; (try dsimp only at hSw); go_simp; first | done | rfl
  refine tk (i := 19) (v := ?v670) rfl (by kernel_rfl) (.inl ⟨by rfl, ?y670⟩) hHeld (fun _ _ _ h => h) ?_
  case y670 => intro w hSw; (try dsimp only at hSw); go_simp; first | done | rfl
  try simp only [nrm]
  refine tk (i := 20) (v := ?v671) rfl (by kernel_rfl) (.inl ⟨by rfl, ?y671⟩) hHeld (fun _ _ _ h => h) ?_
  case y671 => intro w hSw; (try dsimp only at hSw); go_simp; first | done | rfl
  try simp only [nrm]
  refine skq (i := 21) rfl (by kernel_rfl) (by rfl) hHeld (fun _ _ _ h => h) ?_
  refine skq (i := 22) rfl (by kernel_rfl) (by rfl) hHeld (fun _ _ _ h => h) ?_
  try simp only [nrm]
  refine tk (i := 23) (v := ?v674) rfl (by kernel_rfl) (.inl ⟨by rfl, ?y674⟩) hHeld (fun _ _ _ h => h) ?_
  case y674 => intro w hSw; (try dsimp only at hSw); go_simp; first | done | rfl
  refine tk (i := 24) (v := ?v675) rfl (by kernel_rfl) (.inl ⟨by rfl, ?y675⟩) hHeld (fun _ _ _ h => h) ?_
  case y675 => intro w hSw; (try dsimp only at hSw); go_simp; first | done | rfl
  try simp only [nrm]
  refine wpAnyH_done (by kernel_rfl) ?_ _
  have hq3 := grown_trans y2 hq
  replace x0 := x0.below (below_grown hq3) x0.lt
  replace hL2 : Lft w3 g m := Blk.below hL2 (below_grown hq3) (Blk.lt hL2)
  replace yy := grown_trans yy (grown_any hq3 _)
  replace hb := hb.trans ((below_grown hq3).mono hb.size)
  clear HK hq hq3 z0 q0 q1 q2 q3 q4 HS0 hbs y2
  have q0 := x0.cell (i := 0) rfl
  have q1 := x0.cell (i := 1) rfl
  have q2 := x0.cell (i := 2) rfl
  have q3 := x0.cell (i := 3) rfl
  have q4 := x0.cell (i := 4) rfl
  have hn3 := specNameOk a3 nn c3 name false w3 (h3.below hb) (by omega)
  have hn2 := specNameOk a2 nm c2 mod true w3 (h2.below hb) (by omega)
  by_cases e0 : nn = 0
  rotate_left
  ·
   have e0' : (0 : Int) < (nn : Int) := by omega
   have he : Hid (spEx (.mk 3 n mod name ks) d arg left = false) := spEx_loc (loc_no (.inr (.inr (.inr (.inr (.inl ⟨by decide, by rw [HNA.out]; exact e0⟩))))))
   go_wp2_with fail
   go_ret
   rw [he.out]
   exact ⟨rfl, yy, by simp⟩
  have e0' : ¬ (0 : Int) < (nn : Int) := by omega
  have HE0 : Hid (name.length = 0) := HNA.out.trans e0
  clear e0
  by_cases em : nm = 0
  rotate_left
  ·
   have em' : (0 : Int) < (nm : Int) := by omega
   have he : Hid (spEx (.mk 3 n mod name ks) d arg left = false) := spEx_loc (loc_no (.inr (.inr (.inr (.inr (.inr (.inl ⟨by rw [HMO.out]; exact em, by decide⟩)))))))
   go_wp2_with fail
   go_ret
   rw [he.out]
   exact ⟨rfl, yy, by simp⟩
  have em' : ¬ (0 : Int) < (nm : Int) := by omega
  have HEM : Hid (mod.length = 0) := HMO.out.trans em
  clear em
  by_cases n0 : n < 0
  ·
   skip
   have he : Hid (spEx (.mk 3 n mod name ks) d arg left = false) := spEx_loc (loc_no (.inr (.inr (.inl (by simp [inB, exLow, exHigh]; omega)))))
   go_wp2_with fail
   go_ret
   rw [he.out]
   exact ⟨rfl, yy, by simp⟩
  by_cases n5 : 5 < n
  ·
   skip
   have he : Hid (spEx (.mk 3 n mod name ks) d arg left = false) := spEx_loc (loc_no (.inr (.inr (.inl (by simp [inB, exLow, exHigh]; omega)))))
   go_wp2_with fail
   go_ret
   rw [he.out]
   exact ⟨rfl, yy, by simp⟩
  have HNN : Hid (inB n (exLow 3) (exHigh 3) = true) := by show _ = _; simp [inB, exLow, exHigh]; omega
  have HE : Hid (spEx (.mk 3 n mod name ks) d arg left = spExs ks (d + 1) false m) := by
   show _ = _
   rw [spEx_rest (loc_yes HI4.out.1 HI4.out.2 HNN.out (by rw [show exNamed 3 = false from by decide]; exact decide_eq_true HE0.out) (by rw [decide_eq_true HEM.out]; rfl)) (.inl (by decide)) (by have := HMM.out; omega) (by omega), HMM.out]
   rfl
  have HD : Hid (ndEx (.mk 3 n mod name ks) = 1 + ndExs ks) := by show _ = _; simp [ndEx]
  have HX0 : Hid _ := x0
  have HY : Hid (w.grownBy w3 (some g)) := yy
  have HB3 : Hid (Below w0.heap.size w0 w3) := hb
  have HLF : Hid (Lft w3 g (m - (ndExs (ks.take 0) : Int))) := by show Lft _ _ _; simpa [ndExs] using hL2
  have HRW : Hid (LRow w0 a4 c4 5 (exs ks)) := h4
  have HSK : Hid (rowsLen (exs ks) ≤ 1048576) := hsk
  have HSS : Hid (∀ x ∈ ks, SpEx x) := S
  have hm0 : 0 ≤ m := by omega
  have hm1 : m ≤ 250 := by have := HMM.out; omega
  have hd2 : d + 1 ≤ 17 := by omega
  have hd3 : 0 ≤ d + 1 := by omega
  go_wp2_with fail
  clear q0 q1 q2 q3 q4 x0 yy hb hL2 h4
  go_loopw [10] (fun i wr => ∃ j : Nat, j ≤ ks.length ∧ i = .int .i64 j ∧ Hid (w3.grownBy wr (some g)) ∧ Hid (Lft wr g (m - (ndExs (ks.take j) : Int))) ∧ Hid ((ndExs (ks.take j) : Int) ≤ m) ∧ Hid (∀ i x, i < j → ks[i]? = some x → spEx x (d + 1) false (m - (ndExs (ks.take i) : Int)) = true)) (fun i _ => ks.length - (intOf i).toNat)
  case atStart => exact ⟨0, Nat.zero_le _, rfl, grown_refl _ _, HLF, by show (_ : Int) ≤ _; simp [ndExs]; omega, by show ∀ _ _, _; omega⟩
  case round =>
   obtain ⟨j, hj, rfl, hgr, hLj, hnj, hyes⟩ := hrel
   clear HLF
   have x0 := Blk.grown HX0.out hgr.out hgx
   have q0 := x0.cell (i := 0) rfl
   have q4 := x0.cell (i := 4) rfl
   have hb := below_at HB3.out hgr.out hg
   by_cases hlt : j < ks.length
   ·
    obtain ⟨b4, o4, rfl⟩ := LRow.addr HRW.out (by rw [hkl]; omega)
    obtain ⟨x, hx⟩ : ∃ x, ks[j]? = some x := ⟨ks[j], List.getElem?_eq_getElem _⟩
    have hxj : (exs ks)[j]? = some x.fl := by rw [exs_map, List.getElem?_map, hx]; rfl
    obtain ⟨us, hvs, hcl⟩ := (LRow.el HRW.out hxj).vals
    obtain ⟨u0, u1, u2, u3, u4, rfl⟩ := five_of (hvs.len.trans (exs_len x))
    have hc0 : w0.cell? ⟨b4, o4 + j * 5, none⟩ = some u0 := hcl 0 _ rfl
    replace hcl : ∀ i v, _ → _ := fun i v hv => cell_on (hcl i v hv) hb
    have t0 : wr.cell? ⟨b4, o4 + j * 5, none⟩ = some u0 := hcl 0 _ rfl
    have t1 : wr.cell? ⟨b4, o4 + j * 5 + 1, none⟩ = some u1 := hcl 1 _ rfl
    have t2 : wr.cell? ⟨b4, o4 + j * 5 + 2, none⟩ = some u2 := hcl 2 _ rfl
    have t3 : wr.cell? ⟨b4, o4 + j * 5 + 3, none⟩ = some u3 := hcl 3 _ rfl
    have t4 : wr.cell? ⟨b4, o4 + j * 5 + 4, none⟩ = some u4 := hcl 4 _ rfl
    have hmem := List.mem_of_getElem? hx
    have hsx : recLen x.fl ≤ 1048576 := Nat.le_trans (recLen_le (List.mem_of_getElem? hxj)) HSK.out
    have hbd : Below w0.heap.size w0 wr.drew := hb.drew
    have hLd : Lft wr.drew g (m - (ndExs (ks.take j) : Int)) := hLj.out
    have HC := HSS.out x hmem w0 wr.drew [u0, u1, u2, u3, u4] g (m - (ndExs (ks.take j) : Int)) (d + 1) false hvs hbd hg hLd (by have := hnj.out; omega) (by omega) hd3 hd2 hsx
    simp only [agg] at HC
    have HJ : Hid (ks[j]? = some x) := hx
    have HNX : Hid (ndExs (ks.take (j + 1)) = ndExs (ks.take j) + ndEx x) := ndExs_next hx
    clear hcl hx hxj hmem hsx hvs hbd hLd
    generalize hsp : spEx x (d + 1) false (m - (ndExs (ks.take j) : Int)) = rr at *
    have HSP : Hid (spEx x (d + 1) false (m - (ndExs (ks.take j) : Int)) = rr) := hsp
    clear hsp
    have hb4 : b4 ≠ g := by
     have := World.block_lt_of_cell? w0 _ hc0
     simp only at this
     omega
    have HS0 : (wr.drew.cell? ⟨gx, 0, none⟩ = some (.int .i64 3) ∧ wr.drew.cell? ⟨gx, 4, none⟩ = some (.slice (some ⟨b4, o4, none⟩) ks.length c4) ∧ wr.drew.cell? ⟨b4, o4 + j * 5, none⟩ = some u0 ∧ wr.drew.cell? ⟨b4, o4 + j * 5 + 1, none⟩ = some u1 ∧ wr.drew.cell? ⟨b4, o4 + j * 5 + 2, none⟩ = some u2 ∧ wr.drew.cell? ⟨b4, o4 + j * 5 + 3, none⟩ = some u3 ∧ wr.drew.cell? ⟨b4, o4 + j * 5 + 4, none⟩ = some u4) := ⟨q0, q4, t0, t1, t2, t3, t4⟩
    have hbs : ∀ {wl : World}, wr.drew.grownBy wl (some g) → (wl.cell? ⟨gx, 0, none⟩ = some (.int .i64 3) ∧ wl.cell? ⟨gx, 4, none⟩ = some (.slice (some ⟨b4, o4, none⟩) ks.length c4) ∧ wl.cell? ⟨b4, o4 + j * 5, none⟩ = some u0 ∧ wl.cell? ⟨b4, o4 + j * 5 + 1, none⟩ = some u1 ∧ wl.cell? ⟨b4, o4 + j * 5 + 2, none⟩ = some u2 ∧ wl.cell? ⟨b4, o4 + j * 5 + 3, none⟩ = some u3 ∧ wl.cell? ⟨b4, o4 + j * 5 + 4, none⟩ = some u4) := fun hq => ⟨cell_at HS0.1 hq hgx, cell_at HS0.2.1 hq hgx, cell_at HS0.2.2.1 hq hb4, cell_at HS0.2.2.2.1 hq hb4, cell_at HS0.2.2.2.2.1 hq hb4, cell_at HS0.2.2.2.2.2.1 hq hb4, cell_at HS0.2.2.2.2.2.2 hq hb4⟩
    have z5 : (0 : Int) ≤ (j : Int) := by omega
    have z7 : IntKind.i64.wrap (d + 1) = d + 1 := by rw [IntKind.wrap_i64]; omega
    have z6 : (j : Int) < (ks.length : Int) := by omega
    go_upto_region 21 with fail
    go_region_held3 (fun wx => (wx.cell? ⟨gx, 0, none⟩ = some (.int .i64 3) ∧ wx.cell? ⟨gx, 4, none⟩ = some (.slice (some ⟨b4, o4, none⟩) ks.length c4) ∧ wx.cell? ⟨b4, o4 + j * 5, none⟩ = some u0 ∧ wx.cell? ⟨b4, o4 + j * 5 + 1, none⟩ = some u1 ∧ wx.cell? ⟨b4, o4 + j * 5 + 2, none⟩ = some u2 ∧ wx.cell? ⟨b4, o4 + j * 5 + 3, none⟩ = some u3 ∧ wx.cell? ⟨b4, o4 + j * 5 + 4, none⟩ = some u4)) (first | exact HS0 | exact HSl) (first
     | (go_at_call 198; (with_reducible refine HC.mono ?_); rintro e w4 ⟨rfl, hg4, hL4⟩; have HSl := hbs hg4))
    clear HSl hbs HS0
    have HG4 : Hid (w3.grownBy w4 (some g)) := grown_trans hgr.out (grown_trans (show wr.grownBy wr.drew (some g) from ⟨rfl, rfl, rfl, Nat.le_refl _, fun _ _ _ => rfl⟩) hg4)
    have HL4 : Hid (rr = true → Lft w4 g (m - (ndExs (ks.take j) : Int) - (ndEx x : Int))) := hL4
    clear HC t0 t1 t2 t3 t4 q0 q4 x0 hb hg4 hL4
    cases rr
    ·
     have he : Hid (spEx (.mk 3 n mod name ks) d arg left = false) := by show _ = _; rw [HE.out]; exact spExs_no HJ.out HSP.out
     have hyy := grown_trans HY.out HG4.out
     go_wp2_with fail
     go_ret
     rw [he.out]
     exact ⟨rfl, hyy, by simp⟩
    ·
     have hle := spEx_le HSP.out
     have HL5 : Hid (Lft w4 g (m - (ndExs (ks.take (j + 1)) : Int))) := by
      have := HL4.out rfl
      rw [show m - (ndExs (ks.take j) : Int) - (ndEx x : Int) = m - (ndExs (ks.take (j + 1)) : Int) by rw [HNX.out]; omega] at this
      exact this
     go_wp2_with fail
     go_roundw
     case rel => exact ⟨j + 1, by omega, by go_num, HG4, HL5, (by show (_ : Int) ≤ _; rw [HNX.out]; omega), (show ∀ i x, i < j + 1 → _ from fun i y hi hy => (Nat.lt_or_ge i j).elim (fun h => hyes.out i y h hy) (fun h => by
      obtain rfl : i = j := by omega
      rw [HJ.out] at hy
      cases hy
      exact HSP.out))⟩
     case measure => simp [intOf]; omega
   ·
    have : j = ks.length := by omega
    subst this
    have he : Hid (spEx (.mk 3 n mod name ks) d arg left = true) := by
     show _ = _
     rw [HE.out]
     exact spExs_yes (fun i y hy => hyes.out i y (List.getElem?_eq_some_iff.1 hy).1 hy) hm0
    have hyy := grown_trans HY.out hgr.out
    have hLf := hLj.out
    rw [List.take_length] at hLf
    go_wp2_with fail
    go_ret
    rw [he.out]
    exact ⟨rfl, hyy, fun _ => by rw [HD.out, show left - ((1 + ndExs ks : Nat) : Int) = m - (ndExs ks : Int) by have := HMM.out; omega]; exact hLf⟩
 ·
  refine wp_region_held_drew (S := fun wx => (wx.cell? ⟨g, 0, none⟩ = some (.int .i64 m) ∧ wx.cell? ⟨gx, 0, none⟩ = some (.int .i64 4) ∧ wx.cell? ⟨gx, 1, none⟩ = some (.int .i64 n) ∧ wx.cell? ⟨gx, 2, none⟩ = some (.slice a2 nm c2) ∧ wx.cell? ⟨gx, 3, none⟩ = some (.slice a3 nn c3) ∧ wx.cell? ⟨gx, 4, none⟩ = some (.slice a4 ks.length c4))) (by kernel_rfl) HS0 (fun hHeld => ?_)
  refine tk (i := 0) (v := ?v676) rfl (by kernel_rfl) (.inl ⟨by rfl, ?y676⟩) hHeld (fun _ _ _ h => h) ?_
  case y676 => intro w hSw; (try dsimp only at hSw); go_simp; first | done | rfl
  refine tk (i := 1) (v := ?v677) rfl (by kernel_rfl) (.inl ⟨by rfl, ?y677⟩) hHeld (fun _ _ _ h => h) ?_
  case y677 => intro w hSw; (try dsimp only at hSw); go_simp; first | done | rfl
  refine tk (i := 2) (v := ?v678) rfl (by kernel_rfl) (.inl ⟨by rfl, ?y678⟩) hHeld (fun _ _ _ h => h) ?_
  case y678 => intro w hSw; (try dsimp only at hSw); go_simp; first | done | rfl
  try simp only [nrm]
  refine tk (i := 3) (v := ?v679) rfl (by kernel_rfl) (.inl ⟨by rfl, ?y679⟩) hHeld (fun _ _ _ h => h) ?_
  case y679 => intro w hSw; (try dsimp only at hSw); go_simp; first | done | rfl
  refine tk (i := 4) (v := ?v680) rfl (by kernel_rfl) (.inl ⟨by rfl, ?y680⟩) hHeld (fun _ _ _ h => h) ?_
  case y680 => intro w hSw; (try dsimp only at hSw); go_simp; first | done | rfl
  refine tk (i := 5) (v := ?v681) rfl (by kernel_rfl) (.inl ⟨by rfl, ?y681⟩) hHeld (fun _ _ _ h => h) ?_
  case y681 => intro w hSw; (try dsimp only at hSw); go_simp; first | done | rfl
  try simp only [nrm]
  refine tk (i := 6) (v := ?v682) rfl (by kernel_rfl) (.inl ⟨by rfl, ?y682⟩) hHeld (fun _ _ _ h => h) ?_
  case y682 => intro w hSw; (try dsimp only at hSw); go_simp; first | done | rfl
  refine tk (i := 7) (v := ?v683) rfl (by kernel_rfl) (.inl ⟨by rfl, ?y683⟩) hHeld (fun _ _ _ h => h) ?_
  case y683 => intro w hSw; (try dsimp only at hSw); go_simp; first | done | rfl
  refine tk (i := 8) (v := ?v684) rfl (by kernel_rfl) (.inl ⟨by rfl, ?y684⟩) hHeld (fun _ _ _ h => h) ?_
  case y684 => intro w hSw; (try dsimp only at hSw); go_simp; first | done | rfl
  try simp only [nrm]
  refine tk (i := 9) (v := ?v685) rfl (by kernel_rfl) (.inl ⟨by rfl, ?y685⟩) hHeld (fun _ _ _ h => h) ?_
  case y685 => intro w hSw; (try dsimp only at hSw); go_simp; first | done | rfl
  refine tk (i := 11) (v := ?v686) rfl (by kernel_rfl) (.inl ⟨by rfl, ?y686⟩) hHeld (fun _ _ _ h => h) ?_
  case y686 => intro w hSw; (try dsimp only at hSw); go_simp; first | done | rfl
  refine tk (i := 12) (v := ?v687) rfl (by kernel_rfl) (.inl ⟨by rfl, ?y687⟩) hHeld (fun _ _ _ h => h) ?_
  case y687 => intro w hSw; (try dsimp only at hSw); go_simp; first | done | rfl
  try simp only [nrm]
  refine tk (i := 13) (v := ?v688) rfl (by kernel_rfl) (.inl ⟨by rfl, ?y688⟩) hHeld (fun _ _ _ h => h) ?_
  case y688 => intro w hSw; (try dsimp only at hSw); go_simp; first | done | rfl
  try simp only [nrm]
  refine wpAnyH_ready (rs := [10]) (by kernel_rfl) (by simp) ?_
  refine AllReadyH.cons (i := 10) (o := ?o689) ?i689 (fun K hK => ?_) AllReadyH.nil
  case i689 => exact rfl
  go_simp
  (with_reducible refine HK.mono ?_)
  rintro e w3 ⟨rfl, hq⟩
  go_wp2_with fail
  refine hK.out _ _ (hbs hq) (fun hHeld => ?_)
  clear hK K
  try simp only [nrm]
  refine tk (i := 14) (v := ?v690) rfl (by kernel_rfl) (.inl ⟨by rfl, ?y690⟩) hHeld (fun _ _ _ h => h) ?_
  case y690 => intro w hSw; (try dsimp only at hSw); go_simp; first | done | rfl
  refine tk (i := 15) (v := ?v691) rfl (by kernel_rfl) (.inl ⟨by rfl, ?y691⟩) hHeld (fun _ _ _ h => h) ?_
  case y691 => intro w hSw; (try dsimp only at hSw); go_simp; first | done | rfl
  refine tk (i := 16) (v := ?v692) rfl (by kernel_rfl) (.inl ⟨by rfl, ?y692⟩) hHeld (fun _ _ _ h => h) ?_
  case y692 => intro w hSw; (try dsimp only at hSw); go_simp; first | done | rfl
  try simp only [nrm]
  refine tk (i := 17) (v := ?v693) rfl (by kernel_rfl) (.inl ⟨by rfl, ?y693⟩) hHeld (fun _ _ _ h => h) ?_
  case y693 => intro w hSw; (try dsimp only at hSw); go_simp; first | done | rfl
  refine tk (i := 18) (v := ?v694) rfl (by kernel_rfl) (.inl ⟨by rfl, ?y694⟩) hHeld (fun _ _ _ h => h) ?_
  case y694 => intro w hSw; (try dsimp only at hSw); go_simp; first | done | rfl
  refine tk (i := 19) (v := ?v695) rfl (by kernel_rfl) (.inl ⟨by rfl, ?y695⟩) hHeld (fun _ _ _ h => h) ?_
  case y695 => intro w hSw; (try dsimp only at hSw); go_simp; first | done | rfl
  try simp only [nrm]
  refine tk (i := 20) (v := ?v696) rfl (by kernel_rfl) (.inl ⟨by rfl, ?y696⟩) hHeld (fun _ _ _ h => h) ?_
  case y696 => intro w hSw; (try dsimp only at hSw); go_simp; first | done | rfl
  try simp only [nrm]
  refine skq (i := 21) rfl (by kernel_rfl) (by rfl) hHeld (fun _ _ _ h => h) ?_
  refine skq (i := 22) rfl (by kernel_rfl) (by rfl) hHeld (fun _ _ _ h => h) ?_
  try simp only [nrm]
  refine tk (i := 23) (v := ?v699) rfl (by kernel_rfl) (.inl ⟨by rfl, ?y699⟩) hHeld (fun _ _ _ h => h) ?_
  case y699 => intro w hSw; (try dsimp only at hSw); go_simp; first | done | rfl
  refine tk (i := 24) (v := ?v700) rfl (by kernel_rfl) (.inl ⟨by rfl, ?y700⟩) hHeld (fun _ _ _ h => h) ?_
  case y700 => intro w hSw; (try dsimp only at hSw); go_simp; first | done | rfl
  try simp only [nrm]
  refine wpAnyH_done (by kernel_rfl) ?_ _
  have hq3 := grown_trans y2 hq
  replace x0 := x0.below (below_grown hq3) x0.lt
  replace hL2 : Lft w3 g m := Blk.below hL2 (below_grown hq3) (Blk.lt hL2)
  replace yy := grown_trans yy (grown_any hq3 _)
  replace hb := hb.trans ((below_grown hq3).mono hb.size)
  clear HK hq hq3 z0 q0 q1 q2 q3 q4 HS0 hbs y2
  have q0 := x0.cell (i := 0) rfl
  have q1 := x0.cell (i := 1) rfl
  have q2 := x0.cell (i := 2) rfl
  have q3 := x0.cell (i := 3) rfl
  have q4 := x0.cell (i := 4) rfl
  have hn3 := specNameOk a3 nn c3 name false w3 (h3.below hb) (by omega)
  have hn2 := specNameOk a2 nm c2 mod true w3 (h2.below hb) (by omega)
  by_cases e0 : nn = 0
  rotate_left
  ·
   have e0' : (0 : Int) < (nn : Int) := by omega
   have he : Hid (spEx (.mk 4 n mod name ks) d arg left = false) := spEx_loc (loc_no (.inr (.inr (.inr (.inr (.inl ⟨by decide, by rw [HNA.out]; exact e0⟩))))))
   go_wp2_with fail
   go_ret
   rw [he.out]
   exact ⟨rfl, yy, by simp⟩
  have e0' : ¬ (0 : Int) < (nn : Int) := by omega
  have HE0 : Hid (name.length = 0) := HNA.out.trans e0
  clear e0
  by_cases em : nm = 0
  rotate_left
  ·
   have em' : (0 : Int) < (nm : Int) := by omega
   have he : Hid (spEx (.mk 4 n mod name ks) d arg left = false) := spEx_loc (loc_no (.inr (.inr (.inr (.inr (.inr (.inl ⟨by rw [HMO.out]; exact em, by decide⟩)))))))
   go_wp2_with fail
   go_ret
   rw [he.out]
   exact ⟨rfl, yy, by simp⟩
  have em' : ¬ (0 : Int) < (nm : Int) := by omega
  have HEM : Hid (mod.length = 0) := HMO.out.trans em
  clear em
  by_cases n0 : n = 0
  rotate_left
  ·
   have n0' : (n != 0) = true := by simpa using n0
   have he : Hid (spEx (.mk 4 n mod name ks) d arg left = false) := spEx_loc (loc_no (.inr (.inr (.inl (by simp [inB, exLow, exHigh]; omega)))))
   go_wp2_with fail
   go_ret
   rw [he.out]
   exact ⟨rfl, yy, by simp⟩
  have n0' : (n != 0) = false := by simpa using n0
  have HNN : Hid (inB n (exLow 4) (exHigh 4) = true) := by show _ = _; rw [n0]; decide
  clear n0
  have HE : Hid (spEx (.mk 4 n mod name ks) d arg left = spExs ks (d + 1) false m) := by
   show _ = _
   rw [spEx_rest (loc_yes HI4.out.1 HI4.out.2 HNN.out (by rw [show exNamed 4 = false from by decide]; exact decide_eq_true HE0.out) (by rw [decide_eq_true HEM.out]; rfl)) (.inl (by decide)) (by have := HMM.out; omega) (by omega), HMM.out]
   rfl
  have HD : Hid (ndEx (.mk 4 n mod name ks) = 1 + ndExs ks) := by show _ = _; simp [ndEx]
  have hz : ks.length = 0 := kids_zero HI4.out.2 (by decide)
  have hks : ks = [] := List.eq_nil_of_length_eq_zero hz
  have HT : Hid (spExs ks (d + 1) false m = true) := by show _ = _; rw [hks]; exact spExs_nil (by omega)
  have HD0 : Hid (ndExs ks = 0) := by show _ = _; rw [hks]; rfl
  subst hks
  simp only [List.length_nil] at q4 ⊢
  clear hz x0 hkl hk9
  go_wp2_with fail
  refine wp_loop_rounds 1 ?_
  rw [rounds_succ]
  go_wp2_with fail
  go_ret
  rw [HE.out, HT.out]
  exact ⟨rfl, yy, fun _ => by rw [HD.out, HD0.out, show left - ((1 + 0 : Nat) : Int) = m by have := HMM.out; omega]; exact hL2⟩
 ·
  refine wp_region_held_drew (S := fun wx => (wx.cell? ⟨g, 0, none⟩ = some (.int .i64 m) ∧ wx.cell? ⟨gx, 0, none⟩ = some (.int .i64 5) ∧ wx.cell? ⟨gx, 1, none⟩ = some (.int .i64 n) ∧ wx.cell? ⟨gx, 2, none⟩ = some (.slice a2 nm c2) ∧ wx.cell? ⟨gx, 3, none⟩ = some (.slice a3 nn c3) ∧ wx.cell? ⟨gx, 4, none⟩ = some (.slice a4 ks.length c4))) (by kernel_rfl) HS0 (fun hHeld => ?_)
  refine tk (i := 0) (v := ?v701) rfl (by kernel_rfl) (.inl ⟨by rfl, ?y701⟩) hHeld (fun _ _ _ h => h) ?_
  case y701 => intro w hSw; (try dsimp only at hSw); go_simp; first | done | rfl
  refine tk (i := 1) (v := ?v702) rfl (by kernel_rfl) (.inl ⟨by rfl, ?y702⟩) hHeld (fun _ _ _ h => h) ?_
  case y702 => intro w hSw; (try dsimp only at hSw); go_simp; first | done | rfl
  refine tk (i := 2) (v := ?v703) rfl (by kernel_rfl) (.inl ⟨by rfl, ?y703⟩) hHeld (fun _ _ _ h => h) ?_
  case y703 => intro w hSw; (try dsimp only at hSw); go_simp; first | done | rfl
  try simp only [nrm]
  refine tk (i := 3) (v := ?v704) rfl (by kernel_rfl) (.inl ⟨by rfl, ?y704⟩) hHeld (fun _ _ _ h => h) ?_
  case y704 => intro w hSw; (try dsimp only at hSw); go_simp; first | done | rfl
  refine tk (i := 4) (v := ?v705) rfl (by kernel_rfl) (.inl ⟨by rfl, ?y705⟩) hHeld (fun _ _ _ h => h) ?_
  case y705 => intro w hSw; (try dsimp only at hSw); go_simp; first | done | rfl
  refine tk (i := 5) (v := ?v706) rfl (by kernel_rfl) (.inl ⟨by rfl, ?y706⟩) hHeld (fun _ _ _ h => h) ?_
  case y706 => intro w hSw; (try dsimp only at hSw); go_simp; first | done | rfl
  try simp only [nrm]
  refine tk (i := 6) (v := ?v707) rfl (by kernel_rfl) (.inl ⟨by rfl, ?y707⟩) hHeld (fun _ _ _ h => h) ?_
  case y707 => intro w hSw; (try dsimp only at hSw); go_simp; first | done | rfl
  refine tk (i := 7) (v := ?v708) rfl (by kernel_rfl) (.inl ⟨by rfl, ?y708⟩) hHeld (fun _ _ _ h => h) ?_
  case y708 => intro w hSw; (try dsimp only at hSw); go_simp; first | done | rfl
  refine tk (i := 8) (v := ?v709) rfl (by kernel_rfl) (.inl ⟨by rfl, ?y709⟩) hHeld (fun _ _ _ h => h) ?_
  case y709 => intro w hSw; (try dsimp only at hSw); go_simp; first | done | rfl
  try simp only [nrm]
  refine tk (i := 9) (v := ?v710) rfl (by kernel_rfl) (.inl ⟨by rfl, ?y710⟩) hHeld (fun _ _ _ h => h) ?_
  case y710 => intro w hSw; (try dsimp only at hSw); go_simp; first | done | rfl
  refine tk (i := 11) (v := ?v711) rfl (by kernel_rfl) (.inl ⟨by rfl, ?y711⟩) hHeld (fun _ _ _ h => h) ?_
  case y711 => intro w hSw; (try dsimp only at hSw); go_simp; first | done | rfl
  refine tk (i := 12) (v := ?v712) rfl (by kernel_rfl) (.inl ⟨by rfl, ?y712⟩) hHeld (fun _ _ _ h => h) ?_
  case y712 => intro w hSw; (try dsimp only at hSw); go_simp; first | done | rfl
  try simp only [nrm]
  refine tk (i := 13) (v := ?v713) rfl (by kernel_rfl) (.inl ⟨by rfl, ?y713⟩) hHeld (fun _ _ _ h => h) ?_
  case y713 => intro w hSw; (try dsimp only at hSw); go_simp; first | done | rfl
  try simp only [nrm]
  refine wpAnyH_ready (rs := [10]) (by kernel_rfl) (by simp) ?_
  refine AllReadyH.cons (i := 10) (o := ?o714) ?i714 (fun K hK => ?_) AllReadyH.nil
  case i714 => exact rfl
  go_simp
  (with_reducible refine HK.mono ?_)
  rintro e w3 ⟨rfl, hq⟩
  go_wp2_with fail
  refine hK.out _ _ (hbs hq) (fun hHeld => ?_)
  clear hK K
  try simp only [nrm]
  refine tk (i := 14) (v := ?v715) rfl (by kernel_rfl) (.inl ⟨by rfl, ?y715⟩) hHeld (fun _ _ _ h => h) ?_
  case y715 => intro w hSw; (try dsimp only at hSw); go_simp; first | done | rfl
  refine tk (i := 15) (v := ?v716) rfl (by kernel_rfl) (.inl ⟨by rfl, ?y716⟩) hHeld (fun _ _ _ h => h) ?_
  case y716 => intro w hSw; (try dsimp only at hSw); go_simp; first | done | rfl
  refine tk (i := 16) (v := ?v717) rfl (by kernel_rfl) (.inl ⟨by rfl, ?y717⟩) hHeld (fun _ _ _ h => h) ?_
  case y717 => intro w hSw; (try dsimp only at hSw); go_simp; first | done | rfl
  try simp only [nrm]
  refine tk (i := 17) (v := ?v718) rfl (by kernel_rfl) (.inl ⟨by rfl, ?y718⟩) hHeld (fun _ _ _ h => h) ?_
  case y718 => intro w hSw; (try dsimp only at hSw); go_simp; first | done | rfl
  refine tk (i := 18) (v := ?v719) rfl (by kernel_rfl) (.inl ⟨by rfl, ?y719⟩) hHeld (fun _ _ _ h => h) ?_
  case y719 => intro w hSw; (try dsimp only at hSw); go_simp; first | done | rfl
  refine tk (i := 19) (v := ?v720) rfl (by kernel_rfl) (.inl ⟨by rfl, ?y720⟩) hHeld (fun _ _ _ h => h) ?_
  case y720 => intro w hSw; (try dsimp only at hSw); go_simp; first | done | rfl
  try simp only [nrm]
  refine tk (i := 20) (v := ?v721) rfl (by kernel_rfl) (.inl ⟨by rfl, ?y721⟩) hHeld (fun _ _ _ h => h) ?_
  case y721 => intro w hSw; (try dsimp only at hSw); go_simp; first | done | rfl
  try simp only [nrm]
  refine skq (i := 21) rfl (by kernel_rfl) (by rfl) hHeld (fun _ _ _ h => h) ?_
  refine skq (i := 22) rfl (by kernel_rfl) (by rfl) hHeld (fun _ _ _ h => h) ?_
  try simp only [nrm]
  refine tk (i := 23) (v := ?v724) rfl (by kernel_rfl) (.inl ⟨by rfl, ?y724⟩) hHeld (fun _ _ _ h => h) ?_
  case y724 => intro w hSw; (try dsimp only at hSw); go_simp; first | done | rfl
  refine tk (i := 24) (v := ?v725) rfl (by kernel_rfl) (.inl ⟨by rfl, ?y725⟩) hHeld (fun _ _ _ h => h) ?_
  case y725 => intro w hSw; (try dsimp only at hSw); go_simp; first | done | rfl
  try simp only [nrm]
  refine wpAnyH_done (by kernel_rfl) ?_ _
  have hq3 := grown_trans y2 hq
  replace x0 := x0.below (below_grown hq3) x0.lt
  replace hL2 : Lft w3 g m := Blk.below hL2 (below_grown hq3) (Blk.lt hL2)
  replace yy := grown_trans yy (grown_any hq3 _)
  replace hb := hb.trans ((below_grown hq3).mono hb.size)
  clear HK hq hq3 z0 q0 q1 q2 q3 q4 HS0 hbs y2
  have q0 := x0.cell (i := 0) rfl
  have q1 := x0.cell (i := 1) rfl
  have q2 := x0.cell (i := 2) rfl
  have q3 := x0.cell (i := 3) rfl
  have q4 := x0.cell (i := 4) rfl
  have hn3 := specNameOk a3 nn c3 name false w3 (h3.below hb) (by omega)
  have hn2 := specNameOk a2 nm c2 mod true w3 (h2.below hb) (by omega)
  by_cases e0 : nn = 0
  ·
   have hno : nameOk name false = false := nameOk_short (by rw [HNA.out]; omega)
   rw [e0] at q3 ⊢
   have he : Hid (spEx (.mk 5 n mod name ks) d arg left = false) := spEx_loc (loc_no (.inr (.inr (.inr (.inl ⟨by decide, hno⟩)))))
   go_wp2_with fail
   go_ret
   rw [he.out]
   exact ⟨rfl, yy, by simp⟩
  have e0' : (0 : Int) < (nn : Int) := by omega
  generalize hnb : nameOk name false = nb at *
  have HNB : Hid (nameOk name false = nb) := hnb
  clear hnb
  go_wp2_with fail
  refine hn3.mono ?_
  rintro e w3 ⟨rfl, rfl⟩
  clear hn3
  cases nb
  ·
   skip
   have he : Hid (spEx (.mk 5 n mod name ks) d arg left = false) := spEx_loc (loc_no (.inr (.inr (.inr (.inl ⟨by decide, HNB.out⟩)))))
   go_wp2_with fail
   go_ret
   rw [he.out]
   exact ⟨rfl, yy, by simp⟩
  by_cases em : nm = 0
  rotate_left
  ·
   have em' : (0 : Int) < (nm : Int) := by omega
   have he : Hid (spEx (.mk 5 n mod name ks) d arg left = false) := spEx_loc (loc_no (.inr (.inr (.inr (.inr (.inr (.inl ⟨by rw [HMO.out]; exact em, by decide⟩)))))))
   go_wp2_with fail
   go_ret
   rw [he.out]
   exact ⟨rfl, yy, by simp⟩
  have em' : ¬ (0 : Int) < (nm : Int) := by omega
  have HEM : Hid (mod.length = 0) := HMO.out.trans em
  clear em
  by_cases n0 : n = 0
  rotate_left
  ·
   have n0' : (n != 0) = true := by simpa using n0
   have he : Hid (spEx (.mk 5 n mod name ks) d arg left = false) := spEx_loc (loc_no (.inr (.inr (.inl (by simp [inB, exLow, exHigh]; omega)))))
   go_wp2_with fail
   go_ret
   rw [he.out]
   exact ⟨rfl, yy, by simp⟩
  have n0' : (n != 0) = false := by simpa using n0
  have HNN : Hid (inB n (exLow 5) (exHigh 5) = true) := by show _ = _; rw [n0]; decide
  clear n0
  have HE : Hid (spEx (.mk 5 n mod name ks) d arg left = spExs ks (d + 1) false m) := by
   show _ = _
   rw [spEx_rest (loc_yes HI4.out.1 HI4.out.2 HNN.out (by rw [show exNamed 5 = true from by decide]; exact HNB.out) (by rw [decide_eq_true HEM.out]; rfl)) (.inl (by decide)) (by have := HMM.out; omega) (by omega), HMM.out]
   rfl
  have HD : Hid (ndEx (.mk 5 n mod name ks) = 1 + ndExs ks) := by show _ = _; simp [ndEx]
  have hz : ks.length = 0 := kids_zero HI4.out.2 (by decide)
  have hks : ks = [] := List.eq_nil_of_length_eq_zero hz
  have HT : Hid (spExs ks (d + 1) false m = true) := by show _ = _; rw [hks]; exact spExs_nil (by omega)
  have HD0 : Hid (ndExs ks = 0) := by show _ = _; rw [hks]; rfl
  subst hks
  simp only [List.length_nil] at q4 ⊢
  clear hz x0 hkl hk9
  go_wp2_with fail
  refine wp_loop_rounds 1 ?_
  rw [rounds_succ]
  go_wp2_with fail
  go_ret
  rw [HE.out, HT.out]
  exact ⟨rfl, yy, fun _ => by rw [HD.out, HD0.out, show left - ((1 + 0 : Nat) : Int) = m by have := HMM.out; omega]; exact hL2⟩
 ·
  refine wp_region_held_drew (S := fun wx => (wx.cell? ⟨g, 0, none⟩ = some (.int .i64 m) ∧ wx.cell? ⟨gx, 0, none⟩ = some (.int .i64 6) ∧ wx.cell? ⟨gx, 1, none⟩ = some (.int .i64 n) ∧ wx.cell? ⟨gx, 2, none⟩ = some (.slice a2 nm c2) ∧ wx.cell? ⟨gx, 3, none⟩ = some (.slice a3 nn c3) ∧ wx.cell? ⟨gx, 4, none⟩ = some (.slice a4 ks.length c4))) (by kernel_rfl) HS0 (fun hHeld => ?_)
  refine tk (i := 0) (v := ?v726) rfl (by kernel_rfl) (.inl ⟨by rfl, ?y726⟩) hHeld (fun _ _ _ h => h) ?_
  case y726 => intro w hSw; (try dsimp only at hSw); go_simp; first | done | rfl
  refine tk (i := 1) (v := ?v727) rfl (by kernel_rfl) (.inl ⟨by rfl, ?y727⟩) hHeld (fun _ _ _ h => h) ?_
  case y727 => intro w hSw; (try dsimp only at hSw); go_simp; first | done | rfl
  refine tk (i := 2) (v := ?v728) rfl (by kernel_rfl) (.inl ⟨by rfl, ?y728⟩) hHeld (fun _ _ _ h => h) ?_
  case y728 => intro w hSw; (try dsimp only at hSw); go_simp; first | done | rfl
  try simp only [nrm]
  refine tk (i := 3) (v := ?v729) rfl (by kernel_rfl) (.inl ⟨by rfl, ?y729⟩) hHeld (fun _ _ _ h => h) ?_
  case y729 => intro w hSw; (try dsimp only at hSw); go_simp; first | done | rfl
  refine tk (i := 4) (v := ?v730) rfl (by kernel_rfl) (.inl ⟨by rfl, ?y730⟩) hHeld (fun _ _ _ h => h) ?_
  case y730 => intro w hSw; (try dsimp only at hSw); go_simp; first | done | rfl
  refine tk (i := 5) (v := ?v731) rfl (by kernel_rfl) (.inl ⟨by rfl, ?y731⟩) hHeld (fun _ _ _ h => h) ?_
  case y731 => intro w hSw; (try dsimp only at hSw); go_simp; first | done | rfl
  try simp only [nrm]
  refine tk (i := 6) (v := ?v732) rfl (by kernel_rfl) (.inl ⟨by rfl, ?y732⟩) hHeld (fun _ _ _ h => h) ?_
  case y732 => intro w hSw; (try dsimp only at hSw); go_simp; first | done | rfl
  refine tk (i := 7) (v := ?v733) rfl (by kernel_rfl) (.inl ⟨by rfl, ?y733⟩) hHeld (fun _ _ _ h => h) ?_
  case y733 => intro w hSw; (try dsimp only at hSw); go_simp; first | done | rfl
  refine tk (i := 8) (v := ?v734) rfl (by kernel_rfl) (.inl ⟨by rfl, ?y734⟩) hHeld (fun _ _ _ h => h) ?_
  case y734 => intro w hSw; (try dsimp only at hSw); go_simp; first | done | rfl
  try simp only [nrm]
  refine tk (i := 9) (v := ?v735) rfl (by kernel_rfl) (.inl ⟨by rfl, ?y735⟩) hHeld (fun _ _ _ h => h) ?_
  case y735 => intro w hSw; (try dsimp only at hSw); go_simp; first | done | rfl
  refine tk (i := 11) (v := ?v736) rfl (by kernel_rfl) (.inl ⟨by rfl, ?y736⟩) hHeld (fun _ _ _ h => h) ?_
  case y736 => intro w hSw; (try dsimp only at hSw); go_simp; first | done | rfl
  refine tk (i := 12) (v := ?v737) rfl (by kernel_rfl) (.inl ⟨by rfl, ?y737⟩) hHeld (fun _ _ _ h => h) ?_
  case y737 => intro w hSw; (try dsimp only at hSw); go_simp; first | done | rfl
  try simp only [nrm]
  refine tk (i := 13) (v := ?v738) rfl (by kernel_rfl) (.inl ⟨by rfl, ?y738⟩) hHeld (fun _ _ _ h => h) ?_
  case y738 => intro w hSw; (try dsimp only at hSw); go_simp; first | done | rfl
  try simp only [nrm]
  refine wpAnyH_ready (rs := [10]) (by kernel_rfl) (by simp) ?_
  refine AllReadyH.cons (i := 10) (o := ?o739) ?i739 (fun K hK => ?_) AllReadyH.nil
  case i739 => exact rfl
  go_simp
  (with_reducible refine HK.mono ?_)
  rintro e w3 ⟨rfl, hq⟩
  go_wp2_with fail
  refine hK.out _ _ (hbs hq) (fun hHeld => ?_)
  clear hK K
  try simp only [nrm]
  refine tk (i := 14) (v := ?v740) rfl (by kernel_rfl) (.inl ⟨by rfl, ?y740⟩) hHeld (fun _ _ _ h => h) ?_
  case y740 => intro w hSw; (try dsimp only at hSw); go_simp; first | done | rfl
  refine tk (i := 15) (v := ?v741) rfl (by kernel_rfl) (.inl ⟨by rfl, ?y741⟩) hHeld (fun _ _ _ h => h) ?_
  case y741 => intro w hSw; (try dsimp only at hSw); go_simp; first | done | rfl
  refine tk (i := 16) (v := ?v742) rfl (by kernel_rfl) (.inl ⟨by rfl, ?y742⟩) hHeld (fun _ _ _ h => h) ?_
  case y742 => intro w hSw; (try dsimp only at hSw); go_simp; first | done | rfl
  try simp only [nrm]
  refine tk (i := 17) (v := ?v743) rfl (by kernel_rfl) (.inl ⟨by rfl, ?y743⟩) hHeld (fun _ _ _ h => h) ?_
  case y743 => intro w hSw; (try dsimp only at hSw); go_simp; first | done | rfl
  refine tk (i := 18) (v := ?v744) rfl (by kernel_rfl) (.inl ⟨by rfl, ?y744⟩) hHeld (fun _ _ _ h => h) ?_
  case y744 => intro w hSw; (try dsimp only at hSw); go_simp; first | done | rfl
  refine tk (i := 19) (v := ?v745) rfl (by kernel_rfl) (.inl ⟨by rfl, ?y745⟩) hHeld (fun _ _ _ h => h) ?_
  case y745 => intro w hSw; (try dsimp only at hSw); go_simp; first | done | rfl
  try simp only [nrm]
  refine tk (i := 20) (v := ?v746) rfl (by kernel_rfl) (.inl ⟨by rfl, ?y746⟩) hHeld (fun _ _ _ h => h) ?_
  case y746 => intro w hSw; (try dsimp only at hSw); go_simp; first | done | rfl
  try simp only [nrm]
  refine skq (i := 21) rfl (by kernel_rfl) (by rfl) hHeld (fun _ _ _ h => h) ?_
  refine skq (i := 22) rfl (by kernel_rfl) (by rfl) hHeld (fun _ _ _ h => h) ?_
  try simp only [nrm]
  refine tk (i := 23) (v := ?v749) rfl (by kernel_rfl) (.inl ⟨by rfl, ?y749⟩) hHeld (fun _ _ _ h => h) ?_
  case y749 => intro w hSw; (try dsimp only at hSw); go_simp; first | done | rfl
  refine tk (i := 24) (v := ?v750) rfl (by kernel_rfl) (.inl ⟨by rfl, ?y750⟩) hHeld (fun _ _ _ h => h) ?_
  case y750 => intro w hSw; (try dsimp only at hSw); go_simp; first | done | rfl
  try simp only [nrm]
  refine wpAnyH_done (by kernel_rfl) ?_ _
  have hq3 := grown_trans y2 hq
  replace x0 := x0.below (below_grown hq3) x0.lt
  replace hL2 : Lft w3 g m := Blk.below hL2 (below_grown hq3) (Blk.lt hL2)
  replace yy := grown_trans yy (grown_any hq3 _)
  replace hb := hb.trans ((below_grown hq3).mono hb.size)
  clear HK hq hq3 z0 q0 q1 q2 q3 q4 HS0 hbs y2
  have q0 := x0.cell (i := 0) rfl
  have q1 := x0.cell (i := 1) rfl
  have q2 := x0.cell (i := 2) rfl
  have q3 := x0.cell (i := 3) rfl
  have q4 := x0.cell (i := 4) rfl
  have hn3 := specNameOk a3 nn c3 name false w3 (h3.below hb) (by omega)
  have hn2 := specNameOk a2 nm c2 mod true w3 (h2.below hb) (by omega)
  by_cases e0 : nn = 0
  ·
   have hno : nameOk name false = false := nameOk_short (by rw [HNA.out]; omega)
   rw [e0] at q3 ⊢
   have he : Hid (spEx (.mk 6 n mod name ks) d arg left = false) := spEx_loc (loc_no (.inr (.inr (.inr (.inl ⟨by decide, hno⟩)))))
   go_wp2_with fail
   go_ret
   rw [he.out]
   exact ⟨rfl, yy, by simp⟩
  have e0' : (0 : Int) < (nn : Int) := by omega
  generalize hnb : nameOk name false = nb at *
  have HNB : Hid (nameOk name false = nb) := hnb
  clear hnb
  go_wp2_with fail
  refine hn3.mono ?_
  rintro e w3 ⟨rfl, rfl⟩
  clear hn3
  cases nb
  ·
   skip
   have he : Hid (spEx (.mk 6 n mod name ks) d arg left = false) := spEx_loc (loc_no (.inr (.inr (.inr (.inl ⟨by decide, HNB.out⟩)))))
   go_wp2_with fail
   go_ret
   rw [he.out]
   exact ⟨rfl, yy, by simp⟩
  by_cases em : nm = 0
  ·
   have em' : ¬ (0 : Int) < (nm : Int) := by omega
   have HEM : Hid (mod.length = 0) := HMO.out.trans em
   clear em
   by_cases n0 : n = 0
   rotate_left
   ·
    have n0' : (n != 0) = true := by simpa using n0
    have he : Hid (spEx (.mk 6 n mod name ks) d arg left = false) := spEx_loc (loc_no (.inr (.inr (.inl (by simp [inB, exLow, exHigh]; omega)))))
    go_wp2_with fail
    go_ret
    rw [he.out]
    exact ⟨rfl, yy, by simp⟩
   have n0' : (n != 0) = false := by simpa using n0
   have HNN : Hid (inB n (exLow 6) (exHigh 6) = true) := by show _ = _; rw [n0]; decide
   clear n0
   have HE : Hid (spEx (.mk 6 n mod name ks) d arg left = spExs ks (d + 1) true m) := by
    show _ = _
    rw [spEx_rest (loc_yes HI4.out.1 HI4.out.2 HNN.out (by rw [show exNamed 6 = true from by decide]; exact HNB.out) (by rw [decide_eq_true HEM.out]; rfl)) (.inl (by decide)) (by have := HMM.out; omega) (by omega), HMM.out]
    rfl
   have HD : Hid (ndEx (.mk 6 n mod name ks) = 1 + ndExs ks) := by show _ = _; simp [ndEx]
   have HX0 : Hid _ := x0
   have HY : Hid (w.grownBy w3 (some g)) := yy
   have HB3 : Hid (Below w0.heap.size w0 w3) := hb
   have HLF : Hid (Lft w3 g (m - (ndExs (ks.take 0) : Int))) := by show Lft _ _ _; simpa [ndExs] using hL2
   have HRW : Hid (LRow w0 a4 c4 5 (exs ks)) := h4
   have HSK : Hid (rowsLen (exs ks) ≤ 1048576) := hsk
   have HSS : Hid (∀ x ∈ ks, SpEx x) := S
   have hm0 : 0 ≤ m := by omega
   have hm1 : m ≤ 250 := by have := HMM.out; omega
   have hd2 : d + 1 ≤ 17 := by omega
   have hd3 : 0 ≤ d + 1 := by omega
   go_wp2_with fail
   clear q0 q1 q2 q3 q4 x0 yy hb hL2 h4
   go_loopw [10] (fun i wr => ∃ j : Nat, j ≤ ks.length ∧ i = .int .i64 j ∧ Hid (w3.grownBy wr (some g)) ∧ Hid (Lft wr g (m - (ndExs (ks.take j) : Int))) ∧ Hid ((ndExs (ks.take j) : Int) ≤ m) ∧ Hid (∀ i x, i < j → ks[i]? = some x → spEx x (d + 1) true (m - (ndExs (ks.take i) : Int)) = true)) (fun i _ => ks.length - (intOf i).toNat)
   case atStart => exact ⟨0, Nat.zero_le _, rfl, grown_refl _ _, HLF, by show (_ : Int) ≤ _; simp [ndExs]; omega, by show ∀ _ _, _; omega⟩
   case round =>
    obtain ⟨j, hj, rfl, hgr, hLj, hnj, hyes⟩ := hrel
    clear HLF
    have x0 := Blk.grown HX0.out hgr.out hgx
    have q0 := x0.cell (i := 0) rfl
    have q4 := x0.cell (i := 4) rfl
    have hb := below_at HB3.out hgr.out hg
    by_cases hlt : j < ks.length
    ·
     obtain ⟨b4, o4, rfl⟩ := LRow.addr HRW.out (by rw [hkl]; omega)
     obtain ⟨x, hx⟩ : ∃ x, ks[j]? = some x := ⟨ks[j], List.getElem?_eq_getElem _⟩
     have hxj : (exs ks)[j]? = some x.fl := by rw [exs_map, List.getElem?_map, hx]; rfl
     obtain ⟨us, hvs, hcl⟩ := (LRow.el HRW.out hxj).vals
     obtain ⟨u0, u1, u2, u3, u4, rfl⟩ := five_of (hvs.len.trans (exs_len x))
     have hc0 : w0.cell? ⟨b4, o4 + j * 5, none⟩ = some u0 := hcl 0 _ rfl
     replace hcl : ∀ i v, _ → _ := fun i v hv => cell_on (hcl i v hv) hb
     have t0 : wr.cell? ⟨b4, o4 + j * 5, none⟩ = some u0 := hcl 0 _ rfl
     have t1 : wr.cell? ⟨b4, o4 + j * 5 + 1, none⟩ = some u1 := hcl 1 _ rfl
     have t2 : wr.cell? ⟨b4, o4 + j * 5 + 2, none⟩ = some u2 := hcl 2 _ rfl
     have t3 : wr.cell? ⟨b4, o4 + j * 5 + 3, none⟩ = some u3 := hcl 3 _ rfl
     have t4 : wr.cell? ⟨b4, o4 + j * 5 + 4, none⟩ = some u4 := hcl 4 _ rfl
     have hmem := List.mem_of_getElem? hx
     have hsx : recLen x.fl ≤ 1048576 := Nat.le_trans (recLen_le (List.mem_of_getElem? hxj)) HSK.out
     have hbd : Below w0.heap.size w0 wr.drew := hb.drew
     have hLd : Lft wr.drew g (m - (ndExs (ks.take j) : Int)) := hLj.out
     have HC := HSS.out x hmem w0 wr.drew [u0, u1, u2, u3, u4] g (m - (ndExs (ks.take j) : Int)) (d + 1) true hvs hbd hg hLd (by have := hnj.out; omega) (by omega) hd3 hd2 hsx
     simp only [agg] at HC
     have HJ : Hid (ks[j]? = some x) := hx
     have HNX : Hid (ndExs (ks.take (j + 1)) = ndExs (ks.take j) + ndEx x) := ndExs_next hx
     clear hcl hx hxj hmem hsx hvs hbd hLd
     generalize hsp : spEx x (d + 1) true (m - (ndExs (ks.take j) : Int)) = rr at *
     have HSP : Hid (spEx x (d + 1) true (m - (ndExs (ks.take j) : Int)) = rr) := hsp
     clear hsp
     have hb4 : b4 ≠ g := by
      have := World.block_lt_of_cell? w0 _ hc0
      simp only at this
      omega
     have HS0 : (wr.drew.cell? ⟨gx, 0, none⟩ = some (.int .i64 6) ∧ wr.drew.cell? ⟨gx, 4, none⟩ = some (.slice (some ⟨b4, o4, none⟩) ks.length c4) ∧ wr.drew.cell? ⟨b4, o4 + j * 5, none⟩ = some u0 ∧ wr.drew.cell? ⟨b4, o4 + j * 5 + 1, none⟩ = some u1 ∧ wr.drew.cell? ⟨b4, o4 + j * 5 + 2, none⟩ = some u2 ∧ wr.drew.cell? ⟨b4, o4 + j * 5 + 3, none⟩ = some u3 ∧ wr.drew.cell? ⟨b4, o4 + j * 5 + 4, none⟩ = some u4) := ⟨q0, q4, t0, t1, t2, t3, t4⟩
     have hbs : ∀ {wl : World}, wr.drew.grownBy wl (some g) → (wl.cell? ⟨gx, 0, none⟩ = some (.int .i64 6) ∧ wl.cell? ⟨gx, 4, none⟩ = some (.slice (some ⟨b4, o4, none⟩) ks.length c4) ∧ wl.cell? ⟨b4, o4 + j * 5, none⟩ = some u0 ∧ wl.cell? ⟨b4, o4 + j * 5 + 1, none⟩ = some u1 ∧ wl.cell? ⟨b4, o4 + j * 5 + 2, none⟩ = some u2 ∧ wl.cell? ⟨b4, o4 + j * 5 + 3, none⟩ = some u3 ∧ wl.cell? ⟨b4, o4 + j * 5 + 4, none⟩ = some u4) := fun hq => ⟨cell_at HS0.1 hq hgx, cell_at HS0.2.1 hq hgx, cell_at HS0.2.2.1 hq hb4, cell_at HS0.2.2.2.1 hq hb4, cell_at HS0.2.2.2.2.1 hq hb4, cell_at HS0.2.2.2.2.2.1 hq hb4, cell_at HS0.2.2.2.2.2.2 hq hb4⟩
     have z5 : (0 : Int) ≤ (j : Int) := by omega
     have z7 : IntKind.i64.wrap (d + 1) = d + 1 := by rw [IntKind.wrap_i64]; omega
     have z6 : (j : Int) < (ks.length : Int) := by omega
     go_upto_region 21 with fail
     go_region_held3 (fun wx => (wx.cell? ⟨gx, 0, none⟩ = some (.int .i64 6) ∧ wx.cell? ⟨gx, 4, none⟩ = some (.slice (some ⟨b4, o4, none⟩) ks.length c4) ∧ wx.cell? ⟨b4, o4 + j * 5, none⟩ = some u0 ∧ wx.cell? ⟨b4, o4 + j * 5 + 1, none⟩ = some u1 ∧ wx.cell? ⟨b4, o4 + j * 5 + 2, none⟩ = some u2 ∧ wx.cell? ⟨b4, o4 + j * 5 + 3, none⟩ = some u3 ∧ wx.cell? ⟨b4, o4 + j * 5 + 4, none⟩ = some u4)) (first | exact HS0 | exact HSl) (first
      | (go_at_call 198; (with_reducible refine HC.mono ?_); rintro e w4 ⟨rfl, hg4, hL4⟩; have HSl := hbs hg4))
     clear HSl hbs HS0
     have HG4 : Hid (w3.grownBy w4 (some g)) := grown_trans hgr.out (grown_trans (show wr.grownBy wr.drew (some g) from ⟨rfl, rfl, rfl, Nat.le_refl _, fun _ _ _ => rfl⟩) hg4)
     have HL4 : Hid (rr = true → Lft w4 g (m - (ndExs (ks.take j) : Int) - (ndEx x : Int))) := hL4
     clear HC t0 t1 t2 t3 t4 q0 q4 x0 hb hg4 hL4
     cases rr
     ·
      have he : Hid (spEx (.mk 6 n mod name ks) d arg left = false) := by show _ = _; rw [HE.out]; exact spExs_no HJ.out HSP.out
      have hyy := grown_trans HY.out HG4.out
      go_wp2_with fail
      go_ret
      rw [he.out]
      exact ⟨rfl, hyy, by simp⟩
     ·
      have hle := spEx_le HSP.out
      have HL5 : Hid (Lft w4 g (m - (ndExs (ks.take (j + 1)) : Int))) := by
       have := HL4.out rfl
       rw [show m - (ndExs (ks.take j) : Int) - (ndEx x : Int) = m - (ndExs (ks.take (j + 1)) : Int) by rw [HNX.out]; omega] at this
       exact this
      go_wp2_with fail
      go_roundw
      case rel => exact ⟨j + 1, by omega, by go_num, HG4, HL5, (by show (_ : Int) ≤ _; rw [HNX.out]; omega), (show ∀ i x, i < j + 1 → _ from fun i y hi hy => (Nat.lt_or_ge i j).elim (fun h => hyes.out i y h hy) (fun h => by
       obtain rfl : i = j := by omega
       rw [HJ.out] at hy
       cases hy
       exact HSP.out))⟩
      case measure => simp [intOf]; omega
    ·
     have : j = ks.length := by omega
     subst this
     have he : Hid (spEx (.mk 6 n mod name ks) d arg left = true) := by
      show _ = _
      rw [HE.out]
      exact spExs_yes (fun i y hy => hyes.out i y (List.getElem?_eq_some_iff.1 hy).1 hy) hm0
     have hyy := grown_trans HY.out hgr.out
     have hLf := hLj.out
     rw [List.take_length] at hLf
     go_wp2_with fail
     go_ret
     rw [he.out]
     exact ⟨rfl, hyy, fun _ => by rw [HD.out, show left - ((1 + ndExs ks : Nat) : Int) = m - (ndExs ks : Int) by have := HMM.out; omega]; exact hLf⟩
  ·
   have em' : (0 : Int) < (nm : Int) := by omega
   generalize hmb : nameOk mod true = mb at *
   have HMB : Hid (nameOk mod true = mb) := hmb
   clear hmb
   go_wp2_with fail
   refine hn2.mono ?_
   rintro e w3 ⟨rfl, rfl⟩
   clear hn2
   cases mb
   ·
    skip
    have he : Hid (spEx (.mk 6 n mod name ks) d arg left = false) := spEx_loc (loc_no (.inr (.inr (.inr (.inr (.inr (.inr ⟨by rw [HMO.out]; exact em, HMB.out⟩)))))))
    go_wp2_with fail
    go_ret
    rw [he.out]
    exact ⟨rfl, yy, by simp⟩
   by_cases n0 : n = 0
   rotate_left
   ·
    have n0' : (n != 0) = true := by simpa using n0
    have he : Hid (spEx (.mk 6 n mod name ks) d arg left = false) := spEx_loc (loc_no (.inr (.inr (.inl (by simp [inB, exLow, exHigh]; omega)))))
    go_wp2_with fail
    go_ret
    rw [he.out]
    exact ⟨rfl, yy, by simp⟩
   have n0' : (n != 0) = false := by simpa using n0
   have HNN : Hid (inB n (exLow 6) (exHigh 6) = true) := by show _ = _; rw [n0]; decide
   clear n0
   have HE : Hid (spEx (.mk 6 n mod name ks) d arg left = spExs ks (d + 1) true m) := by
    show _ = _
    rw [spEx_rest (loc_yes HI4.out.1 HI4.out.2 HNN.out (by rw [show exNamed 6 = true from by decide]; exact HNB.out) (by rw [HMB.out]; simp)) (.inl (by decide)) (by have := HMM.out; omega) (by omega), HMM.out]
    rfl
   have HD : Hid (ndEx (.mk 6 n mod name ks) = 1 + ndExs ks) := by show _ = _; simp [ndEx]
   have HX0 : Hid _ := x0
   have HY : Hid (w.grownBy w3 (some g)) := yy
   have HB3 : Hid (Below w0.heap.size w0 w3) := hb
   have HLF : Hid (Lft w3 g (m - (ndExs (ks.take 0) : Int))) := by show Lft _ _ _; simpa [ndExs] using hL2
   have HRW : Hid (LRow w0 a4 c4 5 (exs ks)) := h4
   have HSK : Hid (rowsLen (exs ks) ≤ 1048576) := hsk
   have HSS : Hid (∀ x ∈ ks, SpEx x) := S
   have hm0 : 0 ≤ m := by omega
   have hm1 : m ≤ 250 := by have := HMM.out; omega
   have hd2 : d + 1 ≤ 17 := by omega
   have hd3 : 0 ≤ d + 1 := by omega
   go_wp2_with fail
   clear q0 q1 q2 q3 q4 x0 yy hb hL2 h4
   go_loopw [10] (fun i wr => ∃ j : Nat, j ≤ ks.length ∧ i = .int .i64 j ∧ Hid (w3.grownBy wr (some g)) ∧ Hid (Lft wr g (m - (ndExs (ks.take j) : Int))) ∧ Hid ((ndExs (ks.take j) : Int) ≤ m) ∧ Hid (∀ i x, i < j → ks[i]? = some x → spEx x (d + 1) true (m - (ndExs (ks.take i) : Int)) = true)) (fun i _ => ks.length - (intOf i).toNat)
   case atStart => exact ⟨0, Nat.zero_le _, rfl, grown_refl _ _, HLF, by show (_ : Int) ≤ _; simp [ndExs]; omega, by show ∀ _ _, _; omega⟩
   case round =>
    obtain ⟨j, hj, rfl, hgr, hLj, hnj, hyes⟩ := hrel
    clear HLF
    have x0 := Blk.grown HX0.out hgr.out hgx
    have q0 := x0.cell (i := 0) rfl
    have q4 := x0.cell (i := 4) rfl
    have hb := below_at HB3.out hgr.out hg
    by_cases hlt : j < ks.length
    ·
     obtain ⟨b4, o4, rfl⟩ := LRow.addr HRW.out (by rw [hkl]; omega)
     obtain ⟨x, hx⟩ : ∃ x, ks[j]? = some x := ⟨ks[j], List.getElem?_eq_getElem _⟩
     have hxj : (exs ks)[j]? = some x.fl := by rw [exs_map, List.getElem?_map, hx]; rfl
     obtain ⟨us, hvs, hcl⟩ := (LRow.el HRW.out hxj).vals
     obtain ⟨u0, u1, u2, u3, u4, rfl⟩ := five_of (hvs.len.trans (exs_len x))
     have hc0 : w0.cell? ⟨b4, o4 + j * 5, none⟩ = some u0 := hcl 0 _ rfl
     replace hcl : ∀ i v, _ → _ := fun i v hv => cell_on (hcl i v hv) hb
     have t0 : wr.cell? ⟨b4, o4 + j * 5, none⟩ = some u0 := hcl 0 _ rfl
     have t1 : wr.cell? ⟨b4, o4 + j * 5 + 1, none⟩ = some u1 := hcl 1 _ rfl
     have t2 : wr.cell? ⟨b4, o4 + j * 5 + 2, none⟩ = some u2 := hcl 2 _ rfl
     have t3 : wr.cell? ⟨b4, o4 + j * 5 + 3, none⟩ = some u3 := hcl 3 _ rfl
     have t4 : wr.cell? ⟨b4, o4 + j * 5 + 4, none⟩ = some u4 := hcl 4 _ rfl
     have hmem := List.mem_of_getElem? hx
     have hsx : recLen x.fl ≤ 1048576 := Nat.le_trans (recLen_le (List.mem_of_getElem? hxj)) HSK.out
     have hbd : Below w0.heap.size w0 wr.drew := hb.drew
     have hLd : Lft wr.drew g (m - (ndExs (ks.take j) : Int)) := hLj.out
     have HC := HSS.out x hmem w0 wr.drew [u0, u1, u2, u3, u4] g (m - (ndExs (ks.take j) : Int)) (d + 1) true hvs hbd hg hLd (by have := hnj.out; omega) (by omega) hd3 hd2 hsx
     simp only [agg] at HC
     have HJ : Hid (ks[j]? = some x) := hx
     have HNX : Hid (ndExs (ks.take (j + 1)) = ndExs (ks.take j) + ndEx x) := ndExs_next hx
     clear hcl hx hxj hmem hsx hvs hbd hLd
     generalize hsp : spEx x (d + 1) true (m - (ndExs (ks.take j) : Int)) = rr at *
     have HSP : Hid (spEx x (d + 1) true (m - (ndExs (ks.take j) : Int)) = rr) := hsp
     clear hsp
     have hb4 : b4 ≠ g := by
      have := World.block_lt_of_cell? w0 _ hc0
      simp only at this
      omega
     have HS0 : (wr.drew.cell? ⟨gx, 0, none⟩ = some (.int .i64 6) ∧ wr.drew.cell? ⟨gx, 4, none⟩ = some (.slice (some ⟨b4, o4, none⟩) ks.length c4) ∧ wr.drew.cell? ⟨b4, o4 + j * 5, none⟩ = some u0 ∧ wr.drew.cell? ⟨b4, o4 + j * 5 + 1, none⟩ = some u1 ∧ wr.drew.cell? ⟨b4, o4 + j * 5 + 2, none⟩ = some u2 ∧ wr.drew.cell? ⟨b4, o4 + j * 5 + 3, none⟩ = some u3 ∧ wr.drew.cell? ⟨b4, o4 + j * 5 + 4, none⟩ = some u4) := ⟨q0, q4, t0, t1, t2, t3, t4⟩
     have hbs : ∀ {wl : World}, wr.drew.grownBy wl (some g) → (wl.cell? ⟨gx, 0, none⟩ = some (.int .i64 6) ∧ wl.cell? ⟨gx, 4, none⟩ = some (.slice (some ⟨b4, o4, none⟩) ks.length c4) ∧ wl.cell? ⟨b4, o4 + j * 5, none⟩ = some u0 ∧ wl.cell? ⟨b4, o4 + j * 5 + 1, none⟩ = some u1 ∧ wl.cell? ⟨b4, o4 + j * 5 + 2, none⟩ = some u2 ∧ wl.cell? ⟨b4, o4 + j * 5 + 3, none⟩ = some u3 ∧ wl.cell? ⟨b4, o4 + j * 5 + 4, none⟩ = some u4) := fun hq => ⟨cell_at HS0.1 hq hgx, cell_at HS0.2.1 hq hgx, cell_at HS0.2.2.1 hq hb4, cell_at HS0.2.2.2.1 hq hb4, cell_at HS0.2.2.2.2.1 hq hb4, cell_at HS0.2.2.2.2.2.1 hq hb4, cell_at HS0.2.2.2.2.2.2 hq hb4⟩
     have z5 : (0 : Int) ≤ (j : Int) := by omega
     have z7 : IntKind.i64.wrap (d + 1) = d + 1 := by rw [IntKind.wrap_i64]; omega
     have z6 : (j : Int) < (ks.length : Int) := by omega
     go_upto_region 21 with fail
     go_region_held3 (fun wx => (wx.cell? ⟨gx, 0, none⟩ = some (.int .i64 6) ∧ wx.cell? ⟨gx, 4, none⟩ = some (.slice (some ⟨b4, o4, none⟩) ks.length c4) ∧ wx.cell? ⟨b4, o4 + j * 5, none⟩ = some u0 ∧ wx.cell? ⟨b4, o4 + j * 5 + 1, none⟩ = some u1 ∧ wx.cell? ⟨b4, o4 + j * 5 + 2, none⟩ = some u2 ∧ wx.cell? ⟨b4, o4 + j * 5 + 3, none⟩ = some u3 ∧ wx.cell? ⟨b4, o4 + j * 5 + 4, none⟩ = some u4)) (first | exact HS0 | exact HSl) (first
      | (go_at_call 198; (with_reducible refine HC.mono ?_); rintro e w4 ⟨rfl, hg4, hL4⟩; have HSl := hbs hg4))
     clear HSl hbs HS0
     have HG4 : Hid (w3.grownBy w4 (some g)) := grown_trans hgr.out (grown_trans (show wr.grownBy wr.drew (some g) from ⟨rfl, rfl, rfl, Nat.le_refl _, fun _ _ _ => rfl⟩) hg4)
     have HL4 : Hid (rr = true → Lft w4 g (m - (ndExs (ks.take j) : Int) - (ndEx x : Int))) := hL4
     clear HC t0 t1 t2 t3 t4 q0 q4 x0 hb hg4 hL4
     cases rr
     ·
      have he : Hid (spEx (.mk 6 n mod name ks) d arg left = false) := by show _ = _; rw [HE.out]; exact spExs_no HJ.out HSP.out
      have hyy := grown_trans HY.out HG4.out
      go_wp2_with fail
      go_ret
      rw [he.out]
      exact ⟨rfl, hyy, by simp⟩
     ·
      have hle := spEx_le HSP.out
      have HL5 : Hid (Lft w4 g (m - (ndExs (ks.take (j + 1)) : Int))) := by
       have := HL4.out rfl
       rw [show m - (ndExs (ks.take j) : Int) - (ndEx x : Int) = m - (ndExs (ks.take (j + 1)) : Int) by rw [HNX.out]; omega] at this
       exact this
      go_wp2_with fail
      go_roundw
      case rel => exact ⟨j + 1, by omega, by go_num, HG4, HL5, (by show (_ : Int) ≤ _; rw [HNX.out]; omega), (show ∀ i x, i < j + 1 → _ from fun i y hi hy => (Nat.lt_or_ge i j).elim (fun h => hyes.out i y h hy) (fun h => by
       obtain rfl : i = j := by omega
       rw [HJ.out] at hy
       cases hy
       exact HSP.out))⟩
      case measure => simp [intOf]; omega
    ·
     have : j = ks.length := by omega
     subst this
     have he : Hid (spEx (.mk 6 n mod name ks) d arg left = true) := by
      show _ = _
      rw [HE.out]
      exact spExs_yes (fun i y hy => hyes.out i y (List.getElem?_eq_some_iff.1 hy).1 hy) hm0
     have hyy := grown_trans HY.out hgr.out
     have hLf := hLj.out
     rw [List.take_length] at hLf
     go_wp2_with fail
     go_ret
     rw [he.out]
     exact ⟨rfl, hyy, fun _ => by rw [HD.out, show left - ((1 + ndExs ks : Nat) : Int) = m - (ndExs ks : Int) by have := HMM.out; omega]; exact hLf⟩
 ·
  cases arg
  ·
   have he : Hid (spEx (.mk 7 n mod name ks) d false left = false) := spEx_arr
   clear HI4
   refine wp_region_held_drew (S := fun wx => (wx.cell? ⟨g, 0, none⟩ = some (.int .i64 m) ∧ wx.cell? ⟨gx, 0, none⟩ = some (.int .i64 7) ∧ wx.cell? ⟨gx, 1, none⟩ = some (.int .i64 n) ∧ wx.cell? ⟨gx, 2, none⟩ = some (.slice a2 nm c2) ∧ wx.cell? ⟨gx, 3, none⟩ = some (.slice a3 nn c3) ∧ wx.cell? ⟨gx, 4, none⟩ = some (.slice a4 ks.length c4))) (by kernel_rfl) HS0 (fun hHeld => ?_)
   refine tk (i := 0) (v := ?v751) rfl (by kernel_rfl) (.inl ⟨by rfl, ?y751⟩) hHeld (fun _ _ _ h => h) ?_
   case y751 => intro w hSw; (try dsimp only at hSw); go_simp; first | done | rfl
   refine tk (i := 1) (v := ?v752) rfl (by kernel_rfl) (.inl ⟨by rfl, ?y752⟩) hHeld (fun _ _ _ h => h) ?_
   case y752 => intro w hSw; (try dsimp only at hSw); go_simp; first | done | rfl
   refine tk (i := 2) (v := ?v753) rfl (by kernel_rfl) (.inl ⟨by rfl, ?y753⟩) hHeld (fun _ _ _ h => h) ?_
   case y753 => intro w hSw; (try dsimp only at hSw); go_simp; first | done | rfl
   try simp only [nrm]
   refine tk (i := 3) (v := ?v754) rfl (by kernel_rfl) (.inl ⟨by rfl, ?y754⟩) hHeld (fun _ _ _ h => h) ?_
   case y754 => intro w hSw; (try dsimp only at hSw); go_simp; first | done | rfl
   refine tk (i := 4) (v := ?v755) rfl (by kernel_rfl) (.inl ⟨by rfl, ?y755⟩) hHeld (fun _ _ _ h => h) ?_
   case y755 => intro w hSw; (try dsimp only at hSw); go_simp; first | done | rfl
   refine tk (i := 5) (v := ?v756) rfl (by kernel_rfl) (.inl ⟨by rfl, ?y756⟩) hHeld (fun _ _ _ h => h) ?_
   case y756 => intro w hSw; (try dsimp only at hSw); go_simp; first | done | rfl
   try simp only [nrm]
   refine tk (i := 6) (v := ?v757) rfl (by kernel_rfl) (.inl ⟨by rfl, ?y757⟩) hHeld (fun _ _ _ h => h) ?_
   case y757 => intro w hSw; (try dsimp only at hSw); go_simp; first | done | rfl
   refine tk (i := 7) (v := ?v758) rfl (by kernel_rfl) (.inl ⟨by rfl, ?y758⟩) hHeld (fun _ _ _ h => h) ?_
   case y758 => intro w hSw; (try dsimp only at hSw); go_simp; first | done | rfl
   refine tk (i := 8) (v := ?v759) rfl (by kernel_rfl) (.inl ⟨by rfl, ?y759⟩) hHeld (fun _ _ _ h => h) ?_
   case y759 => intro w hSw; (try dsimp only at hSw); go_simp; first | done | rfl
   try simp only [nrm]
   refine tk (i := 9) (v := ?v760) rfl (by kernel_rfl) (.inl ⟨by rfl, ?y760⟩) hHeld (fun _ _ _ h => h) ?_
   case y760 => intro w hSw; (try dsimp only at hSw); go_simp; first | done | rfl
   refine tk (i := 11) (v := ?v761) rfl (by kernel_rfl) (.inl ⟨by rfl, ?y761⟩) hHeld (fun _ _ _ h => h) ?_
   case y761 => intro w hSw; (try dsimp only at hSw); go_simp; first | done | rfl
   refine tk (i := 12) (v := ?v762) rfl (by kernel_rfl) (.inl ⟨by rfl, ?y762⟩) hHeld (fun _ _ _ h => h) ?_
   case y762 => intro w hSw; (try dsimp only at hSw); go_simp; first | done | rfl
   try simp only [nrm]
   refine tk (i := 13) (v := ?v763) rfl (by kernel_rfl) (.inl ⟨by rfl, ?y763⟩) hHeld (fun _ _ _ h => h) ?_
   case y763 => intro w hSw; (try dsimp only at hSw); go_simp; first | done | rfl
   try simp only [nrm]
   refine wpAnyH_ready (rs := [10]) (by kernel_rfl) (by simp) ?_
   refine AllReadyH.cons (i := 10) (o := ?o764) ?i764 (fun K hK => ?_) AllReadyH.nil
   case i764 => exact rfl
   go_simp
   (with_reducible refine HK.mono ?_)
   rintro e w3 ⟨rfl, hq⟩
   go_wp2_with fail
   refine hK.out _ _ (hbs hq) (fun hHeld => ?_)
   clear hK K
   try simp only [nrm]
   refine tk (i := 14) (v := ?v765) rfl (by kernel_rfl) (.inl ⟨by rfl, ?y765⟩) hHeld (fun _ _ _ h => h) ?_
   case y765 => intro w hSw; (try dsimp only at hSw); go_simp; first | done | rfl
   refine tk (i := 15) (v := ?v766) rfl (by kernel_rfl) (.inl ⟨by rfl, ?y766⟩) hHeld (fun _ _ _ h => h) ?_
   case y766 => intro w hSw; (try dsimp only at hSw); go_simp; first | done | rfl
   refine tk (i := 16) (v := ?v767) rfl (by kernel_rfl) (.inl ⟨by rfl, ?y767⟩) hHeld (fun _ _ _ h => h) ?_
   case y767 => intro w hSw; (try dsimp only at hSw); go_simp; first | done | rfl
   try simp only [nrm]
   refine tk (i := 17) (v := ?v768) rfl (by kernel_rfl) (.inl ⟨by rfl, ?y768⟩) hHeld (fun _ _ _ h => h) ?_
   case y768 => intro w hSw; (try dsimp only at hSw); go_simp; first | done | rfl
   refine tk (i := 18) (v := ?v769) rfl (by kernel_rfl) (.inl ⟨by rfl, ?y769⟩) hHeld (fun _ _ _ h => h) ?_
   case y769 => intro w hSw; (try dsimp only at hSw); go_simp; first | done | rfl
   refine tk (i := 19) (v := ?v770) rfl (by kernel_rfl) (.inl ⟨by rfl, ?y770⟩) hHeld (fun _ _ _ h => h) ?_
   case y770 => intro w hSw; (try dsimp only at hSw); go_simp; first | done | rfl
   try simp only [nrm]
   refine tk (i := 20) (v := ?v771) rfl (by kernel_rfl) (.inl ⟨by rfl, ?y771⟩) hHeld (fun _ _ _ h => h) ?_
   case y771 => intro w hSw; (try dsimp only at hSw); go_simp; first | done | rfl
   refine tk (i := 21) (v := ?v772) rfl (by kernel_rfl) (.inl ⟨by rfl, ?y772⟩) hHeld (fun _ _ _ h => h) ?_
   case y772 => intro w hSw; (try dsimp only at hSw); go_simp; first | done | rfl
   refine tk (i := 22) (v := ?v773) rfl (by kernel_rfl) (.inl ⟨by rfl, ?y773⟩) hHeld (fun _ _ _ h => h) ?_
   case y773 => intro w hSw; (try dsimp only at hSw); go_simp; first | done | rfl
   try simp only [nrm]
   refine tk (i := 23) (v := ?v774) rfl (by kernel_rfl) (.inl ⟨by rfl, ?y774⟩) hHeld (fun _ _ _ h => h) ?_
   case y774 => intro w hSw; (try dsimp only at hSw); go_simp; first | done | rfl
   refine tk (i := 24) (v := ?v775) rfl (by kernel_rfl) (.inl ⟨by rfl, ?y775⟩) hHeld (fun _ _ _ h => h) ?_
   case y775 => intro w hSw; (try dsimp only at hSw); go_simp; first | done | rfl
   try simp only [nrm]
   refine wpAnyH_done (by kernel_rfl) ?_ _
   go_wp2_with fail
   go_ret
   rw [he.out]
   exact ⟨rfl, grown_trans yy (grown_any (grown_trans y2 hq) _), by simp⟩
  refine wp_region_held_drew (S := fun wx => (wx.cell? ⟨g, 0, none⟩ = some (.int .i64 m) ∧ wx.cell? ⟨gx, 0, none⟩ = some (.int .i64 7) ∧ wx.cell? ⟨gx, 1, none⟩ = some (.int .i64 n) ∧ wx.cell? ⟨gx, 2, none⟩ = some (.slice a2 nm c2) ∧ wx.cell? ⟨gx, 3, none⟩ = some (.slice a3 nn c3) ∧ wx.cell? ⟨gx, 4, none⟩ = some (.slice a4 ks.length c4))) (by kernel_rfl) HS0 (fun hHeld => ?_)
  refine tk (i := 0) (v := ?v776) rfl (by kernel_rfl) (.inl ⟨by rfl, ?y776⟩) hHeld (fun _ _ _ h => h) ?_
  case y776 => intro w hSw; (try dsimp only at hSw); go_simp; first | done | rfl
  refine tk (i := 1) (v := ?v777) rfl (by kernel_rfl) (.inl ⟨by rfl, ?y777⟩) hHeld (fun _ _ _ h => h) ?_
  case y777 => intro w hSw; (try dsimp only at hSw); go_simp; first | done | rfl
  refine tk (i := 2) (v := ?v778) rfl (by kernel_rfl) (.inl ⟨by rfl, ?y778⟩) hHeld (fun _ _ _ h => h) ?_
  case y778 => intro w hSw; (try dsimp only at hSw); go_simp; first | done | rfl
  try simp only [nrm]
  refine tk (i := 3) (v := ?v779) rfl (by kernel_rfl) (.inl ⟨by rfl, ?y779⟩) hHeld (fun _ _ _ h => h) ?_
  case y779 => intro w hSw; (try dsimp only at hSw); go_simp; first | done | rfl
  refine tk (i := 4) (v := ?v780) rfl (by kernel_rfl) (.inl ⟨by rfl, ?y780⟩) hHeld (fun _ _ _ h => h) ?_
  case y780 => intro w hSw; (try dsimp only at hSw); go_simp; first | done | rfl
  refine tk (i := 5) (v := ?v781) rfl (by kernel_rfl) (.inl ⟨by rfl, ?y781⟩) hHeld (fun _ _ _ h => h) ?_
  case y781 => intro w hSw; (try dsimp only at hSw); go_simp; first | done | rfl
  try simp only [nrm]
  refine tk (i := 6) (v := ?v782) rfl (by kernel_rfl) (.inl ⟨by rfl, ?y782⟩) hHeld (fun _ _ _ h => h) ?_
  case y782 => intro w hSw; (try dsimp only at hSw); go_simp; first | done | rfl
  refine tk (i := 7) (v := ?v783) rfl (by kernel_rfl) (.inl ⟨by rfl, ?y783⟩) hHeld (fun _ _ _ h => h) ?_
  case y783 => intro w hSw; (try dsimp only at hSw); go_simp; first | done | rfl
  refine tk (i := 8) (v := ?v784) rfl (by kernel_rfl) (.inl ⟨by rfl, ?y784⟩) hHeld (fun _ _ _ h => h) ?_
  case y784 => intro w hSw; (try dsimp only at hSw); go_simp; first | done | rfl
  try simp only [nrm]
  refine tk (i := 9) (v := ?v785) rfl (by kernel_rfl) (.inl ⟨by rfl, ?y785⟩) hHeld (fun _ _ _ h => h) ?_
  case y785 => intro w hSw; (try dsimp only at hSw); go_simp; first | done | rfl
  refine tk (i := 11) (v := ?v786) rfl (by kernel_rfl) (.inl ⟨by rfl, ?y786⟩) hHeld (fun _ _ _ h => h) ?_
  case y786 => intro w hSw; (try dsimp only at hSw); go_simp; first | done | rfl
  refine tk (i := 12) (v := ?v787) rfl (by kernel_rfl) (.inl ⟨by rfl, ?y787⟩) hHeld (fun _ _ _ h => h) ?_
  case y787 => intro w hSw; (try dsimp only at hSw); go_simp; first | done | rfl
  try simp only [nrm]
  refine tk (i := 13) (v := ?v788) rfl (by kernel_rfl) (.inl ⟨by rfl, ?y788⟩) hHeld (fun _ _ _ h => h) ?_
  case y788 => intro w hSw; (try dsimp only at hSw); go_simp; first | done | rfl
  try simp only [nrm]
  refine wpAnyH_ready (rs := [10]) (by kernel_rfl) (by simp) ?_
  refine AllReadyH.cons (i := 10) (o := ?o789) ?i789 (fun K hK => ?_) AllReadyH.nil
  case i789 => exact rfl
  go_simp
  (with_reducible refine HK.mono ?_)
  rintro e w3 ⟨rfl, hq⟩
  go_wp2_with fail
  refine hK.out _ _ (hbs hq) (fun hHeld => ?_)
  clear hK K
  try simp only [nrm]
  refine tk (i := 14) (v := ?v790) rfl (by kernel_rfl) (.inl ⟨by rfl, ?y790⟩) hHeld (fun _ _ _ h => h) ?_
  case y790 => intro w hSw; (try dsimp only at hSw); go_simp; first | done | rfl
  refine tk (i := 15) (v := ?v791) rfl (by kernel_rfl) (.inl ⟨by rfl, ?y791⟩) hHeld (fun _ _ _ h => h) ?_
  case y791 => intro w hSw; (try dsimp only at hSw); go_simp; first | done | rfl
  refine tk (i := 16) (v := ?v792) rfl (by kernel_rfl) (.inl ⟨by rfl, ?y792⟩) hHeld (fun _ _ _ h => h) ?_
  case y792 => intro w hSw; (try dsimp only at hSw); go_simp; first | done | rfl
  try simp only [nrm]
  refine tk (i := 17) (v := ?v793) rfl (by kernel_rfl) (.inl ⟨by rfl, ?y793⟩) hHeld (fun _ _ _ h => h) ?_
  case y793 => intro w hSw; (try dsimp only at hSw); go_simp; first | done | rfl
  refine tk (i := 18) (v := ?v794) rfl (by kernel_rfl) (.inl ⟨by rfl, ?y794⟩) hHeld (fun _ _ _ h => h) ?_
  case y794 => intro w hSw; (try dsimp only at hSw); go_simp; first | done | rfl
  refine tk (i := 19) (v := ?v795) rfl (by kernel_rfl) (.inl ⟨by rfl, ?y795⟩) hHeld (fun _ _ _ h => h) ?_
  case y795 => intro w hSw; (try dsimp only at hSw); go_simp; first | done | rfl
  try simp only [nrm]
  refine tk (i := 20) (v := ?v796) rfl (by kernel_rfl) (.inl ⟨by rfl, ?y796⟩) hHeld (fun _ _ _ h => h) ?_
  case y796 => intro w hSw; (try dsimp only at hSw); go_simp; first | done | rfl
  try simp only [nrm]
  refine tk (i := 21) (v := ?v797) rfl (by kernel_rfl) (.inl ⟨by rfl, ?y797⟩) hHeld (fun _ _ _ h => h) ?_
  case y797 => intro w hSw; (try dsimp only at hSw); go_simp; first | done | rfl
  refine tk (i := 22) (v := ?v798) rfl (by kernel_rfl) (.inl ⟨by rfl, ?y798⟩) hHeld (fun _ _ _ h => h) ?_
  case y798 => intro w hSw; (try dsimp only at hSw); go_simp; first | done | rfl
  try simp only [nrm]
  refine tk (i := 23) (v := ?v799) rfl (by kernel_rfl) (.inl ⟨by rfl, ?y799⟩) hHeld (fun _ _ _ h => h) ?_
  case y799 => intro w hSw; (try dsimp only at hSw); go_simp; first | done | rfl
  refine tk (i := 24) (v := ?v800) rfl (by kernel_rfl) (.inl ⟨by rfl, ?y800⟩) hHeld (fun _ _ _ h => h) ?_
  case y800 => intro w hSw; (try dsimp only at hSw); go_simp; first | done | rfl
  try simp only [nrm]
  refine wpAnyH_done (by kernel_rfl) ?_ _
  have hq3 := grown_trans y2 hq
  replace x0 := x0.below (below_grown hq3) x0.lt
  replace hL2 : Lft w3 g m := Blk.below hL2 (below_grown hq3) (Blk.lt hL2)
  replace yy := grown_trans yy (grown_any hq3 _)
  replace hb := hb.trans ((below_grown hq3).mono hb.size)
  clear HK hq hq3 z0 q0 q1 q2 q3 q4 HS0 hbs y2
  have q0 := x0.cell (i := 0) rfl
  have q1 := x0.cell (i := 1) rfl
  have q2 := x0.cell (i := 2) rfl
  have q3 := x0.cell (i := 3) rfl
  have q4 := x0.cell (i := 4) rfl
  have hn3 := specNameOk a3 nn c3 name false w3 (h3.below hb) (by omega)
  have hn2 := specNameOk a2 nm c2 mod true w3 (h2.below hb) (by omega)
  by_cases e0 : nn = 0
  ·
   have hno : nameOk name false = false := nameOk_short (by rw [HNA.out]; omega)
   rw [e0] at q3 ⊢
   have he : Hid (spEx (.mk 7 n mod name ks) d true left = false) := spEx_loc (loc_no (.inr (.inr (.inr (.inl ⟨by decide, hno⟩)))))
   go_wp2_with fail
   go_ret
   rw [he.out]
   exact ⟨rfl, yy, by simp⟩
  have e0' : (0 : Int) < (nn : Int) := by omega
  generalize hnb : nameOk name false = nb at *
  have HNB : Hid (nameOk name false = nb) := hnb
  clear hnb
  go_wp2_with fail
  refine hn3.mono ?_
  rintro e w3 ⟨rfl, rfl⟩
  clear hn3
  cases nb
  ·
   skip
   have he : Hid (spEx (.mk 7 n mod name ks) d true left = false) := spEx_loc (loc_no (.inr (.inr (.inr (.inl ⟨by decide, HNB.out⟩)))))
   go_wp2_with fail
   go_ret
   rw [he.out]
   exact ⟨rfl, yy, by simp⟩
  by_cases em : nm = 0
  rotate_left
  ·
   have em' : (0 : Int) < (nm : Int) := by omega
   have he : Hid (spEx (.mk 7 n mod name ks) d true left = false) := spEx_loc (loc_no (.inr (.inr (.inr (.inr (.inr (.inl ⟨by rw [HMO.out]; exact em, by decide⟩)))))))
   go_wp2_with fail
   go_ret
   rw [he.out]
   exact ⟨rfl, yy, by simp⟩
  have em' : ¬ (0 : Int) < (nm : Int) := by omega
  have HEM : Hid (mod.length = 0) := HMO.out.trans em
  clear em
  by_cases n0 : n = 0
  rotate_left
  ·
   have n0' : (n != 0) = true := by simpa using n0
   have he : Hid (spEx (.mk 7 n mod name ks) d true left = false) := spEx_loc (loc_no (.inr (.inr (.inl (by simp [inB, exLow, exHigh]; omega)))))
   go_wp2_with fail
   go_ret
   rw [he.out]
   exact ⟨rfl, yy, by simp⟩
  have n0' : (n != 0) = false := by simpa using n0
  have HNN : Hid (inB n (exLow 7) (exHigh 7) = true) := by show _ = _; rw [n0]; decide
  clear n0
  have HE : Hid (spEx (.mk 7 n mod name ks) d true left = spExs ks (d + 1) false m) := by
   show _ = _
   rw [spEx_rest (loc_yes HI4.out.1 HI4.out.2 HNN.out (by rw [show exNamed 7 = true from by decide]; exact HNB.out) (by rw [decide_eq_true HEM.out]; rfl)) (.inr rfl) (by have := HMM.out; omega) (by omega), HMM.out]
   rfl
  have HD : Hid (ndEx (.mk 7 n mod name ks) = 1 + ndExs ks) := by show _ = _; simp [ndEx]
  have hz : ks.length = 0 := kids_zero HI4.out.2 (by decide)
  have hks : ks = [] := List.eq_nil_of_length_eq_zero hz
  have HT : Hid (spExs ks (d + 1) false m = true) := by show _ = _; rw [hks]; exact spExs_nil (by omega)
  have HD0 : Hid (ndExs ks = 0) := by show _ = _; rw [hks]; rfl
  subst hks
  simp only [List.length_nil] at q4 ⊢
  clear hz x0 hkl hk9
  go_wp2_with fail
  refine wp_loop_rounds 1 ?_
  rw [rounds_succ]
  go_wp2_with fail
  go_ret
  rw [HE.out, HT.out]
  exact ⟨rfl, yy, fun _ => by rw [HD.out, HD0.out, show left - ((1 + 0 : Nat) : Int) = m by have := HMM.out; omega]; exact hL2⟩

mutual
theorem spExT : ∀ x : Ex, SpEx x
 | .mk k n m a ks => spExR k n m a ks (spExsT ks)
theorem spExsT : ∀ (l : List Ex), ∀ x ∈ l, SpEx x
 | [], x, h => by simp at h
 | y :: l, x, h => by
  rcases List.mem_cons.1 h with h | h
  ·
   rw [h]; exact spExT y
  ·
   exact spExsT l x h
end

end Go.Proofs.YtpgjdohgohabdaaGreatDoor

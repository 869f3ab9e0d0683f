/- What the specification writes of expressions. By mkspsay.py. -/
import Derived.Test.YtopnodadggohiaaGreatDoorSpSayPure
import Derived.Test.YtopnodadggohiaaGreatDoorSpSg
import Derived.Test.YtopnodadggohiaaGreatDoorPackJ
import Derived.Deep.RegionHeld3
namespace Go.Proofs.YtopnodadggohiaaGreatDoor
open Go.RowKit
set_option linter.unusedVariables false
set_option linter.unusedSimpArgs false
set_option maxRecDepth 100000

def SayEx (x : Ex) : Prop := ∀ (w0 w : World) (vs : List Value) (base : Nat) (L : List Int) (v : Value), RdVals w0 x.fl vs → Below w0.heap.size w0 w → w0.heap.size ≤ base → base ≤ w.heap.size → Own w base v L.length L → okEx x = true → L.length + (sayE x).length ≤ 1000000000 → recLen x.fl ≤ 1048576 →
 Calls Tryz.prog 144 #[v, agg vs] w fun e w' => ∃ v', e = .returned v' ∧ Own w' base v' (L ++ sayE x).length (L ++ sayE x) ∧ Wr L.length base w w'

theorem Sg.cell {w0 ws w : World} {n0 base g : Nat} {T : TypeId} {vs : List Value} {L : List Int} {v : Value} (h : Sg w0 ws n0 base (fun x => Blk x g T vs) w L v) {i : Nat} {u : Value} (hu : vs[i]? = some u) : w.cell? ⟨g, i, none⟩ = some u := Blk.cell (show Blk w g T vs from h.b) hu
theorem digC (n : Int) (h0 : -9223372036854775808 < n) (h1 : n ≤ 9223372036854775807) (w : World) : Calls Tryz.prog 107 #[.int .i64 n] w fun e w' => ∃ v, e = .returned v ∧ Own w' w.heap.size v (numI n).length (numI n) ∧ w.grownBy w' none := dig n h0 h1 w
theorem num_pos (n : Int) : 0 < (numI n).length := by
 unfold numI Lib.itoa
 rw [List.length_map]
 have h : ∀ u, 0 < (Lib.decDigits u).length := fun u => by rw [Lib.decDigits]; split <;> simp
 split
 ·
  simp
 ·
  exact h _
theorem name_pos {l : List Int} {g : Bool} (h : nameOk l g = true) : 0 < l.length := by
 rcases Nat.eq_zero_or_pos l.length with h0 | h0
 ·
  rw [nameOk_short (by omega)] at h; cases h
 ·
  exact h0
theorem say_five {α : Type} {l : List α} (h : l.length = 5) : ∃ a b c d e, l = [a, b, c, d, e] := by
 match l, h with
 | [a, b, c, d, e], _ => exact ⟨a, b, c, d, e, rfl⟩
theorem say_len_le {x : Ex} (h : okEx x = true) (hs : recLen x.fl ≤ 1048576) : (sayE x).length ≤ 100000000 := by
 rw [say_len h]
 have := prE_le x h
 omega

set_option maxHeartbeats 4000000 in
theorem sayEx0 (n : Int) (mod name : List Int) (ks : List Ex) : SayEx (.mk 0 n mod name ks) := by
 intro w0 w vs base L v hr hb h0 hle ho hok hsz hs
 obtain ⟨hlc, hks⟩ := okEx_loc hok
 have hs' : mod.length ≤ 1048576 ∧ name.length ≤ 1048576 := by simp only [Ex.fl, recLen, Fl.len] at hs; omega
 have hsk : rowsLen (exs ks) ≤ 1048576 := by simp only [Ex.fl, recLen, Fl.len] at hs; omega
 unfold Ex.fl at hr
 obtain ⟨y0, _, rfl, rfl, y1, _, rfl, rfl, y2, _, rfl, ⟨a2, c2, rfl, h2, hc2, _⟩, y3, _, rfl, ⟨a3, c3, rfl, h3, hc3, _⟩, y4, _, rfl, h4', rfl⟩ := hr
 obtain ⟨a4, c4, rfl, h4⟩ := h4'.list
 clear h4'
 have hkl : (exs ks).length = ks.length := by simp [exs_map]
 rw [hkl]
 simp only [agg]
 have hk9 : ks.length ≤ 9223372036854775807 := by have h5 := h4.cap; have h6 := h4.most; unfold maxLen at h6; omega
 obtain ⟨nk, hnk⟩ : ∃ z, z = ks.length := ⟨_, rfl⟩
 rw [← hnk] at hk9 ⊢
 have HNK : Hid (ks.length = nk) := hnk.symm
 clear hnk
 obtain ⟨nn, hnn⟩ : ∃ z, z = name.length := ⟨_, rfl⟩
 obtain ⟨nm, hnm⟩ : ∃ z, z = mod.length := ⟨_, rfl⟩
 rw [← hnn] at h3 hs' hc3 ⊢
 rw [← hnm] at h2 hs' hc2 ⊢
 have HNA : Hid (name.length = nn) := hnn.symm
 have HMO : Hid (mod.length = nm) := hnm.symm
 have hn01 : -2147483648 ≤ n ∧ n ≤ 2147483647 := by simp [exLoc, inB, exLow, exHigh] at hlc; omega
 clear hnn hnm hs
 have HE : Hid (L ++ sayE (.mk 0 n mod name ks) = L ++ [32] ++ numI n) := by show _ = _; simp [sayE, sayEs, exSay, List.append_assoc]
 have hsz2 : (L ++ [32] ++ numI n).length ≤ 1000000000 := by rw [← HE.out, List.length_append]; exact hsz
 simp only [List.length_append, List.length_cons, List.length_nil] at hsz2
 have hL : L.length ≤ 1000000000 := by omega
 have x0 := Blk.new w 125 [.int .i64 0, .int .i64 n, .slice a2 nm c2, .slice a3 nn c3, .slice a4 nk c4]
 have G0 : Sg w0 w L.length base (fun x => Blk x w.heap.size 125 [.int .i64 0, .int .i64 n, .slice a2 nm c2, .slice a3 nn c3, .slice a4 nk c4]) (w.alloc (.cells #[.int .i64 0, .int .i64 n, .slice a2 nm c2, .slice a3 nn c3, .slice a4 nk c4] 125 (0, 0))) L v := ⟨ho.alloc _, x0, keep_blk (by decide), Wr.of (grown_alloc w _ none), Nat.le_refl _, hb.alloc hb.size _, by simp; omega, h0⟩
 have q0 := x0.cell (i := 0) rfl
 clear x0 ho hb hok hsz
 go_enter Tryz.func144, Tryz.ntmps144
 go_upto_region 1 with fail
 generalize w.alloc (.cells #[.int .i64 0, .int .i64 n, .slice a2 nm c2, .slice a3 nn c3, .slice a4 nk c4] 125 (0, 0)) = w1 at *
 generalize w.heap.size = gx at *
 go_upto_region 3 with fail
 clear q0
 have G1 := G0.drew
 refine wp_region_held_drew (S := fun wx => wx.cell? ⟨gx, 1, none⟩ = some (.int .i64 n)) (by kernel_rfl) (G1.cell (i := 1) rfl) (fun hHeld => ?_)
 generalize w1.drew = w1 at *
 clear G0
 refine ta 0 ?_ hHeld
 refine ta 3 ?_ hHeld
 refine ta 4 ?_ hHeld
 try simp only [nrm]
 refine ra 1 fun K hK => ?_
 go_simp
 have R3 : (w1.alloc (.cells #[.int .u8 32] 5)).heap[w1.heap.size]? = some (Obj.cells #[.int .u8 32] 5 (0, 0)) := heap_alloc_new w1 _
 have F3 := G1.free
 have G3 := G1.alloc (.cells #[.int .u8 32] 5)
 refine hK.out _ _ (G3.cell (i := 1) rfl) (fun hHeld => ?_)
 clear hK K G1
 try simp only [nrm]
 generalize w1.alloc (.cells #[.int .u8 32] 5) = w3 at *
 generalize w1.heap.size = g3 at *
 refine ra 2 fun K hK => ?_
 rw [if_pos (by kernel_rfl)]
 refine G3.row_wp _ _ rfl rfl (some ⟨g3, 0, none⟩) 1 1 [32] rfl (one_blk (by omega) (by omega) R3) (by omega) (by (try simp only [ll]); omega) ?_
 intro v5 w5 G5 gr5
 refine hK.out _ _ (G5.cell (i := 1) rfl) (fun hHeld => ?_)
 clear hK K G3
 try simp only [nrm]
 refine ra 5 fun K hK => ?_
 go_simp
 (with_reducible refine (digC n (by omega) (by omega) w5).mono ?_)
 rintro e w7 ⟨vd, rfl, hod, hgd⟩
 obtain ⟨nd, hnd⟩ : ∃ z, z = (numI n).length := ⟨_, rfl⟩
 rw [← hnd] at hod
 have hnd1 : nd ≤ 21 := by rw [hnd]; exact num_len (by omega) (by omega)
 have hnd0 : 0 < nd := by rw [hnd]; exact num_pos _
 have HND : Hid ((numI n).length = nd) := hnd.symm
 clear hnd
 obtain ⟨ad, cd, rfl, hM⟩ := hod.made (below_grown hgd)
 have G7 := G5.grown hgd
 have Rd := hM.row
 clear hM hod hgd
 go_wp2_with fail
 refine hK.out _ _ (G7.cell (i := 1) rfl) (fun hHeld => ?_)
 clear hK K G5
 try simp only [nrm]
 refine ra 6 fun K hK => ?_
 rw [if_pos (by kernel_rfl)]
 refine G7.row_wp _ _ rfl rfl ad nd cd (numI n) rfl Rd hnd0 (by (try simp only [ll]); omega) ?_
 intro v9 w9 G9 gr9
 refine hK.out _ _ (G9.cell (i := 1) rfl) (fun hHeld => ?_)
 clear hK K G7
 try simp only [nrm]
 refine ta 7 ?_ hHeld
 try simp only [nrm]
 refine wpAnyH_done (by kernel_rfl) ?_ _
 go_wp2_with fail
 go_ret
 rw [HE.out]
 exact ⟨_, rfl, G9.own, G9.wrote⟩

set_option maxHeartbeats 4000000 in
theorem sayEx1 (n : Int) (mod name : List Int) (ks : List Ex) : SayEx (.mk 1 n mod name ks) := by
 intro w0 w vs base L v hr hb h0 hle ho hok hsz hs
 obtain ⟨hlc, hks⟩ := okEx_loc hok
 have hs' : mod.length ≤ 1048576 ∧ name.length ≤ 1048576 := by simp only [Ex.fl, recLen, Fl.len] at hs; omega
 have hsk : rowsLen (exs ks) ≤ 1048576 := by simp only [Ex.fl, recLen, Fl.len] at hs; omega
 unfold Ex.fl at hr
 obtain ⟨y0, _, rfl, rfl, y1, _, rfl, rfl, y2, _, rfl, ⟨a2, c2, rfl, h2, hc2, _⟩, y3, _, rfl, ⟨a3, c3, rfl, h3, hc3, _⟩, y4, _, rfl, h4', rfl⟩ := hr
 obtain ⟨a4, c4, rfl, h4⟩ := h4'.list
 clear h4'
 have hkl : (exs ks).length = ks.length := by simp [exs_map]
 rw [hkl]
 simp only [agg]
 have hk9 : ks.length ≤ 9223372036854775807 := by have h5 := h4.cap; have h6 := h4.most; unfold maxLen at h6; omega
 obtain ⟨nk, hnk⟩ : ∃ z, z = ks.length := ⟨_, rfl⟩
 rw [← hnk] at hk9 ⊢
 have HNK : Hid (ks.length = nk) := hnk.symm
 clear hnk
 obtain ⟨nn, hnn⟩ : ∃ z, z = name.length := ⟨_, rfl⟩
 obtain ⟨nm, hnm⟩ : ∃ z, z = mod.length := ⟨_, rfl⟩
 rw [← hnn] at h3 hs' hc3 ⊢
 rw [← hnm] at h2 hs' hc2 ⊢
 have HNA : Hid (name.length = nn) := hnn.symm
 have HMO : Hid (mod.length = nm) := hnm.symm
 have hnp : 0 < nn := by rw [hnn]; exact name_pos (loc_name hlc (by decide))
 clear hnn hnm hs
 have HE : Hid (L ++ sayE (.mk 1 n mod name ks) = L ++ [32] ++ name) := by show _ = _; simp [sayE, sayEs, exSay, List.append_assoc]
 have hsz2 : (L ++ [32] ++ name).length ≤ 1000000000 := by rw [← HE.out, List.length_append]; exact hsz
 simp only [List.length_append, List.length_cons, List.length_nil] at hsz2
 have hL : L.length ≤ 1000000000 := by omega
 have x0 := Blk.new w 125 [.int .i64 1, .int .i64 n, .slice a2 nm c2, .slice a3 nn c3, .slice a4 nk c4]
 have G0 : Sg w0 w L.length base (fun x => Blk x w.heap.size 125 [.int .i64 1, .int .i64 n, .slice a2 nm c2, .slice a3 nn c3, .slice a4 nk c4]) (w.alloc (.cells #[.int .i64 1, .int .i64 n, .slice a2 nm c2, .slice a3 nn c3, .slice a4 nk c4] 125 (0, 0))) L v := ⟨ho.alloc _, x0, keep_blk (by decide), Wr.of (grown_alloc w _ none), Nat.le_refl _, hb.alloc hb.size _, by simp; omega, h0⟩
 have q0 := x0.cell (i := 0) rfl
 clear x0 ho hb hok hsz
 go_enter Tryz.func144, Tryz.ntmps144
 go_upto_region 1 with fail
 generalize w.alloc (.cells #[.int .i64 1, .int .i64 n, .slice a2 nm c2, .slice a3 nn c3, .slice a4 nk c4] 125 (0, 0)) = w1 at *
 generalize w.heap.size = gx at *
 go_upto_region 5 with fail
 clear q0
 have G10 := G0.drew
 refine wp_region_held_drew (S := fun wx => wx.cell? ⟨gx, 3, none⟩ = some (.slice a3 nn c3)) (by kernel_rfl) (G10.cell (i := 3) rfl) (fun hHeld => ?_)
 generalize w1.drew = w10 at *
 clear G0
 refine ta 0 ?_ hHeld
 refine ta 3 ?_ hHeld
 refine ta 4 ?_ hHeld
 try simp only [nrm]
 refine ra 1 fun K hK => ?_
 go_simp
 have R12 : (w10.alloc (.cells #[.int .u8 32] 5)).heap[w10.heap.size]? = some (Obj.cells #[.int .u8 32] 5 (0, 0)) := heap_alloc_new w10 _
 have F12 := G10.free
 have G12 := G10.alloc (.cells #[.int .u8 32] 5)
 refine hK.out _ _ (G12.cell (i := 3) rfl) (fun hHeld => ?_)
 clear hK K G10
 try simp only [nrm]
 generalize w10.alloc (.cells #[.int .u8 32] 5) = w12 at *
 generalize w10.heap.size = g12 at *
 refine ra 2 fun K hK => ?_
 rw [if_pos (by kernel_rfl)]
 refine G12.row_wp _ _ rfl rfl (some ⟨g12, 0, none⟩) 1 1 [32] rfl (one_blk (by omega) (by omega) R12) (by omega) (by (try simp only [ll]); omega) ?_
 intro v14 w14 G14 gr14
 refine hK.out _ _ (G14.cell (i := 3) rfl) (fun hHeld => ?_)
 clear hK K G12
 try simp only [nrm]
 refine ra 5 fun K hK => ?_
 rw [if_pos (by kernel_rfl)]
 refine G14.row_wp _ _ rfl rfl a3 nn c3 name rfl (G14.row h3) hnp (by (try simp only [ll]); omega) ?_
 intro v16 w16 G16 gr16
 refine hK.out _ _ (G16.cell (i := 3) rfl) (fun hHeld => ?_)
 clear hK K G14
 try simp only [nrm]
 refine ta 6 ?_ hHeld
 try simp only [nrm]
 refine wpAnyH_done (by kernel_rfl) ?_ _
 go_wp2_with fail
 go_ret
 rw [HE.out]
 exact ⟨_, rfl, G16.own, G16.wrote⟩

set_option maxHeartbeats 4000000 in
theorem sayEx2 (n : Int) (mod name : List Int) (e0 : Ex) (S0 : SayEx e0) : SayEx (.mk 2 n mod name [e0]) := by
 intro w0 w vs base L v hr hb h0 hle ho hok hsz hs
 obtain ⟨hlc, hks⟩ := okEx_loc hok
 have hs' : mod.length ≤ 1048576 ∧ name.length ≤ 1048576 := by simp only [Ex.fl, recLen, Fl.len] at hs; omega
 have hsk : rowsLen (exs [e0]) ≤ 1048576 := by simp only [Ex.fl, recLen, Fl.len] at hs; omega
 unfold Ex.fl at hr
 obtain ⟨y0, _, rfl, rfl, y1, _, rfl, rfl, y2, _, rfl, ⟨a2, c2, rfl, h2, hc2, _⟩, y3, _, rfl, ⟨a3, c3, rfl, h3, hc3, _⟩, y4, _, rfl, h4', rfl⟩ := hr
 obtain ⟨a4, c4, rfl, h4⟩ := h4'.list
 clear h4'
 have hkl : (exs [e0]).length = 1 := by simp [exs_map]
 rw [hkl]
 simp only [agg]
 obtain ⟨b4, o4, rfl⟩ := h4.addr (by rw [hkl]; omega)
 obtain ⟨cc, rfl⟩ : ∃ cc, c4 = cc + 1 := ⟨c4 - 1, by have := h4.cap; rw [hkl] at this; omega⟩
 simp only [okExs, Bool.and_eq_true, and_true] at hks
 obtain ⟨us0, hv0, hcl0⟩ := (h4.el (i := 0) rfl).vals
 obtain ⟨u00, u01, u02, u03, u04, rfl⟩ := say_five (hv0.len.trans (exs_len e0))
 have hc00 : w0.cell? ⟨b4, o4, none⟩ = some u00 := by have := hcl0 0 _ rfl; simpa [Nat.add_assoc] using this
 have hc01 : w0.cell? ⟨b4, o4 + 1, none⟩ = some u01 := by have := hcl0 1 _ rfl; simpa [Nat.add_assoc] using this
 have hc02 : w0.cell? ⟨b4, o4 + 2, none⟩ = some u02 := by have := hcl0 2 _ rfl; simpa [Nat.add_assoc] using this
 have hc03 : w0.cell? ⟨b4, o4 + 3, none⟩ = some u03 := by have := hcl0 3 _ rfl; simpa [Nat.add_assoc] using this
 have hc04 : w0.cell? ⟨b4, o4 + 4, none⟩ = some u04 := by have := hcl0 4 _ rfl; simpa [Nat.add_assoc] using this
 clear hcl0
 have hsk0 : recLen e0.fl ≤ 1048576 := by simp only [exs, rowsLen] at hsk; omega
 have hse0 : (sayE e0).length ≤ 100000000 := say_len_le hks hsk0
 have hk0 := hks
 obtain ⟨nn, hnn⟩ : ∃ z, z = name.length := ⟨_, rfl⟩
 obtain ⟨nm, hnm⟩ : ∃ z, z = mod.length := ⟨_, rfl⟩
 rw [← hnn] at h3 hs' hc3 ⊢
 rw [← hnm] at h2 hs' hc2 ⊢
 have HNA : Hid (name.length = nn) := hnn.symm
 have HMO : Hid (mod.length = nm) := hnm.symm
 have hnp : 0 < nn := by rw [hnn]; exact name_pos (loc_name hlc (by decide))
 clear hnn hnm hs
 have HE : Hid (L ++ sayE (.mk 2 n mod name [e0]) = L ++ [32] ++ name ++ [32, 91] ++ sayE e0 ++ [32, 93]) := by show _ = _; simp [sayE, sayEs, exSay, List.append_assoc]
 have hsz2 : (L ++ [32] ++ name ++ [32, 91] ++ sayE e0 ++ [32, 93]).length ≤ 1000000000 := by rw [← HE.out, List.length_append]; exact hsz
 simp only [List.length_append, List.length_cons, List.length_nil] at hsz2
 have hL : L.length ≤ 1000000000 := by omega
 have x0 := Blk.new w 125 [.int .i64 2, .int .i64 n, .slice a2 nm c2, .slice a3 nn c3, .slice (some ⟨b4, o4, none⟩) 1 (cc + 1)]
 have G0 : Sg w0 w L.length base (fun x => Blk x w.heap.size 125 [.int .i64 2, .int .i64 n, .slice a2 nm c2, .slice a3 nn c3, .slice (some ⟨b4, o4, none⟩) 1 (cc + 1)]) (w.alloc (.cells #[.int .i64 2, .int .i64 n, .slice a2 nm c2, .slice a3 nn c3, .slice (some ⟨b4, o4, none⟩) 1 (cc + 1)] 125 (0, 0))) L v := ⟨ho.alloc _, x0, keep_blk (by decide), Wr.of (grown_alloc w _ none), Nat.le_refl _, hb.alloc hb.size _, by simp; omega, h0⟩
 have q0 := x0.cell (i := 0) rfl
 clear x0 ho hb hok hsz
 go_enter Tryz.func144, Tryz.ntmps144
 go_upto_region 1 with fail
 generalize w.alloc (.cells #[.int .i64 2, .int .i64 n, .slice a2 nm c2, .slice a3 nn c3, .slice (some ⟨b4, o4, none⟩) 1 (cc + 1)] 125 (0, 0)) = w1 at *
 generalize w.heap.size = gx at *
 go_upto_region 7 with fail
 clear q0
 have G17 := G0.drew
 refine wp_region_held_drew (S := fun wx => wx.cell? ⟨gx, 3, none⟩ = some (.slice a3 nn c3)) (by kernel_rfl) (G17.cell (i := 3) rfl) (fun hHeld => ?_)
 generalize w1.drew = w17 at *
 clear G0
 refine ta 0 ?_ hHeld
 refine ta 3 ?_ hHeld
 refine ta 4 ?_ hHeld
 try simp only [nrm]
 refine ra 1 fun K hK => ?_
 go_simp
 have R19 : (w17.alloc (.cells #[.int .u8 32] 5)).heap[w17.heap.size]? = some (Obj.cells #[.int .u8 32] 5 (0, 0)) := heap_alloc_new w17 _
 have F19 := G17.free
 have G19 := G17.alloc (.cells #[.int .u8 32] 5)
 refine hK.out _ _ (G19.cell (i := 3) rfl) (fun hHeld => ?_)
 clear hK K G17
 try simp only [nrm]
 generalize w17.alloc (.cells #[.int .u8 32] 5) = w19 at *
 generalize w17.heap.size = g19 at *
 refine ra 2 fun K hK => ?_
 rw [if_pos (by kernel_rfl)]
 refine G19.row_wp _ _ rfl rfl (some ⟨g19, 0, none⟩) 1 1 [32] rfl (one_blk (by omega) (by omega) R19) (by omega) (by (try simp only [ll]); omega) ?_
 intro v21 w21 G21 gr21
 refine hK.out _ _ (G21.cell (i := 3) rfl) (fun hHeld => ?_)
 clear hK K G19
 try simp only [nrm]
 refine ra 5 fun K hK => ?_
 rw [if_pos (by kernel_rfl)]
 refine G21.row_wp _ _ rfl rfl a3 nn c3 name rfl (G21.row h3) hnp (by (try simp only [ll]); omega) ?_
 intro v23 w23 G23 gr23
 refine hK.out _ _ (G23.cell (i := 3) rfl) (fun hHeld => ?_)
 clear hK K G21
 try simp only [nrm]
 refine ra 6 fun K hK => ?_
 rw [if_pos (by kernel_rfl)]
 refine G23.str_wp _ _ rfl rfl ⟨#[32, 91]⟩ rfl (by show _ + 2 ≤ _; (try simp only [ll]); omega) ?_
 intro v25 w25 G25 gr25
 replace G25 : Sg w0 w L.length base _ w25 (L ++ [32] ++ name ++ [32, 91]) v25 := G25
 refine hK.out _ _ (G25.cell (i := 3) rfl) (fun hHeld => ?_)
 clear hK K G23
 try simp only [nrm]
 refine ta 7 ?_ hHeld
 try simp only [nrm]
 refine wpAnyH_done (by kernel_rfl) ?_ _
 have q4 := G25.cell (i := 4) rfl
 have d0 := cell_on hc00 G25.bel
 have d1 := cell_on hc01 G25.bel
 have d2 := cell_on hc02 G25.bel
 have d3 := cell_on hc03 G25.bel
 have d4 := cell_on hc04 G25.bel
 go_wp2_with fail
 have H26 := S0 w0 w25 _ base (L ++ [32] ++ name ++ [32, 91]) v25 hv0 G25.bel G25.h0 G25.le G25.own hk0 (by (try simp only [ll]); omega) hsk0
 simp only [agg] at H26
 refine H26.mono ?_
 rintro e w26 ⟨v26, rfl, ho26, hw26⟩
 have G26 := G25.step hw26 ho26
 clear H26 ho26 hw26
 clear q4 d0 d1 d2 d3 d4
 go_wp2_with (at_builtin; refine Sg.str_list G26 rfl _ _ rfl rfl ⟨#[32, 93]⟩ rfl (by show _ + 2 ≤ _; (try simp only [ll]); omega) ?_)
 intro v27 w27 G27 gr27
 replace G27 := G27.cast (M := L ++ [32] ++ name ++ [32, 91] ++ sayE e0 ++ [32, 93]) (by simp [show sI ⟨#[32, 93]⟩ = [32, 93] from rfl])
 go_wp2_with fail
 go_ret
 rw [HE.out]
 exact ⟨_, rfl, G27.own, G27.wrote⟩

set_option maxHeartbeats 4000000 in
theorem sayEx3 (n : Int) (mod name : List Int) (e0 : Ex) (S0 : SayEx e0) (e1 : Ex) (S1 : SayEx e1) : SayEx (.mk 3 n mod name [e0, e1]) := by
 intro w0 w vs base L v hr hb h0 hle ho hok hsz hs
 obtain ⟨hlc, hks⟩ := okEx_loc hok
 have hs' : mod.length ≤ 1048576 ∧ name.length ≤ 1048576 := by simp only [Ex.fl, recLen, Fl.len] at hs; omega
 have hsk : rowsLen (exs [e0, e1]) ≤ 1048576 := by simp only [Ex.fl, recLen, Fl.len] at hs; omega
 unfold Ex.fl at hr
 obtain ⟨y0, _, rfl, rfl, y1, _, rfl, rfl, y2, _, rfl, ⟨a2, c2, rfl, h2, hc2, _⟩, y3, _, rfl, ⟨a3, c3, rfl, h3, hc3, _⟩, y4, _, rfl, h4', rfl⟩ := hr
 obtain ⟨a4, c4, rfl, h4⟩ := h4'.list
 clear h4'
 have hkl : (exs [e0, e1]).length = 2 := by simp [exs_map]
 rw [hkl]
 simp only [agg]
 obtain ⟨b4, o4, rfl⟩ := h4.addr (by rw [hkl]; omega)
 obtain ⟨cc, rfl⟩ : ∃ cc, c4 = cc + 1 := ⟨c4 - 1, by have := h4.cap; rw [hkl] at this; omega⟩
 simp only [okExs, Bool.and_eq_true, and_true] at hks
 obtain ⟨us0, hv0, hcl0⟩ := (h4.el (i := 0) rfl).vals
 obtain ⟨u00, u01, u02, u03, u04, rfl⟩ := say_five (hv0.len.trans (exs_len e0))
 have hc00 : w0.cell? ⟨b4, o4, none⟩ = some u00 := by have := hcl0 0 _ rfl; simpa [Nat.add_assoc] using this
 have hc01 : w0.cell? ⟨b4, o4 + 1, none⟩ = some u01 := by have := hcl0 1 _ rfl; simpa [Nat.add_assoc] using this
 have hc02 : w0.cell? ⟨b4, o4 + 2, none⟩ = some u02 := by have := hcl0 2 _ rfl; simpa [Nat.add_assoc] using this
 have hc03 : w0.cell? ⟨b4, o4 + 3, none⟩ = some u03 := by have := hcl0 3 _ rfl; simpa [Nat.add_assoc] using this
 have hc04 : w0.cell? ⟨b4, o4 + 4, none⟩ = some u04 := by have := hcl0 4 _ rfl; simpa [Nat.add_assoc] using this
 clear hcl0
 have hsk0 : recLen e0.fl ≤ 1048576 := by simp only [exs, rowsLen] at hsk; omega
 have hse0 : (sayE e0).length ≤ 100000000 := say_len_le hks.1 hsk0
 have hk0 := hks.1
 obtain ⟨us1, hv1, hcl1⟩ := (h4.el (i := 1) rfl).vals
 obtain ⟨u10, u11, u12, u13, u14, rfl⟩ := say_five (hv1.len.trans (exs_len e1))
 have hc10 : w0.cell? ⟨b4, o4 + 5, none⟩ = some u10 := by have := hcl1 0 _ rfl; simpa [Nat.add_assoc] using this
 have hc11 : w0.cell? ⟨b4, o4 + 6, none⟩ = some u11 := by have := hcl1 1 _ rfl; simpa [Nat.add_assoc] using this
 have hc12 : w0.cell? ⟨b4, o4 + 7, none⟩ = some u12 := by have := hcl1 2 _ rfl; simpa [Nat.add_assoc] using this
 have hc13 : w0.cell? ⟨b4, o4 + 8, none⟩ = some u13 := by have := hcl1 3 _ rfl; simpa [Nat.add_assoc] using this
 have hc14 : w0.cell? ⟨b4, o4 + 9, none⟩ = some u14 := by have := hcl1 4 _ rfl; simpa [Nat.add_assoc] using this
 clear hcl1
 have hsk1 : recLen e1.fl ≤ 1048576 := by simp only [exs, rowsLen] at hsk; omega
 have hse1 : (sayE e1).length ≤ 100000000 := say_len_le hks.2 hsk1
 have hk1 := hks.2
 obtain ⟨nn, hnn⟩ : ∃ z, z = name.length := ⟨_, rfl⟩
 obtain ⟨nm, hnm⟩ : ∃ z, z = mod.length := ⟨_, rfl⟩
 rw [← hnn] at h3 hs' hc3 ⊢
 rw [← hnm] at h2 hs' hc2 ⊢
 have HNA : Hid (name.length = nn) := hnn.symm
 have HMO : Hid (mod.length = nm) := hnm.symm
 have hsix := n_six hlc
 clear hnn hnm hs
 have HE : Hid (L ++ sayE (.mk 3 n mod name [e0, e1]) = L ++ [32, 40] ++ sayE e0 ++ [32] ++ opI n ++ sayE e1 ++ [32, 41]) := by show _ = _; simp [sayE, sayEs, exSay, List.append_assoc]
 have hsz2 : (L ++ [32, 40] ++ sayE e0 ++ [32] ++ opI n ++ sayE e1 ++ [32, 41]).length ≤ 1000000000 := by rw [← HE.out, List.length_append]; exact hsz
 simp only [List.length_append, List.length_cons, List.length_nil] at hsz2
 have hL : L.length ≤ 1000000000 := by omega
 have x0 := Blk.new w 125 [.int .i64 3, .int .i64 n, .slice a2 nm c2, .slice a3 nn c3, .slice (some ⟨b4, o4, none⟩) 2 (cc + 1)]
 have G0 : Sg w0 w L.length base (fun x => Blk x w.heap.size 125 [.int .i64 3, .int .i64 n, .slice a2 nm c2, .slice a3 nn c3, .slice (some ⟨b4, o4, none⟩) 2 (cc + 1)]) (w.alloc (.cells #[.int .i64 3, .int .i64 n, .slice a2 nm c2, .slice a3 nn c3, .slice (some ⟨b4, o4, none⟩) 2 (cc + 1)] 125 (0, 0))) L v := ⟨ho.alloc _, x0, keep_blk (by decide), Wr.of (grown_alloc w _ none), Nat.le_refl _, hb.alloc hb.size _, by simp; omega, h0⟩
 have q0 := x0.cell (i := 0) rfl
 clear x0 ho hb hok hsz
 go_enter Tryz.func144, Tryz.ntmps144
 go_upto_region 1 with fail
 generalize w.alloc (.cells #[.int .i64 3, .int .i64 n, .slice a2 nm c2, .slice a3 nn c3, .slice (some ⟨b4, o4, none⟩) 2 (cc + 1)] 125 (0, 0)) = w1 at *
 generalize w.heap.size = gx at *
 go_upto_region 10 with fail
 clear q0
 have G28 := G0.drew
 refine wp_region_held_drew (S := fun wx => wx.cell? ⟨gx, 4, none⟩ = some (.slice (some ⟨b4, o4, none⟩) 2 (cc + 1)) ∧ wx.cell? ⟨b4, o4, none⟩ = some u00 ∧ wx.cell? ⟨b4, o4 + 1, none⟩ = some u01 ∧ wx.cell? ⟨b4, o4 + 2, none⟩ = some u02 ∧ wx.cell? ⟨b4, o4 + 3, none⟩ = some u03 ∧ wx.cell? ⟨b4, o4 + 4, none⟩ = some u04) (by kernel_rfl) ⟨G28.cell (i := 4) rfl, cell_on hc00 G28.bel, cell_on hc01 G28.bel, cell_on hc02 G28.bel, cell_on hc03 G28.bel, cell_on hc04 G28.bel⟩ (fun hHeld => ?_)
 generalize w1.drew = w28 at *
 clear G0
 refine ta 0 ?_ hHeld
 refine ta 2 ?_ hHeld
 refine ta 3 ?_ hHeld
 try simp only [nrm]
 refine ta 4 ?_ hHeld
 refine ta 5 ?_ hHeld
 try simp only [nrm]
 refine wpAnyH_ready (rs := [1, 7]) (by kernel_rfl) (by simp) ?_
 refine AllReadyH.cons (i := 1) (o := ?oS29) ?iS29 ?gS29 (AllReadyH.cons (i := 7) (o := ?oS30) ?iS30 ?gS30 AllReadyH.nil)
 case iS29 => exact rfl
 case iS30 => exact rfl
 case gS29 =>
  intro K hK
  rw [if_pos (by kernel_rfl)]
  refine G28.str_wp _ _ rfl rfl ⟨#[32, 40]⟩ rfl (by show _ + 2 ≤ _; (try simp only [ll]); omega) ?_
  intro v31 w31 G31 gr31
  replace G31 : Sg w0 w L.length base _ w31 (L ++ [32, 40]) v31 := G31
  refine hK.out _ _ ⟨G31.cell (i := 4) rfl, cell_on hc00 G31.bel, cell_on hc01 G31.bel, cell_on hc02 G31.bel, cell_on hc03 G31.bel, cell_on hc04 G31.bel⟩ (fun hHeld => ?_)
  clear hK K G28
  try simp only [nrm]
  refine wpAnyH_ready (rs := [6, 7]) (by kernel_rfl) (by simp) ?_
  refine AllReadyH.cons (i := 6) (o := ?oS32) ?iS32 ?gS32 (AllReadyH.cons (i := 7) (o := ?oS33) ?iS33 ?gS33 AllReadyH.nil)
  case iS32 => exact rfl
  case iS33 => exact rfl
  case gS32 =>
   intro K hK
   go_simp
   have H34 := S0 w0 w31 _ base (L ++ [32, 40]) v31 hv0 G31.bel G31.h0 G31.le G31.own hk0 (by (try simp only [ll]); omega) hsk0
   simp only [agg] at H34
   refine H34.mono ?_
   rintro e w34 ⟨v34, rfl, ho34, hw34⟩
   have G34 := G31.step hw34 ho34
   clear H34 ho34 hw34
   go_wp2_with fail
   refine hK.out _ _ ⟨G34.cell (i := 4) rfl, cell_on hc00 G34.bel, cell_on hc01 G34.bel, cell_on hc02 G34.bel, cell_on hc03 G34.bel, cell_on hc04 G34.bel⟩ (fun hHeld => ?_)
   clear hK K G31
   try simp only [nrm]
   refine ra 7 fun K hK => ?_
   go_simp
   have R36 : (w34.alloc (.cells #[.int .u8 32] 5)).heap[w34.heap.size]? = some (Obj.cells #[.int .u8 32] 5 (0, 0)) := heap_alloc_new w34 _
   have F36 := G34.free
   have G36 := G34.alloc (.cells #[.int .u8 32] 5)
   refine hK.out _ _ ⟨G36.cell (i := 4) rfl, cell_on hc00 G36.bel, cell_on hc01 G36.bel, cell_on hc02 G36.bel, cell_on hc03 G36.bel, cell_on hc04 G36.bel⟩ (fun hHeld => ?_)
   clear hK K G34
   try simp only [nrm]
   generalize w34.alloc (.cells #[.int .u8 32] 5) = w36 at *
   generalize w34.heap.size = g36 at *
   refine ra 8 fun K hK => ?_
   rw [if_pos (by kernel_rfl)]
   refine G36.row_wp _ _ rfl rfl (some ⟨g36, 0, none⟩) 1 1 [32] rfl (one_blk (by omega) (by omega) R36) (by omega) (by (try simp only [ll]); omega) ?_
   intro v38 w38 G38 gr38
   refine hK.out _ _ ⟨G38.cell (i := 4) rfl, cell_on hc00 G38.bel, cell_on hc01 G38.bel, cell_on hc02 G38.bel, cell_on hc03 G38.bel, cell_on hc04 G38.bel⟩ (fun hHeld => ?_)
   clear hK K G36
   try simp only [nrm]
   refine ta 9 ?_ hHeld
   try simp only [nrm]
   refine wpAnyH_done (by kernel_rfl) ?_ _
   have q1 := G38.cell (i := 1) rfl
   go_wp2_with fail
   have HO := l6opC n hsix w38
   refine HO.mono ?_
   rintro e w39 ⟨⟨so, rfl, hso⟩, hgo⟩
   have G39 := G38.grown hgo
   have hsz9 : so.size ≤ 1 := by rw [← size_sI, hso]; exact opI_le n
   clear HO hgo q1
   go_wp2_with (at_builtin; refine Sg.str_list G39 rfl _ _ rfl rfl so rfl (by simp only [List.length_append, List.length_cons, List.length_nil]; omega) ?_)
   intro v40 w40 G40 _
   replace G40 : Sg w0 w L.length base (fun x => Blk x gx 125 [.int .i64 3, .int .i64 n, .slice a2 nm c2, .slice a3 nn c3, .slice (some ⟨b4, o4, none⟩) 2 (cc + 1)]) w40 (L ++ [32, 40] ++ sayE e0 ++ [32] ++ opI n) v40 := by simpa [hso] using G40
   have hop := opI_le n
   have q4 := G40.cell (i := 4) rfl
   have d0 := cell_on hc10 G40.bel
   have d1 := cell_on hc11 G40.bel
   have d2 := cell_on hc12 G40.bel
   have d3 := cell_on hc13 G40.bel
   have d4 := cell_on hc14 G40.bel
   go_wp2_with fail
   have H41 := S1 w0 w40 _ base (L ++ [32, 40] ++ sayE e0 ++ [32] ++ opI n) v40 hv1 G40.bel G40.h0 G40.le G40.own hk1 (by (try simp only [ll]); omega) hsk1
   simp only [agg] at H41
   refine H41.mono ?_
   rintro e w41 ⟨v41, rfl, ho41, hw41⟩
   have G41 := G40.step hw41 ho41
   clear H41 ho41 hw41
   clear q4 d0 d1 d2 d3 d4
   go_wp2_with (at_builtin; refine Sg.str_list G41 rfl _ _ rfl rfl ⟨#[32, 41]⟩ rfl (by show _ + 2 ≤ _; (try simp only [ll]); omega) ?_)
   intro v42 w42 G42 gr42
   replace G42 := G42.cast (M := L ++ [32, 40] ++ sayE e0 ++ [32] ++ opI n ++ sayE e1 ++ [32, 41]) (by simp [show sI ⟨#[32, 41]⟩ = [32, 41] from rfl])
   go_wp2_with fail
   go_ret
   rw [HE.out]
   exact ⟨_, rfl, G42.own, G42.wrote⟩
  case gS33 =>
   intro K hK
   go_simp
   have R43 : (w31.alloc (.cells #[.int .u8 32] 5)).heap[w31.heap.size]? = some (Obj.cells #[.int .u8 32] 5 (0, 0)) := heap_alloc_new w31 _
   have F43 := G31.free
   have G43 := G31.alloc (.cells #[.int .u8 32] 5)
   refine hK.out _ _ ⟨G43.cell (i := 4) rfl, cell_on hc00 G43.bel, cell_on hc01 G43.bel, cell_on hc02 G43.bel, cell_on hc03 G43.bel, cell_on hc04 G43.bel⟩ (fun hHeld => ?_)
   clear hK K G31
   try simp only [nrm]
   generalize w31.alloc (.cells #[.int .u8 32] 5) = w43 at *
   generalize w31.heap.size = g43 at *
   refine ra 6 fun K hK => ?_
   go_simp
   have H45 := S0 w0 w43 _ base (L ++ [32, 40]) v31 hv0 G43.bel G43.h0 G43.le G43.own hk0 (by (try simp only [ll]); omega) hsk0
   simp only [agg] at H45
   refine H45.mono ?_
   rintro e w45 ⟨v45, rfl, ho45, hw45⟩
   have G45 := G43.step hw45 ho45
   replace R43 := (hw45.small _ _ R43 (by simp)).trans R43
   clear H45 ho45 hw45
   go_wp2_with fail
   refine hK.out _ _ ⟨G45.cell (i := 4) rfl, cell_on hc00 G45.bel, cell_on hc01 G45.bel, cell_on hc02 G45.bel, cell_on hc03 G45.bel, cell_on hc04 G45.bel⟩ (fun hHeld => ?_)
   clear hK K G43
   try simp only [nrm]
   refine ra 8 fun K hK => ?_
   rw [if_pos (by kernel_rfl)]
   refine G45.row_wp _ _ rfl rfl (some ⟨g43, 0, none⟩) 1 1 [32] rfl (one_blk (by omega) (by omega) R43) (by omega) (by (try simp only [ll]); omega) ?_
   intro v47 w47 G47 gr47
   refine hK.out _ _ ⟨G47.cell (i := 4) rfl, cell_on hc00 G47.bel, cell_on hc01 G47.bel, cell_on hc02 G47.bel, cell_on hc03 G47.bel, cell_on hc04 G47.bel⟩ (fun hHeld => ?_)
   clear hK K G45
   try simp only [nrm]
   refine ta 9 ?_ hHeld
   try simp only [nrm]
   refine wpAnyH_done (by kernel_rfl) ?_ _
   have q1 := G47.cell (i := 1) rfl
   go_wp2_with fail
   have HO := l6opC n hsix w47
   refine HO.mono ?_
   rintro e w48 ⟨⟨so, rfl, hso⟩, hgo⟩
   have G48 := G47.grown hgo
   have hsz9 : so.size ≤ 1 := by rw [← size_sI, hso]; exact opI_le n
   clear HO hgo q1
   go_wp2_with (at_builtin; refine Sg.str_list G48 rfl _ _ rfl rfl so rfl (by simp only [List.length_append, List.length_cons, List.length_nil]; omega) ?_)
   intro v49 w49 G49 _
   replace G49 : Sg w0 w L.length base (fun x => Blk x gx 125 [.int .i64 3, .int .i64 n, .slice a2 nm c2, .slice a3 nn c3, .slice (some ⟨b4, o4, none⟩) 2 (cc + 1)]) w49 (L ++ [32, 40] ++ sayE e0 ++ [32] ++ opI n) v49 := by simpa [hso] using G49
   have hop := opI_le n
   have q4 := G49.cell (i := 4) rfl
   have d0 := cell_on hc10 G49.bel
   have d1 := cell_on hc11 G49.bel
   have d2 := cell_on hc12 G49.bel
   have d3 := cell_on hc13 G49.bel
   have d4 := cell_on hc14 G49.bel
   go_wp2_with fail
   have H50 := S1 w0 w49 _ base (L ++ [32, 40] ++ sayE e0 ++ [32] ++ opI n) v49 hv1 G49.bel G49.h0 G49.le G49.own hk1 (by (try simp only [ll]); omega) hsk1
   simp only [agg] at H50
   refine H50.mono ?_
   rintro e w50 ⟨v50, rfl, ho50, hw50⟩
   have G50 := G49.step hw50 ho50
   clear H50 ho50 hw50
   clear q4 d0 d1 d2 d3 d4
   go_wp2_with (at_builtin; refine Sg.str_list G50 rfl _ _ rfl rfl ⟨#[32, 41]⟩ rfl (by show _ + 2 ≤ _; (try simp only [ll]); omega) ?_)
   intro v51 w51 G51 gr51
   replace G51 := G51.cast (M := L ++ [32, 40] ++ sayE e0 ++ [32] ++ opI n ++ sayE e1 ++ [32, 41]) (by simp [show sI ⟨#[32, 41]⟩ = [32, 41] from rfl])
   go_wp2_with fail
   go_ret
   rw [HE.out]
   exact ⟨_, rfl, G51.own, G51.wrote⟩
 case gS30 =>
  intro K hK
  go_simp
  have R52 : (w28.alloc (.cells #[.int .u8 32] 5)).heap[w28.heap.size]? = some (Obj.cells #[.int .u8 32] 5 (0, 0)) := heap_alloc_new w28 _
  have F52 := G28.free
  have G52 := G28.alloc (.cells #[.int .u8 32] 5)
  refine hK.out _ _ ⟨G52.cell (i := 4) rfl, cell_on hc00 G52.bel, cell_on hc01 G52.bel, cell_on hc02 G52.bel, cell_on hc03 G52.bel, cell_on hc04 G52.bel⟩ (fun hHeld => ?_)
  clear hK K G28
  try simp only [nrm]
  generalize w28.alloc (.cells #[.int .u8 32] 5) = w52 at *
  generalize w28.heap.size = g52 at *
  refine ra 1 fun K hK => ?_
  rw [if_pos (by kernel_rfl)]
  refine G52.str_wp _ _ rfl rfl ⟨#[32, 40]⟩ rfl (by show _ + 2 ≤ _; (try simp only [ll]); omega) ?_
  intro v54 w54 G54 gr54
  replace G54 : Sg w0 w L.length base _ w54 (L ++ [32, 40]) v54 := G54
  replace R52 := (gr54.block _ (Array.getElem?_eq_some_iff.1 R52).1 (fun e => F52 e.symm)).trans R52
  refine hK.out _ _ ⟨G54.cell (i := 4) rfl, cell_on hc00 G54.bel, cell_on hc01 G54.bel, cell_on hc02 G54.bel, cell_on hc03 G54.bel, cell_on hc04 G54.bel⟩ (fun hHeld => ?_)
  clear hK K G52
  try simp only [nrm]
  refine ra 6 fun K hK => ?_
  go_simp
  have H56 := S0 w0 w54 _ base (L ++ [32, 40]) v54 hv0 G54.bel G54.h0 G54.le G54.own hk0 (by (try simp only [ll]); omega) hsk0
  simp only [agg] at H56
  refine H56.mono ?_
  rintro e w56 ⟨v56, rfl, ho56, hw56⟩
  have G56 := G54.step hw56 ho56
  replace R52 := (hw56.small _ _ R52 (by simp)).trans R52
  clear H56 ho56 hw56
  go_wp2_with fail
  refine hK.out _ _ ⟨G56.cell (i := 4) rfl, cell_on hc00 G56.bel, cell_on hc01 G56.bel, cell_on hc02 G56.bel, cell_on hc03 G56.bel, cell_on hc04 G56.bel⟩ (fun hHeld => ?_)
  clear hK K G54
  try simp only [nrm]
  refine ra 8 fun K hK => ?_
  rw [if_pos (by kernel_rfl)]
  refine G56.row_wp _ _ rfl rfl (some ⟨g52, 0, none⟩) 1 1 [32] rfl (one_blk (by omega) (by omega) R52) (by omega) (by (try simp only [ll]); omega) ?_
  intro v58 w58 G58 gr58
  refine hK.out _ _ ⟨G58.cell (i := 4) rfl, cell_on hc00 G58.bel, cell_on hc01 G58.bel, cell_on hc02 G58.bel, cell_on hc03 G58.bel, cell_on hc04 G58.bel⟩ (fun hHeld => ?_)
  clear hK K G56
  try simp only [nrm]
  refine ta 9 ?_ hHeld
  try simp only [nrm]
  refine wpAnyH_done (by kernel_rfl) ?_ _
  have q1 := G58.cell (i := 1) rfl
  go_wp2_with fail
  have HO := l6opC n hsix w58
  refine HO.mono ?_
  rintro e w59 ⟨⟨so, rfl, hso⟩, hgo⟩
  have G59 := G58.grown hgo
  have hsz9 : so.size ≤ 1 := by rw [← size_sI, hso]; exact opI_le n
  clear HO hgo q1
  go_wp2_with (at_builtin; refine Sg.str_list G59 rfl _ _ rfl rfl so rfl (by simp only [List.length_append, List.length_cons, List.length_nil]; omega) ?_)
  intro v60 w60 G60 _
  replace G60 : Sg w0 w L.length base (fun x => Blk x gx 125 [.int .i64 3, .int .i64 n, .slice a2 nm c2, .slice a3 nn c3, .slice (some ⟨b4, o4, none⟩) 2 (cc + 1)]) w60 (L ++ [32, 40] ++ sayE e0 ++ [32] ++ opI n) v60 := by simpa [hso] using G60
  have hop := opI_le n
  have q4 := G60.cell (i := 4) rfl
  have d0 := cell_on hc10 G60.bel
  have d1 := cell_on hc11 G60.bel
  have d2 := cell_on hc12 G60.bel
  have d3 := cell_on hc13 G60.bel
  have d4 := cell_on hc14 G60.bel
  go_wp2_with fail
  have H61 := S1 w0 w60 _ base (L ++ [32, 40] ++ sayE e0 ++ [32] ++ opI n) v60 hv1 G60.bel G60.h0 G60.le G60.own hk1 (by (try simp only [ll]); omega) hsk1
  simp only [agg] at H61
  refine H61.mono ?_
  rintro e w61 ⟨v61, rfl, ho61, hw61⟩
  have G61 := G60.step hw61 ho61
  clear H61 ho61 hw61
  clear q4 d0 d1 d2 d3 d4
  go_wp2_with (at_builtin; refine Sg.str_list G61 rfl _ _ rfl rfl ⟨#[32, 41]⟩ rfl (by show _ + 2 ≤ _; (try simp only [ll]); omega) ?_)
  intro v62 w62 G62 gr62
  replace G62 := G62.cast (M := L ++ [32, 40] ++ sayE e0 ++ [32] ++ opI n ++ sayE e1 ++ [32, 41]) (by simp [show sI ⟨#[32, 41]⟩ = [32, 41] from rfl])
  go_wp2_with fail
  go_ret
  rw [HE.out]
  exact ⟨_, rfl, G62.own, G62.wrote⟩

set_option maxHeartbeats 4000000 in
theorem sayEx4 (n : Int) (mod name : List Int) (ks : List Ex) : SayEx (.mk 4 n mod name ks) := by
 intro w0 w vs base L v hr hb h0 hle ho hok hsz hs
 obtain ⟨hlc, hks⟩ := okEx_loc hok
 have hs' : mod.length ≤ 1048576 ∧ name.length ≤ 1048576 := by simp only [Ex.fl, recLen, Fl.len] at hs; omega
 have hsk : rowsLen (exs ks) ≤ 1048576 := by simp only [Ex.fl, recLen, Fl.len] at hs; omega
 unfold Ex.fl at hr
 obtain ⟨y0, _, rfl, rfl, y1, _, rfl, rfl, y2, _, rfl, ⟨a2, c2, rfl, h2, hc2, _⟩, y3, _, rfl, ⟨a3, c3, rfl, h3, hc3, _⟩, y4, _, rfl, h4', rfl⟩ := hr
 obtain ⟨a4, c4, rfl, h4⟩ := h4'.list
 clear h4'
 have hkl : (exs ks).length = ks.length := by simp [exs_map]
 rw [hkl]
 simp only [agg]
 have hk9 : ks.length ≤ 9223372036854775807 := by have h5 := h4.cap; have h6 := h4.most; unfold maxLen at h6; omega
 obtain ⟨nk, hnk⟩ : ∃ z, z = ks.length := ⟨_, rfl⟩
 rw [← hnk] at hk9 ⊢
 have HNK : Hid (ks.length = nk) := hnk.symm
 clear hnk
 obtain ⟨nn, hnn⟩ : ∃ z, z = name.length := ⟨_, rfl⟩
 obtain ⟨nm, hnm⟩ : ∃ z, z = mod.length := ⟨_, rfl⟩
 rw [← hnn] at h3 hs' hc3 ⊢
 rw [← hnm] at h2 hs' hc2 ⊢
 have HNA : Hid (name.length = nn) := hnn.symm
 have HMO : Hid (mod.length = nm) := hnm.symm
 clear hnn hnm hs
 have HE : Hid (L ++ sayE (.mk 4 n mod name ks) = L ++ [32, 73, 78]) := by show _ = _; simp [sayE, sayEs, exSay, List.append_assoc]
 have hsz2 : (L ++ [32, 73, 78]).length ≤ 1000000000 := by rw [← HE.out, List.length_append]; exact hsz
 simp only [List.length_append, List.length_cons, List.length_nil] at hsz2
 have hL : L.length ≤ 1000000000 := by omega
 have x0 := Blk.new w 125 [.int .i64 4, .int .i64 n, .slice a2 nm c2, .slice a3 nn c3, .slice a4 nk c4]
 have G0 : Sg w0 w L.length base (fun x => Blk x w.heap.size 125 [.int .i64 4, .int .i64 n, .slice a2 nm c2, .slice a3 nn c3, .slice a4 nk c4]) (w.alloc (.cells #[.int .i64 4, .int .i64 n, .slice a2 nm c2, .slice a3 nn c3, .slice a4 nk c4] 125 (0, 0))) L v := ⟨ho.alloc _, x0, keep_blk (by decide), Wr.of (grown_alloc w _ none), Nat.le_refl _, hb.alloc hb.size _, by simp; omega, h0⟩
 have q0 := x0.cell (i := 0) rfl
 clear x0 ho hb hok hsz
 go_enter Tryz.func144, Tryz.ntmps144
 go_upto_region 1 with fail
 generalize w.alloc (.cells #[.int .i64 4, .int .i64 n, .slice a2 nm c2, .slice a3 nn c3, .slice a4 nk c4] 125 (0, 0)) = w1 at *
 generalize w.heap.size = gx at *
 go_wp2_with (at_builtin; refine Sg.str_list G0 rfl _ _ rfl rfl ⟨#[32, 73, 78]⟩ rfl (by show _ + 3 ≤ _; omega) ?_)
 intro v1 w2 G1 _
 replace G1 : Sg w0 w L.length base _ w2 (L ++ [32, 73, 78]) v1 := G1
 go_wp2_with fail
 go_ret
 rw [HE.out]
 exact ⟨_, rfl, G1.own, G1.wrote⟩

set_option maxHeartbeats 4000000 in
theorem sayEx5 (n : Int) (mod name : List Int) (ks : List Ex) : SayEx (.mk 5 n mod name ks) := by
 intro w0 w vs base L v hr hb h0 hle ho hok hsz hs
 obtain ⟨hlc, hks⟩ := okEx_loc hok
 have hs' : mod.length ≤ 1048576 ∧ name.length ≤ 1048576 := by simp only [Ex.fl, recLen, Fl.len] at hs; omega
 have hsk : rowsLen (exs ks) ≤ 1048576 := by simp only [Ex.fl, recLen, Fl.len] at hs; omega
 unfold Ex.fl at hr
 obtain ⟨y0, _, rfl, rfl, y1, _, rfl, rfl, y2, _, rfl, ⟨a2, c2, rfl, h2, hc2, _⟩, y3, _, rfl, ⟨a3, c3, rfl, h3, hc3, _⟩, y4, _, rfl, h4', rfl⟩ := hr
 obtain ⟨a4, c4, rfl, h4⟩ := h4'.list
 clear h4'
 have hkl : (exs ks).length = ks.length := by simp [exs_map]
 rw [hkl]
 simp only [agg]
 have hk9 : ks.length ≤ 9223372036854775807 := by have h5 := h4.cap; have h6 := h4.most; unfold maxLen at h6; omega
 obtain ⟨nk, hnk⟩ : ∃ z, z = ks.length := ⟨_, rfl⟩
 rw [← hnk] at hk9 ⊢
 have HNK : Hid (ks.length = nk) := hnk.symm
 clear hnk
 obtain ⟨nn, hnn⟩ : ∃ z, z = name.length := ⟨_, rfl⟩
 obtain ⟨nm, hnm⟩ : ∃ z, z = mod.length := ⟨_, rfl⟩
 rw [← hnn] at h3 hs' hc3 ⊢
 rw [← hnm] at h2 hs' hc2 ⊢
 have HNA : Hid (name.length = nn) := hnn.symm
 have HMO : Hid (mod.length = nm) := hnm.symm
 have hnp : 0 < nn := by rw [hnn]; exact name_pos (loc_name hlc (by decide))
 clear hnn hnm hs
 have HE : Hid (L ++ sayE (.mk 5 n mod name ks) = L ++ [32, 76, 69, 78, 32] ++ name) := by show _ = _; simp [sayE, sayEs, exSay, List.append_assoc]
 have hsz2 : (L ++ [32, 76, 69, 78, 32] ++ name).length ≤ 1000000000 := by rw [← HE.out, List.length_append]; exact hsz
 simp only [List.length_append, List.length_cons, List.length_nil] at hsz2
 have hL : L.length ≤ 1000000000 := by omega
 have x0 := Blk.new w 125 [.int .i64 5, .int .i64 n, .slice a2 nm c2, .slice a3 nn c3, .slice a4 nk c4]
 have G0 : Sg w0 w L.length base (fun x => Blk x w.heap.size 125 [.int .i64 5, .int .i64 n, .slice a2 nm c2, .slice a3 nn c3, .slice a4 nk c4]) (w.alloc (.cells #[.int .i64 5, .int .i64 n, .slice a2 nm c2, .slice a3 nn c3, .slice a4 nk c4] 125 (0, 0))) L v := ⟨ho.alloc _, x0, keep_blk (by decide), Wr.of (grown_alloc w _ none), Nat.le_refl _, hb.alloc hb.size _, by simp; omega, h0⟩
 have q0 := x0.cell (i := 0) rfl
 clear x0 ho hb hok hsz
 go_enter Tryz.func144, Tryz.ntmps144
 go_upto_region 1 with fail
 generalize w.alloc (.cells #[.int .i64 5, .int .i64 n, .slice a2 nm c2, .slice a3 nn c3, .slice a4 nk c4] 125 (0, 0)) = w1 at *
 generalize w.heap.size = gx at *
 go_upto_region 16 with fail
 clear q0
 have G63 := G0.drew
 refine wp_region_held_drew (S := fun wx => wx.cell? ⟨gx, 3, none⟩ = some (.slice a3 nn c3)) (by kernel_rfl) (G63.cell (i := 3) rfl) (fun hHeld => ?_)
 generalize w1.drew = w63 at *
 clear G0
 refine ta 0 ?_ hHeld
 refine ta 2 ?_ hHeld
 refine ta 3 ?_ hHeld
 try simp only [nrm]
 refine ra 1 fun K hK => ?_
 rw [if_pos (by kernel_rfl)]
 refine G63.str_wp _ _ rfl rfl ⟨#[32, 76, 69, 78, 32]⟩ rfl (by show _ + 5 ≤ _; (try simp only [ll]); omega) ?_
 intro v65 w65 G65 gr65
 replace G65 : Sg w0 w L.length base _ w65 (L ++ [32, 76, 69, 78, 32]) v65 := G65
 refine hK.out _ _ (G65.cell (i := 3) rfl) (fun hHeld => ?_)
 clear hK K G63
 try simp only [nrm]
 refine ra 4 fun K hK => ?_
 rw [if_pos (by kernel_rfl)]
 refine G65.row_wp _ _ rfl rfl a3 nn c3 name rfl (G65.row h3) hnp (by (try simp only [ll]); omega) ?_
 intro v67 w67 G67 gr67
 refine hK.out _ _ (G67.cell (i := 3) rfl) (fun hHeld => ?_)
 clear hK K G65
 try simp only [nrm]
 refine ta 5 ?_ hHeld
 try simp only [nrm]
 refine wpAnyH_done (by kernel_rfl) ?_ _
 go_wp2_with fail
 go_ret
 rw [HE.out]
 exact ⟨_, rfl, G67.own, G67.wrote⟩

set_option maxHeartbeats 4000000 in
theorem sayEx7 (n : Int) (mod name : List Int) (ks : List Ex) : SayEx (.mk 7 n mod name ks) := by
 intro w0 w vs base L v hr hb h0 hle ho hok hsz hs
 obtain ⟨hlc, hks⟩ := okEx_loc hok
 have hs' : mod.length ≤ 1048576 ∧ name.length ≤ 1048576 := by simp only [Ex.fl, recLen, Fl.len] at hs; omega
 have hsk : rowsLen (exs ks) ≤ 1048576 := by simp only [Ex.fl, recLen, Fl.len] at hs; omega
 unfold Ex.fl at hr
 obtain ⟨y0, _, rfl, rfl, y1, _, rfl, rfl, y2, _, rfl, ⟨a2, c2, rfl, h2, hc2, _⟩, y3, _, rfl, ⟨a3, c3, rfl, h3, hc3, _⟩, y4, _, rfl, h4', rfl⟩ := hr
 obtain ⟨a4, c4, rfl, h4⟩ := h4'.list
 clear h4'
 have hkl : (exs ks).length = ks.length := by simp [exs_map]
 rw [hkl]
 simp only [agg]
 have hk9 : ks.length ≤ 9223372036854775807 := by have h5 := h4.cap; have h6 := h4.most; unfold maxLen at h6; omega
 obtain ⟨nk, hnk⟩ : ∃ z, z = ks.length := ⟨_, rfl⟩
 rw [← hnk] at hk9 ⊢
 have HNK : Hid (ks.length = nk) := hnk.symm
 clear hnk
 obtain ⟨nn, hnn⟩ : ∃ z, z = name.length := ⟨_, rfl⟩
 obtain ⟨nm, hnm⟩ : ∃ z, z = mod.length := ⟨_, rfl⟩
 rw [← hnn] at h3 hs' hc3 ⊢
 rw [← hnm] at h2 hs' hc2 ⊢
 have HNA : Hid (name.length = nn) := hnn.symm
 have HMO : Hid (mod.length = nm) := hnm.symm
 have hnp : 0 < nn := by rw [hnn]; exact name_pos (loc_name hlc (by decide))
 clear hnn hnm hs
 have HE : Hid (L ++ sayE (.mk 7 n mod name ks) = L ++ [32, 64, 32] ++ name) := by show _ = _; simp [sayE, sayEs, exSay, List.append_assoc]
 have hsz2 : (L ++ [32, 64, 32] ++ name).length ≤ 1000000000 := by rw [← HE.out, List.length_append]; exact hsz
 simp only [List.length_append, List.length_cons, List.length_nil] at hsz2
 have hL : L.length ≤ 1000000000 := by omega
 have x0 := Blk.new w 125 [.int .i64 7, .int .i64 n, .slice a2 nm c2, .slice a3 nn c3, .slice a4 nk c4]
 have G0 : Sg w0 w L.length base (fun x => Blk x w.heap.size 125 [.int .i64 7, .int .i64 n, .slice a2 nm c2, .slice a3 nn c3, .slice a4 nk c4]) (w.alloc (.cells #[.int .i64 7, .int .i64 n, .slice a2 nm c2, .slice a3 nn c3, .slice a4 nk c4] 125 (0, 0))) L v := ⟨ho.alloc _, x0, keep_blk (by decide), Wr.of (grown_alloc w _ none), Nat.le_refl _, hb.alloc hb.size _, by simp; omega, h0⟩
 have q0 := x0.cell (i := 0) rfl
 clear x0 ho hb hok hsz
 go_enter Tryz.func144, Tryz.ntmps144
 go_upto_region 1 with fail
 generalize w.alloc (.cells #[.int .i64 7, .int .i64 n, .slice a2 nm c2, .slice a3 nn c3, .slice a4 nk c4] 125 (0, 0)) = w1 at *
 generalize w.heap.size = gx at *
 go_upto_region 18 with fail
 clear q0
 have G68 := G0.drew
 refine wp_region_held_drew (S := fun wx => wx.cell? ⟨gx, 3, none⟩ = some (.slice a3 nn c3)) (by kernel_rfl) (G68.cell (i := 3) rfl) (fun hHeld => ?_)
 generalize w1.drew = w68 at *
 clear G0
 refine ta 0 ?_ hHeld
 refine ta 2 ?_ hHeld
 refine ta 3 ?_ hHeld
 try simp only [nrm]
 refine ra 1 fun K hK => ?_
 rw [if_pos (by kernel_rfl)]
 refine G68.str_wp _ _ rfl rfl ⟨#[32, 64, 32]⟩ rfl (by show _ + 3 ≤ _; (try simp only [ll]); omega) ?_
 intro v70 w70 G70 gr70
 replace G70 : Sg w0 w L.length base _ w70 (L ++ [32, 64, 32]) v70 := G70
 refine hK.out _ _ (G70.cell (i := 3) rfl) (fun hHeld => ?_)
 clear hK K G68
 try simp only [nrm]
 refine ra 4 fun K hK => ?_
 rw [if_pos (by kernel_rfl)]
 refine G70.row_wp _ _ rfl rfl a3 nn c3 name rfl (G70.row h3) hnp (by (try simp only [ll]); omega) ?_
 intro v72 w72 G72 gr72
 refine hK.out _ _ (G72.cell (i := 3) rfl) (fun hHeld => ?_)
 clear hK K G70
 try simp only [nrm]
 refine ta 5 ?_ hHeld
 try simp only [nrm]
 refine wpAnyH_done (by kernel_rfl) ?_ _
 go_wp2_with fail
 go_ret
 rw [HE.out]
 exact ⟨_, rfl, G72.own, G72.wrote⟩

end Go.Proofs.YtopnodadggohiaaGreatDoor

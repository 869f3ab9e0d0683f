/- What the specification writes of calls, and so of all expressions. By mkspsay6.py. -/
import Derived.Test.YtopnodadggohiaaGreatDoorSpSay
import Derived.Test.YtopnodadggohiaaGreatDoorPackJ
namespace Go.Proofs.YtopnodadggohiaaGreatDoor
open Go.RowKit
set_option linter.unusedVariables false
set_option linter.unusedSimpArgs false
set_option maxRecDepth 100000

set_option maxHeartbeats 8000000 in
theorem sayEx6 (n : Int) (mod name : List Int) (ks : List Ex) (S : ∀ x ∈ ks, SayEx x) : SayEx (.mk 6 n mod name ks) := by
 intro w0 w vs base L v hr hb h0 hle ho hok hsz hs
 obtain ⟨hlc, hks⟩ := okEx_loc hok
 have hs' : mod.length ≤ 1048576 ∧ name.length ≤ 1048576 := by simp only [Ex.fl, recLen, Fl.len] at hs; omega
 have hsk : rowsLen (exs ks) ≤ 1048576 := by simp only [Ex.fl, recLen, Fl.len] at hs; omega
 unfold Ex.fl at hr
 obtain ⟨y0, _, rfl, rfl, y1, _, rfl, rfl, y2, _, rfl, ⟨a2, c2, rfl, h2, hc2, _⟩, y3, _, rfl, ⟨a3, c3, rfl, h3, hc3, _⟩, y4, _, rfl, h4', rfl⟩ := hr
 obtain ⟨a4, c4, rfl, h4⟩ := h4'.list
 clear h4'
 have hkl : (exs ks).length = ks.length := by simp [exs_map]
 rw [hkl]
 simp only [agg]
 have hk9 : ks.length ≤ 9223372036854775807 := by have h5 := h4.cap; have h6 := h4.most; unfold maxLen at h6; omega
 obtain ⟨nk, hnk⟩ : ∃ z, z = ks.length := ⟨_, rfl⟩
 rw [← hnk] at hk9 ⊢
 have HNK : Hid (ks.length = nk) := hnk.symm
 clear hnk
 obtain ⟨nn, hnn⟩ : ∃ z, z = name.length := ⟨_, rfl⟩
 obtain ⟨nm, hnm⟩ : ∃ z, z = mod.length := ⟨_, rfl⟩
 rw [← hnn] at h3 hs' hc3 ⊢
 rw [← hnm] at h2 hs' hc2 ⊢
 have HNA : Hid (name.length = nn) := hnn.symm
 have HMO : Hid (mod.length = nm) := hnm.symm
 have hnp : 0 < nn := by rw [hnn]; exact name_pos (loc_name hlc (by decide))
 clear hnn hnm hs
 have HR : Hid (LRow w0 a4 c4 5 (exs ks)) := h4
 have HOK : Hid (∀ x ∈ ks, okEx x = true) := by rw [okExs_all, List.all_eq_true] at hks; exact hks
 have HS : Hid (∀ x ∈ ks, SayEx x) := S
 clear h4 hks S
 by_cases hm : nm = 0
 ·
  subst hm
  obtain ⟨PRE, hPRE⟩ : ∃ P, P = [32] ++ name ++ [32, 40] := ⟨_, rfl⟩
  have HPE : Hid ([32] ++ name ++ [32, 40] = PRE) := hPRE.symm
  have HE : Hid (L ++ sayE (.mk 6 n mod name ks) = L ++ PRE ++ joinI [32, 44] (ks.map sayE) ++ [32, 41]) := by
   show _ = _
   rw [hPRE]
   have e6 : sayE (.mk 6 n mod name ks) = (if mod.length = 0 then [] else [32] ++ mod ++ [32, 46]) ++ [32] ++ name ++ [32, 40] ++ joinI [32, 44] (ks.map sayE) ++ [32, 41] := by rw [sayE, sayEs_map]; rfl
   rw [e6, if_pos HMO.out]
   simp [List.append_assoc]
  have hsz2 : (L ++ PRE ++ joinI [32, 44] (ks.map sayE) ++ [32, 41]).length ≤ 1000000000 := by rw [← HE.out, List.length_append]; exact hsz
  have hprl : PRE.length ≤ 4000000 := by rw [hPRE]; simp only [List.length_append, List.length_cons, List.length_nil, HNA.out, HMO.out]; omega
  clear hPRE
  simp only [List.length_append, List.length_cons, List.length_nil] at hsz2
  have hnl : name.length ≤ 1048576 := by rw [HNA.out]; omega
  have hml : mod.length ≤ 1048576 := by rw [HMO.out]; omega
  have hL : L.length ≤ 1000000000 := by omega
  have x0 := Blk.new w 125 [.int .i64 6, .int .i64 n, .slice a2 0 c2, .slice a3 nn c3, .slice a4 nk c4]
  have G0 : Sg w0 w L.length base (fun x => Blk x w.heap.size 125 [.int .i64 6, .int .i64 n, .slice a2 0 c2, .slice a3 nn c3, .slice a4 nk c4]) (w.alloc (.cells #[.int .i64 6, .int .i64 n, .slice a2 0 c2, .slice a3 nn c3, .slice a4 nk c4] 125 (0, 0))) L v := ⟨ho.alloc _, x0, keep_blk (by decide), Wr.of (grown_alloc w _ none), Nat.le_refl _, hb.alloc hb.size _, by simp; omega, h0⟩
  have q0 := x0.cell (i := 0) rfl
  clear x0 ho hb hok hsz
  go_enter Tryz.func144, Tryz.ntmps144
  go_upto_region 1 with fail
  generalize w.alloc (.cells #[.int .i64 6, .int .i64 n, .slice a2 0 c2, .slice a3 nn c3, .slice a4 nk c4] 125 (0, 0)) = w1 at *
  generalize w.heap.size = gx at *
  have q2 := G0.cell (i := 2) rfl
  go_upto_region 21 with fail
  clear q0 q2
  have G73 := G0.drew
  refine wp_region_held_drew (S := fun wx => wx.cell? ⟨gx, 3, none⟩ = some (.slice a3 nn c3)) (by kernel_rfl) (G73.cell (i := 3) rfl) (fun hHeld => ?_)
  generalize w1.drew = w73 at *
  clear G0
  refine ta 0 ?_ hHeld
  refine ta 3 ?_ hHeld
  refine ta 4 ?_ hHeld
  try simp only [nrm]
  refine ra 1 fun K hK => ?_
  go_simp
  have R75 : (w73.alloc (.cells #[.int .u8 32] 5)).heap[w73.heap.size]? = some (Obj.cells #[.int .u8 32] 5 (0, 0)) := heap_alloc_new w73 _
  have F75 := G73.free
  have G75 := G73.alloc (.cells #[.int .u8 32] 5)
  refine hK.out _ _ (G75.cell (i := 3) rfl) (fun hHeld => ?_)
  clear hK K G73
  try simp only [nrm]
  generalize w73.alloc (.cells #[.int .u8 32] 5) = w75 at *
  generalize w73.heap.size = g75 at *
  refine ra 2 fun K hK => ?_
  rw [if_pos (by kernel_rfl)]
  refine G75.row_wp _ _ rfl rfl (some ⟨g75, 0, none⟩) 1 1 [32] rfl (one_blk (by omega) (by omega) R75) (by omega) (by (try simp only [ll]); omega) ?_
  intro v77 w77 G77 gr77
  refine hK.out _ _ (G77.cell (i := 3) rfl) (fun hHeld => ?_)
  clear hK K G75
  try simp only [nrm]
  refine ra 5 fun K hK => ?_
  rw [if_pos (by kernel_rfl)]
  refine G77.row_wp _ _ rfl rfl a3 nn c3 name rfl (G77.row h3) hnp (by (try simp only [ll]); omega) ?_
  intro v79 w79 G79 gr79
  refine hK.out _ _ (G79.cell (i := 3) rfl) (fun hHeld => ?_)
  clear hK K G77
  try simp only [nrm]
  refine ra 6 fun K hK => ?_
  rw [if_pos (by kernel_rfl)]
  refine G79.str_wp _ _ rfl rfl ⟨#[32, 40]⟩ rfl (by show _ + 2 ≤ _; (try simp only [ll]); omega) ?_
  intro v81 w81 G81 gr81
  replace G81 : Sg w0 w L.length base _ w81 (L ++ [32] ++ name ++ [32, 40]) v81 := G81
  refine hK.out _ _ (G81.cell (i := 3) rfl) (fun hHeld => ?_)
  clear hK K G79
  try simp only [nrm]
  refine ta 7 ?_ hHeld
  try simp only [nrm]
  refine wpAnyH_done (by kernel_rfl) ?_ _
  have HPR : Hid (L ++ [32] ++ name ++ [32, 40] = L ++ PRE) := by show _ = _; rw [← HPE.out]; simp [List.append_assoc]
  have HG : Hid (Sg w0 w L.length base (fun x => Blk x gx 125 [.int .i64 6, .int .i64 n, .slice a2 0 c2, .slice a3 nn c3, .slice a4 nk c4]) w81 (L ++ PRE ++ joinI [32, 44] ((ks.map sayE).take 0)) v81) := by have := G81; rw [HPR.out] at this; show Sg _ _ _ _ _ _ _ _; simpa [joinI] using this
  clear G81 HPR
  go_wp2_with fail
  go_loopw [0, 5] (fun b i wr => ∃ j : Nat, j ≤ nk ∧ i = .int .i64 j ∧ Hid (Sg w0 w L.length base (fun x => Blk x gx 125 [.int .i64 6, .int .i64 n, .slice a2 0 c2, .slice a3 nn c3, .slice a4 nk c4]) wr (L ++ PRE ++ joinI [32, 44] ((ks.map sayE).take j)) b)) (fun _ i _ => nk - (intOf i).toNat)
  case atStart => exact ⟨0, Nat.zero_le _, rfl, HG⟩
  case round =>
   obtain ⟨j, hj, rfl, hGr⟩ := hrel
   have Gr := hGr.out
   clear HG hGr
   have q4 := Gr.cell (i := 4) rfl
   by_cases hlt : j < nk
   ·
    obtain ⟨b4, o4, rfl⟩ := LRow.addr HR.out (by rw [hkl, HNK.out]; omega)
    obtain ⟨x, hx⟩ : ∃ x, ks[j]? = some x := ⟨ks[j]'(by rw [HNK.out]; exact hlt), List.getElem?_eq_getElem _⟩
    have hxj : (exs ks)[j]? = some x.fl := by rw [exs_map, List.getElem?_map, hx]; rfl
    obtain ⟨us, hvs, hcl⟩ := (LRow.el HR.out hxj).vals
    obtain ⟨t0, t1, t2, t3, t4, rfl⟩ := say_five (hvs.len.trans (exs_len x))
    have hsx : recLen x.fl ≤ 1048576 := Nat.le_trans (recLen_le (List.mem_of_getElem? hxj)) hsk
    have hokx := HOK.out x (List.mem_of_getElem? hx)
    have hjt : (ks.map sayE)[j]? = some (sayE x) := by rw [List.getElem?_map, hx]; rfl
    have HJ : Hid (joinI [32, 44] ((ks.map sayE).take (j + 1)) = if j = 0 then sayE x else joinI [32, 44] ((ks.map sayE).take j) ++ [32, 44] ++ sayE x) := joinI_next hjt
    have hlen : (joinI [32, 44] ((ks.map sayE).take (j + 1))).length ≤ (joinI [32, 44] (ks.map sayE)).length := joinI_take _ _ _ (by rw [List.length_map, HNK.out]; omega)
    have HSX := HS.out x (List.mem_of_getElem? hx)
    have c0 : w0.cell? ⟨b4, o4 + j * 5, none⟩ = some t0 := hcl 0 _ rfl
    have c1 : w0.cell? ⟨b4, o4 + j * 5 + 1, none⟩ = some t1 := hcl 1 _ rfl
    have c2' : w0.cell? ⟨b4, o4 + j * 5 + 2, none⟩ = some t2 := hcl 2 _ rfl
    have c3' : w0.cell? ⟨b4, o4 + j * 5 + 3, none⟩ = some t3 := hcl 3 _ rfl
    have c4' : w0.cell? ⟨b4, o4 + j * 5 + 4, none⟩ = some t4 := hcl 4 _ rfl
    clear hcl hx hxj hjt
    have hs2 : (joinI [32, 44] ((ks.map sayE).take j)).length + (if j = 0 then 0 else 2) + (sayE x).length ≤ (joinI [32, 44] (ks.map sayE)).length := by
     rw [HJ.out] at hlen
     split at hlen
     ·
      rename_i h9; subst h9; simp [joinI]; omega
     ·
      rename_i h9; rw [if_neg h9]; simp only [List.length_append, List.length_cons, List.length_nil] at hlen; omega
    clear hlen
    by_cases hj0 : j = 0
    ·
     subst hj0
     rw [if_pos rfl] at hs2
     simp only [Nat.zero_mul, Nat.add_zero] at c0 c1 c2' c3' c4'
     clear q4
     have q4 := Gr.cell (i := 4) rfl
     have d0 := cell_on c0 Gr.bel
     have d1 := cell_on c1 Gr.bel
     have d2 := cell_on c2' Gr.bel
     have d3 := cell_on c3' Gr.bel
     have d4 := cell_on c4' Gr.bel
     have HC := HSX w0 wr _ base (L ++ PRE ++ joinI [32, 44] ((ks.map sayE).take 0)) _ hvs Gr.bel Gr.h0 Gr.le Gr.own hokx (by (try simp only [ll]); omega) hsx
     simp only [agg] at HC
     go_wp2_with fail
     refine HC.mono ?_
     rintro e w82 ⟨v82, rfl, ho82, hw82⟩
     have HN : Hid (Sg w0 w L.length base (fun x => Blk x gx 125 [.int .i64 6, .int .i64 n, .slice a2 0 c2, .slice a3 nn c3, .slice (some ⟨b4, o4, none⟩) nk c4]) w82 (L ++ PRE ++ joinI [32, 44] ((ks.map sayE).take (0 + 1))) v82) := by
      have := Gr.step hw82 ho82
      show Sg _ _ _ _ _ _ _ _
      rw [HJ.out]
      simpa [joinI, List.append_assoc] using this
     clear HC q4 d0 d1 d2 d3 d4 ho82 hw82 Gr
     go_wp2_with fail
     go_roundw
     case rel => exact ⟨1, by omega, rfl, HN⟩
     case measure => simp [intOf]; omega
    ·
     have hpos' : (0 : Int) < (j : Int) := by omega
     rw [if_neg hj0] at hs2
     go_wp2_with (at_builtin; refine Sg.str_list Gr rfl _ _ rfl rfl ⟨#[32, 44]⟩ rfl (by show _ + 2 ≤ _; (try simp only [ll]); omega) ?_)
     intro v83 w83 G83 _
     replace G83 := G83.cast (M := L ++ PRE ++ joinI [32, 44] ((ks.map sayE).take j) ++ [32, 44]) (by simp [show sI ⟨#[32, 44]⟩ = [32, 44] from rfl])
     clear Gr
     clear q4
     have q4 := G83.cell (i := 4) rfl
     have d0 := cell_on c0 G83.bel
     have d1 := cell_on c1 G83.bel
     have d2 := cell_on c2' G83.bel
     have d3 := cell_on c3' G83.bel
     have d4 := cell_on c4' G83.bel
     have HC := HSX w0 w83 _ base (L ++ PRE ++ joinI [32, 44] ((ks.map sayE).take j) ++ [32, 44]) _ hvs G83.bel G83.h0 G83.le G83.own hokx (by (try simp only [ll]); omega) hsx
     simp only [agg] at HC
     go_wp2_with fail
     refine HC.mono ?_
     rintro e w84 ⟨v84, rfl, ho84, hw84⟩
     have HN : Hid (Sg w0 w L.length base (fun x => Blk x gx 125 [.int .i64 6, .int .i64 n, .slice a2 0 c2, .slice a3 nn c3, .slice (some ⟨b4, o4, none⟩) nk c4]) w84 (L ++ PRE ++ joinI [32, 44] ((ks.map sayE).take (j + 1))) v84) := by
      have := G83.step hw84 ho84
      show Sg _ _ _ _ _ _ _ _
      rw [HJ.out, if_neg hj0]
      simpa [joinI, List.append_assoc] using this
     clear HC q4 d0 d1 d2 d3 d4 ho84 hw84 G83
     go_wp2_with fail
     go_roundw
     case rel => exact ⟨j + 1, by omega, by go_num, HN⟩
     case measure => simp [intOf]; omega
   ·
    have : nk = j := by omega
    subst this
    rw [List.take_of_length_le (by rw [List.length_map, HNK.out]; exact Nat.le_refl _)] at Gr
    go_wp2_with (at_builtin; refine Sg.str_list Gr rfl _ _ rfl rfl ⟨#[32, 41]⟩ rfl (by show _ + 2 ≤ _; (try simp only [ll]); omega) ?_)
    intro v85 w85 G85 _
    replace G85 := G85.cast (M := L ++ PRE ++ joinI [32, 44] (ks.map sayE) ++ [32, 41]) (by simp [show sI ⟨#[32, 41]⟩ = [32, 41] from rfl])
    clear Gr
    go_wp2_with fail
    go_ret
    rw [HE.out]
    exact ⟨_, rfl, G85.own, G85.wrote⟩
 ·
  have hm' : (0 : Int) < (nm : Int) := by omega
  obtain ⟨PRE, hPRE⟩ : ∃ P, P = [32] ++ mod ++ [32, 46] ++ [32] ++ name ++ [32, 40] := ⟨_, rfl⟩
  have HPE : Hid ([32] ++ mod ++ [32, 46] ++ [32] ++ name ++ [32, 40] = PRE) := hPRE.symm
  have HE : Hid (L ++ sayE (.mk 6 n mod name ks) = L ++ PRE ++ joinI [32, 44] (ks.map sayE) ++ [32, 41]) := by
   show _ = _
   rw [hPRE]
   have e6 : sayE (.mk 6 n mod name ks) = (if mod.length = 0 then [] else [32] ++ mod ++ [32, 46]) ++ [32] ++ name ++ [32, 40] ++ joinI [32, 44] (ks.map sayE) ++ [32, 41] := by rw [sayE, sayEs_map]; rfl
   rw [e6, if_neg (by rw [HMO.out]; exact hm)]
   simp [List.append_assoc]
  have hsz2 : (L ++ PRE ++ joinI [32, 44] (ks.map sayE) ++ [32, 41]).length ≤ 1000000000 := by rw [← HE.out, List.length_append]; exact hsz
  have hprl : PRE.length ≤ 4000000 := by rw [hPRE]; simp only [List.length_append, List.length_cons, List.length_nil, HNA.out, HMO.out]; omega
  clear hPRE
  simp only [List.length_append, List.length_cons, List.length_nil] at hsz2
  have hnl : name.length ≤ 1048576 := by rw [HNA.out]; omega
  have hml : mod.length ≤ 1048576 := by rw [HMO.out]; omega
  have hL : L.length ≤ 1000000000 := by omega
  have x0 := Blk.new w 125 [.int .i64 6, .int .i64 n, .slice a2 nm c2, .slice a3 nn c3, .slice a4 nk c4]
  have G0 : Sg w0 w L.length base (fun x => Blk x w.heap.size 125 [.int .i64 6, .int .i64 n, .slice a2 nm c2, .slice a3 nn c3, .slice a4 nk c4]) (w.alloc (.cells #[.int .i64 6, .int .i64 n, .slice a2 nm c2, .slice a3 nn c3, .slice a4 nk c4] 125 (0, 0))) L v := ⟨ho.alloc _, x0, keep_blk (by decide), Wr.of (grown_alloc w _ none), Nat.le_refl _, hb.alloc hb.size _, by simp; omega, h0⟩
  have q0 := x0.cell (i := 0) rfl
  clear x0 ho hb hok hsz
  go_enter Tryz.func144, Tryz.ntmps144
  go_upto_region 1 with fail
  generalize w.alloc (.cells #[.int .i64 6, .int .i64 n, .slice a2 nm c2, .slice a3 nn c3, .slice a4 nk c4] 125 (0, 0)) = w1 at *
  generalize w.heap.size = gx at *
  have q2 := G0.cell (i := 2) rfl
  go_upto_region 20 with fail
  clear q0 q2
  have G86 := G0.drew
  refine wp_region_held_drew (S := fun wx => wx.cell? ⟨gx, 2, none⟩ = some (.slice a2 nm c2)) (by kernel_rfl) (G86.cell (i := 2) rfl) (fun hHeld => ?_)
  generalize w1.drew = w86 at *
  clear G0
  refine ta 0 ?_ hHeld
  refine ta 3 ?_ hHeld
  refine ta 4 ?_ hHeld
  try simp only [nrm]
  refine ra 1 fun K hK => ?_
  go_simp
  have R88 : (w86.alloc (.cells #[.int .u8 32] 5)).heap[w86.heap.size]? = some (Obj.cells #[.int .u8 32] 5 (0, 0)) := heap_alloc_new w86 _
  have F88 := G86.free
  have G88 := G86.alloc (.cells #[.int .u8 32] 5)
  refine hK.out _ _ (G88.cell (i := 2) rfl) (fun hHeld => ?_)
  clear hK K G86
  try simp only [nrm]
  generalize w86.alloc (.cells #[.int .u8 32] 5) = w88 at *
  generalize w86.heap.size = g88 at *
  refine ra 2 fun K hK => ?_
  rw [if_pos (by kernel_rfl)]
  refine G88.row_wp _ _ rfl rfl (some ⟨g88, 0, none⟩) 1 1 [32] rfl (one_blk (by omega) (by omega) R88) (by omega) (by (try simp only [ll]); omega) ?_
  intro v90 w90 G90 gr90
  refine hK.out _ _ (G90.cell (i := 2) rfl) (fun hHeld => ?_)
  clear hK K G88
  try simp only [nrm]
  refine ra 5 fun K hK => ?_
  rw [if_pos (by kernel_rfl)]
  refine G90.row_wp _ _ rfl rfl a2 nm c2 mod rfl (G90.row h2) (by omega) (by (try simp only [ll]); omega) ?_
  intro v92 w92 G92 gr92
  refine hK.out _ _ (G92.cell (i := 2) rfl) (fun hHeld => ?_)
  clear hK K G90
  try simp only [nrm]
  refine ra 6 fun K hK => ?_
  rw [if_pos (by kernel_rfl)]
  refine G92.str_wp _ _ rfl rfl ⟨#[32, 46]⟩ rfl (by show _ + 2 ≤ _; (try simp only [ll]); omega) ?_
  intro v94 w94 G94 gr94
  replace G94 : Sg w0 w L.length base _ w94 (L ++ [32] ++ mod ++ [32, 46]) v94 := G94
  refine hK.out _ _ (G94.cell (i := 2) rfl) (fun hHeld => ?_)
  clear hK K G92
  try simp only [nrm]
  refine ta 7 ?_ hHeld
  try simp only [nrm]
  refine wpAnyH_done (by kernel_rfl) ?_ _
  go_upto_region 21 with fail
  skip
  have G95 := G94.drew
  refine wp_region_held_drew (S := fun wx => wx.cell? ⟨gx, 3, none⟩ = some (.slice a3 nn c3)) (by kernel_rfl) (G95.cell (i := 3) rfl) (fun hHeld => ?_)
  generalize w94.drew = w95 at *
  clear G94
  refine ta 0 ?_ hHeld
  refine ta 3 ?_ hHeld
  refine ta 4 ?_ hHeld
  try simp only [nrm]
  refine ra 1 fun K hK => ?_
  go_simp
  have R97 : (w95.alloc (.cells #[.int .u8 32] 5)).heap[w95.heap.size]? = some (Obj.cells #[.int .u8 32] 5 (0, 0)) := heap_alloc_new w95 _
  have F97 := G95.free
  have G97 := G95.alloc (.cells #[.int .u8 32] 5)
  refine hK.out _ _ (G97.cell (i := 3) rfl) (fun hHeld => ?_)
  clear hK K G95
  try simp only [nrm]
  generalize w95.alloc (.cells #[.int .u8 32] 5) = w97 at *
  generalize w95.heap.size = g97 at *
  refine ra 2 fun K hK => ?_
  rw [if_pos (by kernel_rfl)]
  refine G97.row_wp _ _ rfl rfl (some ⟨g97, 0, none⟩) 1 1 [32] rfl (one_blk (by omega) (by omega) R97) (by omega) (by (try simp only [ll]); omega) ?_
  intro v99 w99 G99 gr99
  refine hK.out _ _ (G99.cell (i := 3) rfl) (fun hHeld => ?_)
  clear hK K G97
  try simp only [nrm]
  refine ra 5 fun K hK => ?_
  rw [if_pos (by kernel_rfl)]
  refine G99.row_wp _ _ rfl rfl a3 nn c3 name rfl (G99.row h3) hnp (by (try simp only [ll]); omega) ?_
  intro v101 w101 G101 gr101
  refine hK.out _ _ (G101.cell (i := 3) rfl) (fun hHeld => ?_)
  clear hK K G99
  try simp only [nrm]
  refine ra 6 fun K hK => ?_
  rw [if_pos (by kernel_rfl)]
  refine G101.str_wp _ _ rfl rfl ⟨#[32, 40]⟩ rfl (by show _ + 2 ≤ _; (try simp only [ll]); omega) ?_
  intro v103 w103 G103 gr103
  replace G103 : Sg w0 w L.length base _ w103 (L ++ [32] ++ mod ++ [32, 46] ++ [32] ++ name ++ [32, 40]) v103 := G103
  refine hK.out _ _ (G103.cell (i := 3) rfl) (fun hHeld => ?_)
  clear hK K G101
  try simp only [nrm]
  refine ta 7 ?_ hHeld
  try simp only [nrm]
  refine wpAnyH_done (by kernel_rfl) ?_ _
  have HPR : Hid (L ++ [32] ++ mod ++ [32, 46] ++ [32] ++ name ++ [32, 40] = L ++ PRE) := by show _ = _; rw [← HPE.out]; simp [List.append_assoc]
  have HG : Hid (Sg w0 w L.length base (fun x => Blk x gx 125 [.int .i64 6, .int .i64 n, .slice a2 nm c2, .slice a3 nn c3, .slice a4 nk c4]) w103 (L ++ PRE ++ joinI [32, 44] ((ks.map sayE).take 0)) v103) := by have := G103; rw [HPR.out] at this; show Sg _ _ _ _ _ _ _ _; simpa [joinI] using this
  clear G103 HPR
  go_wp2_with fail
  go_loopw [0, 5] (fun b i wr => ∃ j : Nat, j ≤ nk ∧ i = .int .i64 j ∧ Hid (Sg w0 w L.length base (fun x => Blk x gx 125 [.int .i64 6, .int .i64 n, .slice a2 nm c2, .slice a3 nn c3, .slice a4 nk c4]) wr (L ++ PRE ++ joinI [32, 44] ((ks.map sayE).take j)) b)) (fun _ i _ => nk - (intOf i).toNat)
  case atStart => exact ⟨0, Nat.zero_le _, rfl, HG⟩
  case round =>
   obtain ⟨j, hj, rfl, hGr⟩ := hrel
   have Gr := hGr.out
   clear HG hGr
   have q4 := Gr.cell (i := 4) rfl
   by_cases hlt : j < nk
   ·
    obtain ⟨b4, o4, rfl⟩ := LRow.addr HR.out (by rw [hkl, HNK.out]; omega)
    obtain ⟨x, hx⟩ : ∃ x, ks[j]? = some x := ⟨ks[j]'(by rw [HNK.out]; exact hlt), List.getElem?_eq_getElem _⟩
    have hxj : (exs ks)[j]? = some x.fl := by rw [exs_map, List.getElem?_map, hx]; rfl
    obtain ⟨us, hvs, hcl⟩ := (LRow.el HR.out hxj).vals
    obtain ⟨t0, t1, t2, t3, t4, rfl⟩ := say_five (hvs.len.trans (exs_len x))
    have hsx : recLen x.fl ≤ 1048576 := Nat.le_trans (recLen_le (List.mem_of_getElem? hxj)) hsk
    have hokx := HOK.out x (List.mem_of_getElem? hx)
    have hjt : (ks.map sayE)[j]? = some (sayE x) := by rw [List.getElem?_map, hx]; rfl
    have HJ : Hid (joinI [32, 44] ((ks.map sayE).take (j + 1)) = if j = 0 then sayE x else joinI [32, 44] ((ks.map sayE).take j) ++ [32, 44] ++ sayE x) := joinI_next hjt
    have hlen : (joinI [32, 44] ((ks.map sayE).take (j + 1))).length ≤ (joinI [32, 44] (ks.map sayE)).length := joinI_take _ _ _ (by rw [List.length_map, HNK.out]; omega)
    have HSX := HS.out x (List.mem_of_getElem? hx)
    have c0 : w0.cell? ⟨b4, o4 + j * 5, none⟩ = some t0 := hcl 0 _ rfl
    have c1 : w0.cell? ⟨b4, o4 + j * 5 + 1, none⟩ = some t1 := hcl 1 _ rfl
    have c2' : w0.cell? ⟨b4, o4 + j * 5 + 2, none⟩ = some t2 := hcl 2 _ rfl
    have c3' : w0.cell? ⟨b4, o4 + j * 5 + 3, none⟩ = some t3 := hcl 3 _ rfl
    have c4' : w0.cell? ⟨b4, o4 + j * 5 + 4, none⟩ = some t4 := hcl 4 _ rfl
    clear hcl hx hxj hjt
    have hs2 : (joinI [32, 44] ((ks.map sayE).take j)).length + (if j = 0 then 0 else 2) + (sayE x).length ≤ (joinI [32, 44] (ks.map sayE)).length := by
     rw [HJ.out] at hlen
     split at hlen
     ·
      rename_i h9; subst h9; simp [joinI]; omega
     ·
      rename_i h9; rw [if_neg h9]; simp only [List.length_append, List.length_cons, List.length_nil] at hlen; omega
    clear hlen
    by_cases hj0 : j = 0
    ·
     subst hj0
     rw [if_pos rfl] at hs2
     simp only [Nat.zero_mul, Nat.add_zero] at c0 c1 c2' c3' c4'
     clear q4
     have q4 := Gr.cell (i := 4) rfl
     have d0 := cell_on c0 Gr.bel
     have d1 := cell_on c1 Gr.bel
     have d2 := cell_on c2' Gr.bel
     have d3 := cell_on c3' Gr.bel
     have d4 := cell_on c4' Gr.bel
     have HC := HSX w0 wr _ base (L ++ PRE ++ joinI [32, 44] ((ks.map sayE).take 0)) _ hvs Gr.bel Gr.h0 Gr.le Gr.own hokx (by (try simp only [ll]); omega) hsx
     simp only [agg] at HC
     go_wp2_with fail
     refine HC.mono ?_
     rintro e w104 ⟨v104, rfl, ho104, hw104⟩
     have HN : Hid (Sg w0 w L.length base (fun x => Blk x gx 125 [.int .i64 6, .int .i64 n, .slice a2 nm c2, .slice a3 nn c3, .slice (some ⟨b4, o4, none⟩) nk c4]) w104 (L ++ PRE ++ joinI [32, 44] ((ks.map sayE).take (0 + 1))) v104) := by
      have := Gr.step hw104 ho104
      show Sg _ _ _ _ _ _ _ _
      rw [HJ.out]
      simpa [joinI, List.append_assoc] using this
     clear HC q4 d0 d1 d2 d3 d4 ho104 hw104 Gr
     go_wp2_with fail
     go_roundw
     case rel => exact ⟨1, by omega, rfl, HN⟩
     case measure => simp [intOf]; omega
    ·
     have hpos' : (0 : Int) < (j : Int) := by omega
     rw [if_neg hj0] at hs2
     go_wp2_with (at_builtin; refine Sg.str_list Gr rfl _ _ rfl rfl ⟨#[32, 44]⟩ rfl (by show _ + 2 ≤ _; (try simp only [ll]); omega) ?_)
     intro v105 w105 G105 _
     replace G105 := G105.cast (M := L ++ PRE ++ joinI [32, 44] ((ks.map sayE).take j) ++ [32, 44]) (by simp [show sI ⟨#[32, 44]⟩ = [32, 44] from rfl])
     clear Gr
     clear q4
     have q4 := G105.cell (i := 4) rfl
     have d0 := cell_on c0 G105.bel
     have d1 := cell_on c1 G105.bel
     have d2 := cell_on c2' G105.bel
     have d3 := cell_on c3' G105.bel
     have d4 := cell_on c4' G105.bel
     have HC := HSX w0 w105 _ base (L ++ PRE ++ joinI [32, 44] ((ks.map sayE).take j) ++ [32, 44]) _ hvs G105.bel G105.h0 G105.le G105.own hokx (by (try simp only [ll]); omega) hsx
     simp only [agg] at HC
     go_wp2_with fail
     refine HC.mono ?_
     rintro e w106 ⟨v106, rfl, ho106, hw106⟩
     have HN : Hid (Sg w0 w L.length base (fun x => Blk x gx 125 [.int .i64 6, .int .i64 n, .slice a2 nm c2, .slice a3 nn c3, .slice (some ⟨b4, o4, none⟩) nk c4]) w106 (L ++ PRE ++ joinI [32, 44] ((ks.map sayE).take (j + 1))) v106) := by
      have := G105.step hw106 ho106
      show Sg _ _ _ _ _ _ _ _
      rw [HJ.out, if_neg hj0]
      simpa [joinI, List.append_assoc] using this
     clear HC q4 d0 d1 d2 d3 d4 ho106 hw106 G105
     go_wp2_with fail
     go_roundw
     case rel => exact ⟨j + 1, by omega, by go_num, HN⟩
     case measure => simp [intOf]; omega
   ·
    have : nk = j := by omega
    subst this
    rw [List.take_of_length_le (by rw [List.length_map, HNK.out]; exact Nat.le_refl _)] at Gr
    go_wp2_with (at_builtin; refine Sg.str_list Gr rfl _ _ rfl rfl ⟨#[32, 41]⟩ rfl (by show _ + 2 ≤ _; (try simp only [ll]); omega) ?_)
    intro v107 w107 G107 _
    replace G107 := G107.cast (M := L ++ PRE ++ joinI [32, 44] (ks.map sayE) ++ [32, 41]) (by simp [show sI ⟨#[32, 41]⟩ = [32, 41] from rfl])
    clear Gr
    go_wp2_with fail
    go_ret
    rw [HE.out]
    exact ⟨_, rfl, G107.own, G107.wrote⟩

theorem sayEx_of {x : Ex} (h : okEx x = true → SayEx x) : SayEx x := by
 intro w0 w vs base L v h1 h2 h3 h4 h5 h6
 exact h h6 w0 w vs base L v h1 h2 h3 h4 h5 h6
mutual
theorem sayEx : ∀ x : Ex, SayEx x
 | .mk k n m a ks => by
  have H := sayExs ks
  refine sayEx_of fun hok => ?_
  obtain ⟨h1, h2⟩ := okEx_loc hok
  have h3 := k_len h1
  have h8 : k = 0 ∨ k = 1 ∨ k = 2 ∨ k = 3 ∨ k = 4 ∨ k = 5 ∨ k = 6 ∨ k = 7 := by omega
  rcases h8 with rfl | rfl | rfl | rfl | rfl | rfl | rfl | rfl
  ·
   exact sayEx0 n m a ks
  ·
   exact sayEx1 n m a ks
  ·
   simp [exLeast, exMost] at h3
   match ks, H with
   | [x], H => exact sayEx2 n m a x (H x (by simp))
   | [], _ => simp at h3
   | _ :: _ :: _, _ => simp at h3; omega
  ·
   simp [exLeast, exMost] at h3
   match ks, H with
   | [x, y], H => exact sayEx3 n m a x (H x (by simp)) y (H y (by simp))
   | [], _ => simp at h3
   | [_], _ => simp at h3
   | _ :: _ :: _ :: _, _ => simp at h3; omega
  ·
   exact sayEx4 n m a ks
  ·
   exact sayEx5 n m a ks
  ·
   exact sayEx6 n m a ks H
  ·
   exact sayEx7 n m a ks
theorem sayExs : ∀ (l : List Ex), ∀ x ∈ l, SayEx x
 | [], x, h => by simp at h
 | y :: l, x, h => by
  rcases List.mem_cons.1 h with h | h
  ·
   rw [h]; exact sayEx y
  ·
   exact sayExs l x h
end
end Go.Proofs.YtopnodadggohiaaGreatDoor

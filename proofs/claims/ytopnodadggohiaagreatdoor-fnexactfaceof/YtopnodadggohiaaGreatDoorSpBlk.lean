/- What the specification writes of blocks. By mkspblk.py. -/
import Derived.Test.YtopnodadggohiaaGreatDoorSpSay6
import Derived.Test.YtopnodadggohiaaGreatDoorPackJ
namespace Go.Proofs.YtopnodadggohiaaGreatDoor
open Go.RowKit
set_option linter.unusedVariables false
set_option linter.unusedSimpArgs false
set_option maxRecDepth 100000

def SayB (l : List St) : Prop := ∀ (w0 w : World) (a : Option Addr) (c base : Nat) (L : List Int) (v : Value), LRow w0 a c 6 (sts l) → Below w0.heap.size w0 w → w0.heap.size ≤ base → base ≤ w.heap.size → Own w base v L.length L → okSts l = true → L.length + (prB l).length ≤ 1000000000 → rowsLen (sts l) ≤ 1048576 →
 Calls Tryz.prog 108 #[v, .slice a l.length c] w fun e w' => ∃ v', e = .returned v' ∧ Own w' base v' (L ++ prB l).length (L ++ prB l) ∧ Wr L.length base w w'

theorem Sg.with {w0 ws w : World} {n0 base : Nat} {B C : World → Prop} {L : List Int} {v : Value} (h : Sg w0 ws n0 base B w L v) (hc : C w) (hk : ∀ x y, C x → Wrote base none x y → C y) : Sg w0 ws n0 base C w L v :=
 ⟨h.own, hc, hk, h.wrote, h.hn, h.bel, h.le, h.h0⟩
theorem Sg.any {w0 ws w : World} {n0 base : Nat} {B : World → Prop} {L : List Int} {v : Value} (h : Sg w0 ws n0 base B w L v) : Sg w0 ws n0 base (fun _ => True) w L v := h.with trivial (fun _ _ _ _ => trivial)
theorem blk_one {α : Type} {l : List α} (h : l.length = 1) : ∃ x, l = [x] := by
 match l, h with
 | [x], _ => exact ⟨x, rfl⟩
theorem blk_two {α : Type} {l : List α} (h : l.length = 2) : ∃ x y, l = [x, y] := by
 match l, h with
 | [x, y], _ => exact ⟨x, y, rfl⟩

set_option maxHeartbeats 16000000 in
theorem sayBR (l : List St) (H : ∀ k n name ks bs es, St.mk k n name ks bs es ∈ l → SayB bs ∧ SayB es) : SayB l := by
 intro w0 w a c base L v hr hb h0 hle ho hok hsz hs
 have hln : (sts l).length = l.length := by simp [sts_map]
 have hn9 : l.length ≤ 9223372036854775807 := by have h7 := hr.cap; have h6 := hr.most; unfold maxLen at h6; omega
 obtain ⟨nl, hnl⟩ : ∃ z, z = l.length := ⟨_, rfl⟩
 rw [← hnl] at hln hn9 ⊢
 have HNL : Hid (l.length = nl) := hnl.symm
 clear hnl
 have HH : Hid (∀ k n name ks bs es, St.mk k n name ks bs es ∈ l → SayB bs ∧ SayB es) := H
 have HR : Hid (LRow w0 a c 6 (sts l)) := hr
 have HOK : Hid (∀ x ∈ l, okSt x = true) := by rw [okSts_all, List.all_eq_true] at hok; exact hok
 have HG : Hid (Sg w0 w L.length base (fun _ => True) w (L ++ prB (l.take 0)) v) := by
  show Sg _ _ _ _ _ _ _ _
  have : Sg w0 w L.length base (fun _ => True) w L v := ⟨ho, trivial, fun _ _ _ _ => trivial, Wr.refl _ _ _, Nat.le_refl _, hb, hle, h0⟩
  simpa [prB] using this
 clear H hr hok ho hb
 go_enter Tryz.func108, Tryz.ntmps108
 go_wp2_with fail
 go_loopw [0, 5, 6] (fun b i _ wr => ∃ j : Nat, j ≤ nl ∧ i = .int .i64 j ∧ Hid (Sg w0 w L.length base (fun _ => True) wr (L ++ prB (l.take j)) b)) (fun _ i _ _ => nl - (intOf i).toNat)
 case atStart => exact ⟨0, Nat.zero_le _, rfl, HG⟩
 case round =>
  obtain ⟨j, hj, rfl, hGr⟩ := hrel
  have Gr := hGr.out
  clear HG hGr
  by_cases hlt : j < nl
  ·
   obtain ⟨b3, o3, rfl⟩ := LRow.addr HR.out (by rw [hln]; omega)
   obtain ⟨x, hx⟩ : ∃ x, l[j]? = some x := ⟨l[j]'(by rw [HNL.out]; exact hlt), List.getElem?_eq_getElem _⟩
   have hxj : (sts l)[j]? = some x.fl := by rw [sts_map, List.getElem?_map, hx]; rfl
   obtain ⟨us, hvs, hcl⟩ := (LRow.el HR.out hxj).vals
   have hsx : recLen x.fl ≤ 1048576 := Nat.le_trans (recLen_le (List.mem_of_getElem? hxj)) hs
   have hokx := HOK.out x (List.mem_of_getElem? hx)
   have HNX : Hid (prB (l.take (j + 1)) = prB (l.take j) ++ prS x) := prB_next hx
   obtain ⟨k, n, name, ks, bs, es⟩ := x
   obtain ⟨HSB, HSE⟩ : Hid (SayB bs) ∧ Hid (SayB es) := HH.out k n name ks bs es (List.mem_of_getElem? hx)
   obtain ⟨hloc, hks, hokb', hoke'⟩ := okSt_parts hokx
   have hokb : Hid (okSts bs = true) := hokb'
   have hoke : Hid (okSts es = true) := hoke'
   clear hokb' hoke' hokx hx hxj
   have es9 : recLen (St.mk k n name ks bs es).fl = name.length + ((exs ks).length + rowsLen (exs ks)) + ((sts bs).length + rowsLen (sts bs)) + ((sts es).length + rowsLen (sts es)) := by simp [St.fl, recLen, Fl.len] <;> omega
   rw [es9] at hsx
   have hs1 : name.length ≤ 1048576 := by omega
   have hs2 : rowsLen (exs ks) ≤ 1048576 := by omega
   have hs3 : rowsLen (sts bs) ≤ 1048576 := by omega
   have hs4 : rowsLen (sts es) ≤ 1048576 := by omega
   clear hsx es9
   unfold St.fl at hvs
   obtain ⟨y0, _, rfl, rfl, y1, _, rfl, rfl, y2, _, rfl, ⟨a2, c2, rfl, h2, hc2, _⟩, y3, _, rfl, h3', y4, _, rfl, h4', y5, _, rfl, h5', rfl⟩ := hvs
   obtain ⟨a3, c3, rfl, h3⟩ := h3'.list
   obtain ⟨a4, c4, rfl, h4⟩ := h4'.list
   obtain ⟨a5, c5, rfl, h5⟩ := h5'.list
   clear h3' h4' h5'
   have HRB : Hid (LRow w0 a4 c4 6 (sts bs)) := h4
   have HRE : Hid (LRow w0 a5 c5 6 (sts es)) := h5
   have t0 : wr.cell? ⟨b3, o3 + j * 6, none⟩ = some (.int .i64 k) := cell_on (hcl 0 _ rfl) Gr.bel
   have t1 : wr.cell? ⟨b3, o3 + j * 6 + 1, none⟩ = some (.int .i64 n) := cell_on (hcl 1 _ rfl) Gr.bel
   have t2 : wr.cell? ⟨b3, o3 + j * 6 + 2, none⟩ = some (.slice a2 name.length c2) := cell_on (hcl 2 _ rfl) Gr.bel
   have t3 : wr.cell? ⟨b3, o3 + j * 6 + 3, none⟩ = some (.slice a3 (exs ks).length c3) := cell_on (hcl 3 _ rfl) Gr.bel
   have t4 : wr.cell? ⟨b3, o3 + j * 6 + 4, none⟩ = some (.slice a4 (sts bs).length c4) := cell_on (hcl 4 _ rfl) Gr.bel
   have t5 : wr.cell? ⟨b3, o3 + j * 6 + 5, none⟩ = some (.slice a5 (sts es).length c5) := cell_on (hcl 5 _ rfl) Gr.bel
   clear hcl h4 h5
   have hbl : (sts bs).length = bs.length := by simp [sts_map]
   have hel : (sts es).length = es.length := by simp [sts_map]
   rw [hbl] at t4
   rw [hel] at t5
   clear hbl hel
   obtain ⟨nn, hnn⟩ : ∃ z, z = name.length := ⟨_, rfl⟩
   rw [← hnn] at h2 hs1 hc2 t2
   have HNA : Hid (name.length = nn) := hnn.symm
   obtain ⟨nb, hnb⟩ : ∃ z, z = bs.length := ⟨_, rfl⟩
   obtain ⟨ne, hne⟩ : ∃ z, z = es.length := ⟨_, rfl⟩
   rw [← hnb] at t4
   rw [← hne] at t5
   have HNB : Hid (bs.length = nb) := hnb.symm
   have HNE : Hid (es.length = ne) := hne.symm
   clear hnn hnb hne
   obtain ⟨hlen1, hlen2, hlen3, _⟩ := sloc_len hloc
   have h8 : k = 0 ∨ k = 1 ∨ k = 2 ∨ k = 3 ∨ k = 4 ∨ k = 5 ∨ k = 6 ∨ k = 7 := by omega
   clear hlen2 hlen3
   rcases h8 with rfl | rfl | rfl | rfl | rfl | rfl | rfl | rfl
   ·
    simp [stLeast] at hlen1
    obtain ⟨e0, rfl⟩ := blk_one (l := ks) (by omega)
    have hkl : (exs [e0]).length = 1 := by simp [exs_map]
    rw [hkl] at t3
    obtain ⟨b4, o4, rfl⟩ := h3.addr (by rw [hkl]; omega)
    obtain ⟨cc, rfl⟩ : ∃ cc, c3 = cc + 1 := ⟨c3 - 1, by have := h3.cap; rw [hkl] at this; omega⟩
    simp only [okExs, Bool.and_eq_true, and_true] at hks
    obtain ⟨us0, hv0, hcl0⟩ := (h3.el (i := 0) rfl).vals
    obtain ⟨u00, u01, u02, u03, u04, rfl⟩ := say_five (hv0.len.trans (exs_len e0))
    have hc00 : w0.cell? ⟨b4, o4, none⟩ = some u00 := by have := hcl0 0 _ rfl; simpa [Nat.add_assoc] using this
    have hc01 : w0.cell? ⟨b4, o4 + 1, none⟩ = some u01 := by have := hcl0 1 _ rfl; simpa [Nat.add_assoc] using this
    have hc02 : w0.cell? ⟨b4, o4 + 2, none⟩ = some u02 := by have := hcl0 2 _ rfl; simpa [Nat.add_assoc] using this
    have hc03 : w0.cell? ⟨b4, o4 + 3, none⟩ = some u03 := by have := hcl0 3 _ rfl; simpa [Nat.add_assoc] using this
    have hc04 : w0.cell? ⟨b4, o4 + 4, none⟩ = some u04 := by have := hcl0 4 _ rfl; simpa [Nat.add_assoc] using this
    clear hcl0
    have hsk0 : recLen e0.fl ≤ 1048576 := by simp only [exs, rowsLen] at hs2; omega
    have hk0 := hks
    have S0 := sayEx e0
    have sw0 := say_pr e0 hk0
    unfold Sw at sw0
    have HE : Hid (prS (.mk 0 n name [e0] bs es) = name ++ [32, 58, 61] ++ sayE e0 ++ [32, 59, 10]) := by
     show _ = _
     have e9 : prS (.mk 0 n name [e0] bs es) = name ++ [32, 58, 61] ++ (32 :: prE e0) ++ [59, 10] := by simp [prS, prEs, stText]
     rw [e9, sw0]
     simp [List.append_assoc]
    have hsz2 : (L ++ prB (l.take j) ++ (name ++ [32, 58, 61] ++ sayE e0 ++ [32, 59, 10])).length ≤ 1000000000 := by rw [← HE.out, List.append_assoc, ← HNX.out]; have := prB_take l (j + 1); simp only [List.length_append] at this ⊢; omega
    simp only [List.length_append, List.length_cons, List.length_nil] at hsz2
    have hnp : 0 < nn := by rw [← HNA.out]; exact name_pos (sloc_name hloc (by decide))
    clear hloc h3
    have x0 := Blk.new wr 121 [.int .i64 0, .int .i64 n, .slice a2 nn c2, .slice (some ⟨b4, o4, none⟩) 1 (cc + 1), .slice a4 nb c4, .slice a5 ne c5]
    have Gs : Sg w0 w L.length base (fun x => Blk x wr.heap.size 121 [.int .i64 0, .int .i64 n, .slice a2 nn c2, .slice (some ⟨b4, o4, none⟩) 1 (cc + 1), .slice a4 nb c4, .slice a5 ne c5]) (wr.alloc (.cells #[.int .i64 0, .int .i64 n, .slice a2 nn c2, .slice (some ⟨b4, o4, none⟩) 1 (cc + 1), .slice a4 nb c4, .slice a5 ne c5] 121 (0, 0))) (L ++ prB (l.take j)) u0 := (Gr.alloc _).with x0 (keep_blk (by decide))
    have q0 := x0.cell (i := 0) rfl
    clear x0 Gr
    go_upto_region 5 with fail
    generalize wr.alloc (.cells #[.int .i64 0, .int .i64 n, .slice a2 nn c2, .slice (some ⟨b4, o4, none⟩) 1 (cc + 1), .slice a4 nb c4, .slice a5 ne c5] 121 (0, 0)) = w1 at *
    generalize wr.heap.size = gx at *
    clear t0 t1 t2 t3 t4 t5
    go_upto_region 8 with fail
    clear q0
    have G73 := Gs.drew
    refine wp_region_held_drew (S := fun wx => wx.cell? ⟨gx, 2, none⟩ = some (.slice a2 nn c2) ∧ wx.cell? ⟨gx, 3, none⟩ = some (.slice (some ⟨b4, o4, none⟩) 1 (cc + 1)) ∧ wx.cell? ⟨b4, o4, none⟩ = some u00 ∧ wx.cell? ⟨b4, o4 + 1, none⟩ = some u01 ∧ wx.cell? ⟨b4, o4 + 2, none⟩ = some u02 ∧ wx.cell? ⟨b4, o4 + 3, none⟩ = some u03 ∧ wx.cell? ⟨b4, o4 + 4, none⟩ = some u04) (by kernel_rfl) ⟨G73.cell (i := 2) rfl, G73.cell (i := 3) rfl, cell_on hc00 G73.bel, cell_on hc01 G73.bel, cell_on hc02 G73.bel, cell_on hc03 G73.bel, cell_on hc04 G73.bel⟩ (fun hHeld => ?_)
    generalize w1.drew = w73 at *
    clear Gs
    refine ta 0 ?_ hHeld
    refine ta 1 ?_ hHeld
    refine ta 2 ?_ hHeld
    try simp only [nrm]
    refine ta 5 ?_ hHeld
    refine ta 6 ?_ hHeld
    refine ta 7 ?_ hHeld
    try simp only [nrm]
    refine ta 8 ?_ hHeld
    try simp only [nrm]
    refine ra 3 fun K hK => ?_
    rw [if_pos (by kernel_rfl)]
    refine G73.row_wp _ _ rfl rfl a2 nn c2 name rfl (G73.row h2) hnp (by (try simp only [ll]); omega) ?_
    intro v75 w75 G75 gr75
    refine hK.out _ _ ⟨G75.cell (i := 2) rfl, G75.cell (i := 3) rfl, cell_on hc00 G75.bel, cell_on hc01 G75.bel, cell_on hc02 G75.bel, cell_on hc03 G75.bel, cell_on hc04 G75.bel⟩ (fun hHeld => ?_)
    clear hK K G73
    try simp only [nrm]
    refine ra 4 fun K hK => ?_
    rw [if_pos (by kernel_rfl)]
    refine G75.str_wp _ _ rfl rfl ⟨#[32, 58, 61]⟩ rfl (by show _ + 3 ≤ _; (try simp only [ll]); omega) ?_
    intro v77 w77 G77 gr77
    replace G77 : Sg w0 w L.length base _ w77 (L ++ prB (l.take j) ++ name ++ [32, 58, 61]) v77 := G77
    refine hK.out _ _ ⟨G77.cell (i := 2) rfl, G77.cell (i := 3) rfl, cell_on hc00 G77.bel, cell_on hc01 G77.bel, cell_on hc02 G77.bel, cell_on hc03 G77.bel, cell_on hc04 G77.bel⟩ (fun hHeld => ?_)
    clear hK K G75
    try simp only [nrm]
    refine ra 9 fun K hK => ?_
    go_simp
    have H79 := S0 w0 w77 _ base (L ++ prB (l.take j) ++ name ++ [32, 58, 61]) v77 hv0 G77.bel G77.h0 G77.le G77.own hk0 (by (try simp only [ll]); omega) hsk0
    simp only [agg] at H79
    refine H79.mono ?_
    rintro e w79 ⟨v79, rfl, ho79, hw79⟩
    have G79 := G77.step hw79 ho79
    clear H79 ho79 hw79
    go_wp2_with fail
    refine hK.out _ _ ⟨G79.cell (i := 2) rfl, G79.cell (i := 3) rfl, cell_on hc00 G79.bel, cell_on hc01 G79.bel, cell_on hc02 G79.bel, cell_on hc03 G79.bel, cell_on hc04 G79.bel⟩ (fun hHeld => ?_)
    clear hK K G77
    try simp only [nrm]
    refine ta 10 ?_ hHeld
    try simp only [nrm]
    refine wpAnyH_done (by kernel_rfl) ?_ _
    go_wp2_with (at_builtin; refine Sg.str_list G79 rfl _ _ rfl rfl ⟨#[32, 59, 10]⟩ rfl (by show _ + 3 ≤ _; (try simp only [ll]); omega) ?_)
    intro v80 w80 G80 _
    replace G80 := G80.cast (M := L ++ prB (l.take j) ++ name ++ [32, 58, 61] ++ sayE e0 ++ [32, 59, 10]) (by simp [show sI ⟨#[32, 59, 10]⟩ = [32, 59, 10] from rfl])
    clear G79
    have HG' : Hid (Sg w0 w L.length base (fun _ => True) w80 (L ++ prB (l.take (j + 1))) v80) := by
     have := G80.any
     show Sg _ _ _ _ _ _ _ _
     rw [HNX.out, HE.out]
     simpa [List.append_assoc] using this
    clear G80
    go_wp2_with fail
    go_roundw
    case rel => exact ⟨j + 1, by omega, by go_num, HG'⟩
    case measure => simp [intOf]; omega
   ·
    simp [stLeast] at hlen1
    obtain ⟨e0, e1, rfl⟩ := blk_two (l := ks) (by omega)
    have hkl : (exs [e0, e1]).length = 2 := by simp [exs_map]
    rw [hkl] at t3
    obtain ⟨b4, o4, rfl⟩ := h3.addr (by rw [hkl]; omega)
    obtain ⟨cc, rfl⟩ : ∃ cc, c3 = cc + 2 := ⟨c3 - 2, by have := h3.cap; rw [hkl] at this; omega⟩
    simp only [okExs, Bool.and_eq_true, and_true] at hks
    obtain ⟨us0, hv0, hcl0⟩ := (h3.el (i := 0) rfl).vals
    obtain ⟨u00, u01, u02, u03, u04, rfl⟩ := say_five (hv0.len.trans (exs_len e0))
    have hc00 : w0.cell? ⟨b4, o4, none⟩ = some u00 := by have := hcl0 0 _ rfl; simpa [Nat.add_assoc] using this
    have hc01 : w0.cell? ⟨b4, o4 + 1, none⟩ = some u01 := by have := hcl0 1 _ rfl; simpa [Nat.add_assoc] using this
    have hc02 : w0.cell? ⟨b4, o4 + 2, none⟩ = some u02 := by have := hcl0 2 _ rfl; simpa [Nat.add_assoc] using this
    have hc03 : w0.cell? ⟨b4, o4 + 3, none⟩ = some u03 := by have := hcl0 3 _ rfl; simpa [Nat.add_assoc] using this
    have hc04 : w0.cell? ⟨b4, o4 + 4, none⟩ = some u04 := by have := hcl0 4 _ rfl; simpa [Nat.add_assoc] using this
    clear hcl0
    have hsk0 : recLen e0.fl ≤ 1048576 := by simp only [exs, rowsLen] at hs2; omega
    have hk0 := hks.1
    have S0 := sayEx e0
    have sw0 := say_pr e0 hk0
    unfold Sw at sw0
    obtain ⟨us1, hv1, hcl1⟩ := (h3.el (i := 1) rfl).vals
    obtain ⟨u10, u11, u12, u13, u14, rfl⟩ := say_five (hv1.len.trans (exs_len e1))
    have hc10 : w0.cell? ⟨b4, o4 + 5, none⟩ = some u10 := by have := hcl1 0 _ rfl; simpa [Nat.add_assoc] using this
    have hc11 : w0.cell? ⟨b4, o4 + 6, none⟩ = some u11 := by have := hcl1 1 _ rfl; simpa [Nat.add_assoc] using this
    have hc12 : w0.cell? ⟨b4, o4 + 7, none⟩ = some u12 := by have := hcl1 2 _ rfl; simpa [Nat.add_assoc] using this
    have hc13 : w0.cell? ⟨b4, o4 + 8, none⟩ = some u13 := by have := hcl1 3 _ rfl; simpa [Nat.add_assoc] using this
    have hc14 : w0.cell? ⟨b4, o4 + 9, none⟩ = some u14 := by have := hcl1 4 _ rfl; simpa [Nat.add_assoc] using this
    clear hcl1
    have hsk1 : recLen e1.fl ≤ 1048576 := by simp only [exs, rowsLen] at hs2; omega
    have hk1 := hks.2
    have S1 := sayEx e1
    have sw1 := say_pr e1 hk1
    unfold Sw at sw1
    have HE : Hid (prS (.mk 1 n name [e0, e1] bs es) = name ++ [32, 91] ++ sayE e0 ++ [32, 93, 32, 58, 61] ++ sayE e1 ++ [32, 59, 10]) := by
     show _ = _
     have e9 : prS (.mk 1 n name [e0, e1] bs es) = name ++ [32, 91] ++ (32 :: prE e0) ++ [93, 32, 58, 61] ++ (32 :: prE e1) ++ [59, 10] := by simp [prS, prEs, stText]
     rw [e9, sw0, sw1]
     simp [List.append_assoc]
    have hsz2 : (L ++ prB (l.take j) ++ (name ++ [32, 91] ++ sayE e0 ++ [32, 93, 32, 58, 61] ++ sayE e1 ++ [32, 59, 10])).length ≤ 1000000000 := by rw [← HE.out, List.append_assoc, ← HNX.out]; have := prB_take l (j + 1); simp only [List.length_append] at this ⊢; omega
    simp only [List.length_append, List.length_cons, List.length_nil] at hsz2
    have hnp : 0 < nn := by rw [← HNA.out]; exact name_pos (sloc_name hloc (by decide))
    clear hloc h3
    have x0 := Blk.new wr 121 [.int .i64 1, .int .i64 n, .slice a2 nn c2, .slice (some ⟨b4, o4, none⟩) 2 (cc + 2), .slice a4 nb c4, .slice a5 ne c5]
    have Gs : Sg w0 w L.length base (fun x => Blk x wr.heap.size 121 [.int .i64 1, .int .i64 n, .slice a2 nn c2, .slice (some ⟨b4, o4, none⟩) 2 (cc + 2), .slice a4 nb c4, .slice a5 ne c5]) (wr.alloc (.cells #[.int .i64 1, .int .i64 n, .slice a2 nn c2, .slice (some ⟨b4, o4, none⟩) 2 (cc + 2), .slice a4 nb c4, .slice a5 ne c5] 121 (0, 0))) (L ++ prB (l.take j)) u0 := (Gr.alloc _).with x0 (keep_blk (by decide))
    have q0 := x0.cell (i := 0) rfl
    clear x0 Gr
    go_upto_region 5 with fail
    generalize wr.alloc (.cells #[.int .i64 1, .int .i64 n, .slice a2 nn c2, .slice (some ⟨b4, o4, none⟩) 2 (cc + 2), .slice a4 nb c4, .slice a5 ne c5] 121 (0, 0)) = w1 at *
    generalize wr.heap.size = gx at *
    clear t0 t1 t2 t3 t4 t5
    go_upto_region 10 with fail
    clear q0
    have G81 := Gs.drew
    refine wp_region_held_drew (S := fun wx => wx.cell? ⟨gx, 2, none⟩ = some (.slice a2 nn c2) ∧ wx.cell? ⟨gx, 3, none⟩ = some (.slice (some ⟨b4, o4, none⟩) 2 (cc + 2)) ∧ wx.cell? ⟨b4, o4, none⟩ = some u00 ∧ wx.cell? ⟨b4, o4 + 1, none⟩ = some u01 ∧ wx.cell? ⟨b4, o4 + 2, none⟩ = some u02 ∧ wx.cell? ⟨b4, o4 + 3, none⟩ = some u03 ∧ wx.cell? ⟨b4, o4 + 4, none⟩ = some u04) (by kernel_rfl) ⟨G81.cell (i := 2) rfl, G81.cell (i := 3) rfl, cell_on hc00 G81.bel, cell_on hc01 G81.bel, cell_on hc02 G81.bel, cell_on hc03 G81.bel, cell_on hc04 G81.bel⟩ (fun hHeld => ?_)
    generalize w1.drew = w81 at *
    clear Gs
    refine ta 0 ?_ hHeld
    refine ta 1 ?_ hHeld
    refine ta 2 ?_ hHeld
    try simp only [nrm]
    refine ta 5 ?_ hHeld
    refine ta 6 ?_ hHeld
    refine ta 7 ?_ hHeld
    try simp only [nrm]
    refine ta 8 ?_ hHeld
    try simp only [nrm]
    refine ra 3 fun K hK => ?_
    rw [if_pos (by kernel_rfl)]
    refine G81.row_wp _ _ rfl rfl a2 nn c2 name rfl (G81.row h2) hnp (by (try simp only [ll]); omega) ?_
    intro v83 w83 G83 gr83
    refine hK.out _ _ ⟨G83.cell (i := 2) rfl, G83.cell (i := 3) rfl, cell_on hc00 G83.bel, cell_on hc01 G83.bel, cell_on hc02 G83.bel, cell_on hc03 G83.bel, cell_on hc04 G83.bel⟩ (fun hHeld => ?_)
    clear hK K G81
    try simp only [nrm]
    refine ra 4 fun K hK => ?_
    rw [if_pos (by kernel_rfl)]
    refine G83.str_wp _ _ rfl rfl ⟨#[32, 91]⟩ rfl (by show _ + 2 ≤ _; (try simp only [ll]); omega) ?_
    intro v85 w85 G85 gr85
    replace G85 : Sg w0 w L.length base _ w85 (L ++ prB (l.take j) ++ name ++ [32, 91]) v85 := G85
    refine hK.out _ _ ⟨G85.cell (i := 2) rfl, G85.cell (i := 3) rfl, cell_on hc00 G85.bel, cell_on hc01 G85.bel, cell_on hc02 G85.bel, cell_on hc03 G85.bel, cell_on hc04 G85.bel⟩ (fun hHeld => ?_)
    clear hK K G83
    try simp only [nrm]
    refine ra 9 fun K hK => ?_
    go_simp
    have H87 := S0 w0 w85 _ base (L ++ prB (l.take j) ++ name ++ [32, 91]) v85 hv0 G85.bel G85.h0 G85.le G85.own hk0 (by (try simp only [ll]); omega) hsk0
    simp only [agg] at H87
    refine H87.mono ?_
    rintro e w87 ⟨v87, rfl, ho87, hw87⟩
    have G87 := G85.step hw87 ho87
    clear H87 ho87 hw87
    go_wp2_with fail
    refine hK.out _ _ ⟨G87.cell (i := 2) rfl, G87.cell (i := 3) rfl, cell_on hc00 G87.bel, cell_on hc01 G87.bel, cell_on hc02 G87.bel, cell_on hc03 G87.bel, cell_on hc04 G87.bel⟩ (fun hHeld => ?_)
    clear hK K G85
    try simp only [nrm]
    refine ra 10 fun K hK => ?_
    rw [if_pos (by kernel_rfl)]
    refine G87.str_wp _ _ rfl rfl ⟨#[32, 93, 32, 58, 61]⟩ rfl (by show _ + 5 ≤ _; (try simp only [ll]); omega) ?_
    intro v89 w89 G89 gr89
    replace G89 : Sg w0 w L.length base _ w89 (L ++ prB (l.take j) ++ name ++ [32, 91] ++ sayE e0 ++ [32, 93, 32, 58, 61]) v89 := G89
    refine hK.out _ _ ⟨G89.cell (i := 2) rfl, G89.cell (i := 3) rfl, cell_on hc00 G89.bel, cell_on hc01 G89.bel, cell_on hc02 G89.bel, cell_on hc03 G89.bel, cell_on hc04 G89.bel⟩ (fun hHeld => ?_)
    clear hK K G87
    try simp only [nrm]
    refine ta 11 ?_ hHeld
    try simp only [nrm]
    refine wpAnyH_done (by kernel_rfl) ?_ _
    have q3 := G89.cell (i := 3) rfl
    have d0 := cell_on hc10 G89.bel
    have d1 := cell_on hc11 G89.bel
    have d2 := cell_on hc12 G89.bel
    have d3 := cell_on hc13 G89.bel
    have d4 := cell_on hc14 G89.bel
    go_wp2_with fail
    have H90 := S1 w0 w89 _ base (L ++ prB (l.take j) ++ name ++ [32, 91] ++ sayE e0 ++ [32, 93, 32, 58, 61]) v89 hv1 G89.bel G89.h0 G89.le G89.own hk1 (by (try simp only [ll]); omega) hsk1
    simp only [agg] at H90
    refine H90.mono ?_
    rintro e w90 ⟨v90, rfl, ho90, hw90⟩
    have G90 := G89.step hw90 ho90
    clear H90 ho90 hw90
    clear q3 d0 d1 d2 d3 d4 G89
    go_wp2_with (at_builtin; refine Sg.str_list G90 rfl _ _ rfl rfl ⟨#[32, 59, 10]⟩ rfl (by show _ + 3 ≤ _; (try simp only [ll]); omega) ?_)
    intro v91 w91 G91 _
    replace G91 := G91.cast (M := L ++ prB (l.take j) ++ name ++ [32, 91] ++ sayE e0 ++ [32, 93, 32, 58, 61] ++ sayE e1 ++ [32, 59, 10]) (by simp [show sI ⟨#[32, 59, 10]⟩ = [32, 59, 10] from rfl])
    clear G90
    have HG' : Hid (Sg w0 w L.length base (fun _ => True) w91 (L ++ prB (l.take (j + 1))) v91) := by
     have := G91.any
     show Sg _ _ _ _ _ _ _ _
     rw [HNX.out, HE.out]
     simpa [List.append_assoc] using this
    clear G91
    go_wp2_with fail
    go_roundw
    case rel => exact ⟨j + 1, by omega, by go_num, HG'⟩
    case measure => simp [intOf]; omega
   ·
    simp [stLeast] at hlen1
    obtain ⟨e0, rfl⟩ := blk_one (l := ks) (by omega)
    have hkl : (exs [e0]).length = 1 := by simp [exs_map]
    rw [hkl] at t3
    obtain ⟨b4, o4, rfl⟩ := h3.addr (by rw [hkl]; omega)
    obtain ⟨cc, rfl⟩ : ∃ cc, c3 = cc + 1 := ⟨c3 - 1, by have := h3.cap; rw [hkl] at this; omega⟩
    simp only [okExs, Bool.and_eq_true, and_true] at hks
    obtain ⟨us0, hv0, hcl0⟩ := (h3.el (i := 0) rfl).vals
    obtain ⟨u00, u01, u02, u03, u04, rfl⟩ := say_five (hv0.len.trans (exs_len e0))
    have hc00 : w0.cell? ⟨b4, o4, none⟩ = some u00 := by have := hcl0 0 _ rfl; simpa [Nat.add_assoc] using this
    have hc01 : w0.cell? ⟨b4, o4 + 1, none⟩ = some u01 := by have := hcl0 1 _ rfl; simpa [Nat.add_assoc] using this
    have hc02 : w0.cell? ⟨b4, o4 + 2, none⟩ = some u02 := by have := hcl0 2 _ rfl; simpa [Nat.add_assoc] using this
    have hc03 : w0.cell? ⟨b4, o4 + 3, none⟩ = some u03 := by have := hcl0 3 _ rfl; simpa [Nat.add_assoc] using this
    have hc04 : w0.cell? ⟨b4, o4 + 4, none⟩ = some u04 := by have := hcl0 4 _ rfl; simpa [Nat.add_assoc] using this
    clear hcl0
    have hsk0 : recLen e0.fl ≤ 1048576 := by simp only [exs, rowsLen] at hs2; omega
    have hk0 := hks
    have S0 := sayEx e0
    have sw0 := say_pr e0 hk0
    unfold Sw at sw0
    have HE : Hid (prS (.mk 2 n name [e0] bs es) = [73, 70] ++ sayE e0 ++ [32, 84, 72, 69, 78, 10] ++ prB bs ++ [69, 76, 83, 69, 10] ++ prB es ++ [69, 78, 68] ++ [32, 59, 10]) := by
     show _ = _
     have e9 : prS (.mk 2 n name [e0] bs es) = [73, 70] ++ (32 :: prE e0) ++ [84, 72, 69, 78, 10] ++ prB bs ++ [69, 76, 83, 69, 10] ++ prB es ++ [69, 78, 68, 32, 59, 10] := by simp [prS, prEs, stText]
     rw [e9, sw0]
     simp [List.append_assoc]
    have hsz2 : (L ++ prB (l.take j) ++ ([73, 70] ++ sayE e0 ++ [32, 84, 72, 69, 78, 10] ++ prB bs ++ [69, 76, 83, 69, 10] ++ prB es ++ [69, 78, 68] ++ [32, 59, 10])).length ≤ 1000000000 := by rw [← HE.out, List.append_assoc, ← HNX.out]; have := prB_take l (j + 1); simp only [List.length_append] at this ⊢; omega
    simp only [List.length_append, List.length_cons, List.length_nil] at hsz2
    clear hloc h3
    have x0 := Blk.new wr 121 [.int .i64 2, .int .i64 n, .slice a2 nn c2, .slice (some ⟨b4, o4, none⟩) 1 (cc + 1), .slice a4 nb c4, .slice a5 ne c5]
    have Gs : Sg w0 w L.length base (fun x => Blk x wr.heap.size 121 [.int .i64 2, .int .i64 n, .slice a2 nn c2, .slice (some ⟨b4, o4, none⟩) 1 (cc + 1), .slice a4 nb c4, .slice a5 ne c5]) (wr.alloc (.cells #[.int .i64 2, .int .i64 n, .slice a2 nn c2, .slice (some ⟨b4, o4, none⟩) 1 (cc + 1), .slice a4 nb c4, .slice a5 ne c5] 121 (0, 0))) (L ++ prB (l.take j)) u0 := (Gr.alloc _).with x0 (keep_blk (by decide))
    have q0 := x0.cell (i := 0) rfl
    clear x0 Gr
    go_upto_region 5 with fail
    generalize wr.alloc (.cells #[.int .i64 2, .int .i64 n, .slice a2 nn c2, .slice (some ⟨b4, o4, none⟩) 1 (cc + 1), .slice a4 nb c4, .slice a5 ne c5] 121 (0, 0)) = w1 at *
    generalize wr.heap.size = gx at *
    clear t0 t1 t2 t3 t4 t5
    go_upto_region 13 with fail
    clear q0
    have G92 := Gs.drew
    refine wp_region_held_drew (S := fun wx => wx.cell? ⟨gx, 3, none⟩ = some (.slice (some ⟨b4, o4, none⟩) 1 (cc + 1)) ∧ wx.cell? ⟨b4, o4, none⟩ = some u00 ∧ wx.cell? ⟨b4, o4 + 1, none⟩ = some u01 ∧ wx.cell? ⟨b4, o4 + 2, none⟩ = some u02 ∧ wx.cell? ⟨b4, o4 + 3, none⟩ = some u03 ∧ wx.cell? ⟨b4, o4 + 4, none⟩ = some u04) (by kernel_rfl) ⟨G92.cell (i := 3) rfl, cell_on hc00 G92.bel, cell_on hc01 G92.bel, cell_on hc02 G92.bel, cell_on hc03 G92.bel, cell_on hc04 G92.bel⟩ (fun hHeld => ?_)
    generalize w1.drew = w92 at *
    clear Gs
    refine ta 0 ?_ hHeld
    refine ta 2 ?_ hHeld
    refine ta 3 ?_ hHeld
    try simp only [nrm]
    refine ta 4 ?_ hHeld
    refine ta 5 ?_ hHeld
    try simp only [nrm]
    refine ra 1 fun K hK => ?_
    rw [if_pos (by kernel_rfl)]
    refine G92.str_wp _ _ rfl rfl ⟨#[73, 70]⟩ rfl (by show _ + 2 ≤ _; (try simp only [ll]); omega) ?_
    intro v94 w94 G94 gr94
    replace G94 : Sg w0 w L.length base _ w94 (L ++ prB (l.take j) ++ [73, 70]) v94 := G94
    refine hK.out _ _ ⟨G94.cell (i := 3) rfl, cell_on hc00 G94.bel, cell_on hc01 G94.bel, cell_on hc02 G94.bel, cell_on hc03 G94.bel, cell_on hc04 G94.bel⟩ (fun hHeld => ?_)
    clear hK K G92
    try simp only [nrm]
    refine ra 6 fun K hK => ?_
    go_simp
    have H96 := S0 w0 w94 _ base (L ++ prB (l.take j) ++ [73, 70]) v94 hv0 G94.bel G94.h0 G94.le G94.own hk0 (by (try simp only [ll]); omega) hsk0
    simp only [agg] at H96
    refine H96.mono ?_
    rintro e w96 ⟨v96, rfl, ho96, hw96⟩
    have G96 := G94.step hw96 ho96
    clear H96 ho96 hw96
    go_wp2_with fail
    refine hK.out _ _ ⟨G96.cell (i := 3) rfl, cell_on hc00 G96.bel, cell_on hc01 G96.bel, cell_on hc02 G96.bel, cell_on hc03 G96.bel, cell_on hc04 G96.bel⟩ (fun hHeld => ?_)
    clear hK K G94
    try simp only [nrm]
    refine ra 7 fun K hK => ?_
    rw [if_pos (by kernel_rfl)]
    refine G96.str_wp _ _ rfl rfl ⟨#[32, 84, 72, 69, 78, 10]⟩ rfl (by show _ + 6 ≤ _; (try simp only [ll]); omega) ?_
    intro v98 w98 G98 gr98
    replace G98 : Sg w0 w L.length base _ w98 (L ++ prB (l.take j) ++ [73, 70] ++ sayE e0 ++ [32, 84, 72, 69, 78, 10]) v98 := G98
    refine hK.out _ _ ⟨G98.cell (i := 3) rfl, cell_on hc00 G98.bel, cell_on hc01 G98.bel, cell_on hc02 G98.bel, cell_on hc03 G98.bel, cell_on hc04 G98.bel⟩ (fun hHeld => ?_)
    clear hK K G96
    try simp only [nrm]
    refine ta 8 ?_ hHeld
    try simp only [nrm]
    refine wpAnyH_done (by kernel_rfl) ?_ _
    have q4 := G98.cell (i := 4) rfl
    have HC := HSB.out w0 w98 _ _ base (L ++ prB (l.take j) ++ [73, 70] ++ sayE e0 ++ [32, 84, 72, 69, 78, 10]) v98 HRB.out G98.bel G98.h0 G98.le G98.own hokb.out (by (try simp only [ll]); omega) hs3
    rw [HNB.out] at HC
    go_wp2_with fail
    refine HC.mono ?_
    rintro e w99 ⟨v99, rfl, ho99, hw99⟩
    have G99 := G98.step hw99 ho99
    clear HC ho99 hw99 q4 G98
    go_wp2_with (at_builtin; refine Sg.str_list G99 rfl _ _ rfl rfl ⟨#[69, 76, 83, 69, 10]⟩ rfl (by show _ + 5 ≤ _; (try simp only [ll]); omega) ?_)
    intro v100 w100 G100 _
    replace G100 := G100.cast (M := L ++ prB (l.take j) ++ [73, 70] ++ sayE e0 ++ [32, 84, 72, 69, 78, 10] ++ prB bs ++ [69, 76, 83, 69, 10]) (by simp [show sI ⟨#[69, 76, 83, 69, 10]⟩ = [69, 76, 83, 69, 10] from rfl])
    clear G99
    have q5 := G100.cell (i := 5) rfl
    have HC := HSE.out w0 w100 _ _ base (L ++ prB (l.take j) ++ [73, 70] ++ sayE e0 ++ [32, 84, 72, 69, 78, 10] ++ prB bs ++ [69, 76, 83, 69, 10]) v100 HRE.out G100.bel G100.h0 G100.le G100.own hoke.out (by (try simp only [ll]); omega) hs4
    rw [HNE.out] at HC
    go_wp2_with fail
    refine HC.mono ?_
    rintro e w101 ⟨v101, rfl, ho101, hw101⟩
    have G101 := G100.step hw101 ho101
    clear HC ho101 hw101 q5 G100
    go_wp2_with (at_builtin; refine Sg.str_list G101 rfl _ _ rfl rfl ⟨#[69, 78, 68]⟩ rfl (by show _ + 3 ≤ _; (try simp only [ll]); omega) ?_)
    intro v102 w102 G102 _
    replace G102 := G102.cast (M := L ++ prB (l.take j) ++ [73, 70] ++ sayE e0 ++ [32, 84, 72, 69, 78, 10] ++ prB bs ++ [69, 76, 83, 69, 10] ++ prB es ++ [69, 78, 68]) (by simp [show sI ⟨#[69, 78, 68]⟩ = [69, 78, 68] from rfl])
    clear G101
    go_wp2_with (at_builtin; refine Sg.str_list G102 rfl _ _ rfl rfl ⟨#[32, 59, 10]⟩ rfl (by show _ + 3 ≤ _; (try simp only [ll]); omega) ?_)
    intro v103 w103 G103 _
    replace G103 := G103.cast (M := L ++ prB (l.take j) ++ [73, 70] ++ sayE e0 ++ [32, 84, 72, 69, 78, 10] ++ prB bs ++ [69, 76, 83, 69, 10] ++ prB es ++ [69, 78, 68] ++ [32, 59, 10]) (by simp [show sI ⟨#[32, 59, 10]⟩ = [32, 59, 10] from rfl])
    clear G102
    have HG' : Hid (Sg w0 w L.length base (fun _ => True) w103 (L ++ prB (l.take (j + 1))) v103) := by
     have := G103.any
     show Sg _ _ _ _ _ _ _ _
     rw [HNX.out, HE.out]
     simpa [List.append_assoc] using this
    clear G103
    go_wp2_with fail
    go_roundw
    case rel => exact ⟨j + 1, by omega, by go_num, HG'⟩
    case measure => simp [intOf]; omega
   ·
    simp [stLeast] at hlen1
    obtain ⟨e0, rfl⟩ := blk_one (l := ks) (by omega)
    have hkl : (exs [e0]).length = 1 := by simp [exs_map]
    rw [hkl] at t3
    obtain ⟨b4, o4, rfl⟩ := h3.addr (by rw [hkl]; omega)
    obtain ⟨cc, rfl⟩ : ∃ cc, c3 = cc + 1 := ⟨c3 - 1, by have := h3.cap; rw [hkl] at this; omega⟩
    simp only [okExs, Bool.and_eq_true, and_true] at hks
    obtain ⟨us0, hv0, hcl0⟩ := (h3.el (i := 0) rfl).vals
    obtain ⟨u00, u01, u02, u03, u04, rfl⟩ := say_five (hv0.len.trans (exs_len e0))
    have hc00 : w0.cell? ⟨b4, o4, none⟩ = some u00 := by have := hcl0 0 _ rfl; simpa [Nat.add_assoc] using this
    have hc01 : w0.cell? ⟨b4, o4 + 1, none⟩ = some u01 := by have := hcl0 1 _ rfl; simpa [Nat.add_assoc] using this
    have hc02 : w0.cell? ⟨b4, o4 + 2, none⟩ = some u02 := by have := hcl0 2 _ rfl; simpa [Nat.add_assoc] using this
    have hc03 : w0.cell? ⟨b4, o4 + 3, none⟩ = some u03 := by have := hcl0 3 _ rfl; simpa [Nat.add_assoc] using this
    have hc04 : w0.cell? ⟨b4, o4 + 4, none⟩ = some u04 := by have := hcl0 4 _ rfl; simpa [Nat.add_assoc] using this
    clear hcl0
    have hsk0 : recLen e0.fl ≤ 1048576 := by simp only [exs, rowsLen] at hs2; omega
    have hk0 := hks
    have S0 := sayEx e0
    have sw0 := say_pr e0 hk0
    unfold Sw at sw0
    have HE : Hid (prS (.mk 3 n name [e0] bs es) = [87, 72, 73, 76, 69] ++ sayE e0 ++ [32, 68, 79, 10] ++ prB bs ++ [69, 78, 68] ++ [32, 59, 10]) := by
     show _ = _
     have e9 : prS (.mk 3 n name [e0] bs es) = [87, 72, 73, 76, 69] ++ (32 :: prE e0) ++ [68, 79, 10] ++ prB bs ++ [69, 78, 68, 32, 59, 10] := by simp [prS, prEs, stText]
     rw [e9, sw0]
     simp [List.append_assoc]
    have hsz2 : (L ++ prB (l.take j) ++ ([87, 72, 73, 76, 69] ++ sayE e0 ++ [32, 68, 79, 10] ++ prB bs ++ [69, 78, 68] ++ [32, 59, 10])).length ≤ 1000000000 := by rw [← HE.out, List.append_assoc, ← HNX.out]; have := prB_take l (j + 1); simp only [List.length_append] at this ⊢; omega
    simp only [List.length_append, List.length_cons, List.length_nil] at hsz2
    clear hloc h3
    have x0 := Blk.new wr 121 [.int .i64 3, .int .i64 n, .slice a2 nn c2, .slice (some ⟨b4, o4, none⟩) 1 (cc + 1), .slice a4 nb c4, .slice a5 ne c5]
    have Gs : Sg w0 w L.length base (fun x => Blk x wr.heap.size 121 [.int .i64 3, .int .i64 n, .slice a2 nn c2, .slice (some ⟨b4, o4, none⟩) 1 (cc + 1), .slice a4 nb c4, .slice a5 ne c5]) (wr.alloc (.cells #[.int .i64 3, .int .i64 n, .slice a2 nn c2, .slice (some ⟨b4, o4, none⟩) 1 (cc + 1), .slice a4 nb c4, .slice a5 ne c5] 121 (0, 0))) (L ++ prB (l.take j)) u0 := (Gr.alloc _).with x0 (keep_blk (by decide))
    have q0 := x0.cell (i := 0) rfl
    clear x0 Gr
    go_upto_region 5 with fail
    generalize wr.alloc (.cells #[.int .i64 3, .int .i64 n, .slice a2 nn c2, .slice (some ⟨b4, o4, none⟩) 1 (cc + 1), .slice a4 nb c4, .slice a5 ne c5] 121 (0, 0)) = w1 at *
    generalize wr.heap.size = gx at *
    clear t0 t1 t2 t3 t4 t5
    go_upto_region 17 with fail
    clear q0
    have G104 := Gs.drew
    refine wp_region_held_drew (S := fun wx => wx.cell? ⟨gx, 3, none⟩ = some (.slice (some ⟨b4, o4, none⟩) 1 (cc + 1)) ∧ wx.cell? ⟨b4, o4, none⟩ = some u00 ∧ wx.cell? ⟨b4, o4 + 1, none⟩ = some u01 ∧ wx.cell? ⟨b4, o4 + 2, none⟩ = some u02 ∧ wx.cell? ⟨b4, o4 + 3, none⟩ = some u03 ∧ wx.cell? ⟨b4, o4 + 4, none⟩ = some u04) (by kernel_rfl) ⟨G104.cell (i := 3) rfl, cell_on hc00 G104.bel, cell_on hc01 G104.bel, cell_on hc02 G104.bel, cell_on hc03 G104.bel, cell_on hc04 G104.bel⟩ (fun hHeld => ?_)
    generalize w1.drew = w104 at *
    clear Gs
    refine ta 0 ?_ hHeld
    refine ta 2 ?_ hHeld
    refine ta 3 ?_ hHeld
    try simp only [nrm]
    refine ta 4 ?_ hHeld
    refine ta 5 ?_ hHeld
    try simp only [nrm]
    refine ra 1 fun K hK => ?_
    rw [if_pos (by kernel_rfl)]
    refine G104.str_wp _ _ rfl rfl ⟨#[87, 72, 73, 76, 69]⟩ rfl (by show _ + 5 ≤ _; (try simp only [ll]); omega) ?_
    intro v106 w106 G106 gr106
    replace G106 : Sg w0 w L.length base _ w106 (L ++ prB (l.take j) ++ [87, 72, 73, 76, 69]) v106 := G106
    refine hK.out _ _ ⟨G106.cell (i := 3) rfl, cell_on hc00 G106.bel, cell_on hc01 G106.bel, cell_on hc02 G106.bel, cell_on hc03 G106.bel, cell_on hc04 G106.bel⟩ (fun hHeld => ?_)
    clear hK K G104
    try simp only [nrm]
    refine ra 6 fun K hK => ?_
    go_simp
    have H108 := S0 w0 w106 _ base (L ++ prB (l.take j) ++ [87, 72, 73, 76, 69]) v106 hv0 G106.bel G106.h0 G106.le G106.own hk0 (by (try simp only [ll]); omega) hsk0
    simp only [agg] at H108
    refine H108.mono ?_
    rintro e w108 ⟨v108, rfl, ho108, hw108⟩
    have G108 := G106.step hw108 ho108
    clear H108 ho108 hw108
    go_wp2_with fail
    refine hK.out _ _ ⟨G108.cell (i := 3) rfl, cell_on hc00 G108.bel, cell_on hc01 G108.bel, cell_on hc02 G108.bel, cell_on hc03 G108.bel, cell_on hc04 G108.bel⟩ (fun hHeld => ?_)
    clear hK K G106
    try simp only [nrm]
    refine ra 7 fun K hK => ?_
    rw [if_pos (by kernel_rfl)]
    refine G108.str_wp _ _ rfl rfl ⟨#[32, 68, 79, 10]⟩ rfl (by show _ + 4 ≤ _; (try simp only [ll]); omega) ?_
    intro v110 w110 G110 gr110
    replace G110 : Sg w0 w L.length base _ w110 (L ++ prB (l.take j) ++ [87, 72, 73, 76, 69] ++ sayE e0 ++ [32, 68, 79, 10]) v110 := G110
    refine hK.out _ _ ⟨G110.cell (i := 3) rfl, cell_on hc00 G110.bel, cell_on hc01 G110.bel, cell_on hc02 G110.bel, cell_on hc03 G110.bel, cell_on hc04 G110.bel⟩ (fun hHeld => ?_)
    clear hK K G108
    try simp only [nrm]
    refine ta 8 ?_ hHeld
    try simp only [nrm]
    refine wpAnyH_done (by kernel_rfl) ?_ _
    have q4 := G110.cell (i := 4) rfl
    have HC := HSB.out w0 w110 _ _ base (L ++ prB (l.take j) ++ [87, 72, 73, 76, 69] ++ sayE e0 ++ [32, 68, 79, 10]) v110 HRB.out G110.bel G110.h0 G110.le G110.own hokb.out (by (try simp only [ll]); omega) hs3
    rw [HNB.out] at HC
    go_wp2_with fail
    refine HC.mono ?_
    rintro e w111 ⟨v111, rfl, ho111, hw111⟩
    have G111 := G110.step hw111 ho111
    clear HC ho111 hw111 q4 G110
    go_wp2_with (at_builtin; refine Sg.str_list G111 rfl _ _ rfl rfl ⟨#[69, 78, 68]⟩ rfl (by show _ + 3 ≤ _; (try simp only [ll]); omega) ?_)
    intro v112 w112 G112 _
    replace G112 := G112.cast (M := L ++ prB (l.take j) ++ [87, 72, 73, 76, 69] ++ sayE e0 ++ [32, 68, 79, 10] ++ prB bs ++ [69, 78, 68]) (by simp [show sI ⟨#[69, 78, 68]⟩ = [69, 78, 68] from rfl])
    clear G111
    go_wp2_with (at_builtin; refine Sg.str_list G112 rfl _ _ rfl rfl ⟨#[32, 59, 10]⟩ rfl (by show _ + 3 ≤ _; (try simp only [ll]); omega) ?_)
    intro v113 w113 G113 _
    replace G113 := G113.cast (M := L ++ prB (l.take j) ++ [87, 72, 73, 76, 69] ++ sayE e0 ++ [32, 68, 79, 10] ++ prB bs ++ [69, 78, 68] ++ [32, 59, 10]) (by simp [show sI ⟨#[32, 59, 10]⟩ = [32, 59, 10] from rfl])
    clear G112
    have HG' : Hid (Sg w0 w L.length base (fun _ => True) w113 (L ++ prB (l.take (j + 1))) v113) := by
     have := G113.any
     show Sg _ _ _ _ _ _ _ _
     rw [HNX.out, HE.out]
     simpa [List.append_assoc] using this
    clear G113
    go_wp2_with fail
    go_roundw
    case rel => exact ⟨j + 1, by omega, by go_num, HG'⟩
    case measure => simp [intOf]; omega
   ·
    simp [stLeast] at hlen1
    obtain ⟨e0, rfl⟩ := blk_one (l := ks) (by omega)
    have hkl : (exs [e0]).length = 1 := by simp [exs_map]
    rw [hkl] at t3
    obtain ⟨b4, o4, rfl⟩ := h3.addr (by rw [hkl]; omega)
    obtain ⟨cc, rfl⟩ : ∃ cc, c3 = cc + 1 := ⟨c3 - 1, by have := h3.cap; rw [hkl] at this; omega⟩
    simp only [okExs, Bool.and_eq_true, and_true] at hks
    obtain ⟨us0, hv0, hcl0⟩ := (h3.el (i := 0) rfl).vals
    obtain ⟨u00, u01, u02, u03, u04, rfl⟩ := say_five (hv0.len.trans (exs_len e0))
    have hc00 : w0.cell? ⟨b4, o4, none⟩ = some u00 := by have := hcl0 0 _ rfl; simpa [Nat.add_assoc] using this
    have hc01 : w0.cell? ⟨b4, o4 + 1, none⟩ = some u01 := by have := hcl0 1 _ rfl; simpa [Nat.add_assoc] using this
    have hc02 : w0.cell? ⟨b4, o4 + 2, none⟩ = some u02 := by have := hcl0 2 _ rfl; simpa [Nat.add_assoc] using this
    have hc03 : w0.cell? ⟨b4, o4 + 3, none⟩ = some u03 := by have := hcl0 3 _ rfl; simpa [Nat.add_assoc] using this
    have hc04 : w0.cell? ⟨b4, o4 + 4, none⟩ = some u04 := by have := hcl0 4 _ rfl; simpa [Nat.add_assoc] using this
    clear hcl0
    have hsk0 : recLen e0.fl ≤ 1048576 := by simp only [exs, rowsLen] at hs2; omega
    have hk0 := hks
    have S0 := sayEx e0
    have sw0 := say_pr e0 hk0
    unfold Sw at sw0
    have HE : Hid (prS (.mk 4 n name [e0] bs es) = [82, 69, 84, 85, 82, 78] ++ sayE e0 ++ [32, 59, 10]) := by
     show _ = _
     have e9 : prS (.mk 4 n name [e0] bs es) = [82, 69, 84, 85, 82, 78] ++ (32 :: prE e0) ++ [59, 10] := by simp [prS, prEs, stText]
     rw [e9, sw0]
     simp [List.append_assoc]
    have hsz2 : (L ++ prB (l.take j) ++ ([82, 69, 84, 85, 82, 78] ++ sayE e0 ++ [32, 59, 10])).length ≤ 1000000000 := by rw [← HE.out, List.append_assoc, ← HNX.out]; have := prB_take l (j + 1); simp only [List.length_append] at this ⊢; omega
    simp only [List.length_append, List.length_cons, List.length_nil] at hsz2
    clear hloc h3
    have x0 := Blk.new wr 121 [.int .i64 4, .int .i64 n, .slice a2 nn c2, .slice (some ⟨b4, o4, none⟩) 1 (cc + 1), .slice a4 nb c4, .slice a5 ne c5]
    have Gs : Sg w0 w L.length base (fun x => Blk x wr.heap.size 121 [.int .i64 4, .int .i64 n, .slice a2 nn c2, .slice (some ⟨b4, o4, none⟩) 1 (cc + 1), .slice a4 nb c4, .slice a5 ne c5]) (wr.alloc (.cells #[.int .i64 4, .int .i64 n, .slice a2 nn c2, .slice (some ⟨b4, o4, none⟩) 1 (cc + 1), .slice a4 nb c4, .slice a5 ne c5] 121 (0, 0))) (L ++ prB (l.take j)) u0 := (Gr.alloc _).with x0 (keep_blk (by decide))
    have q0 := x0.cell (i := 0) rfl
    clear x0 Gr
    go_upto_region 5 with fail
    generalize wr.alloc (.cells #[.int .i64 4, .int .i64 n, .slice a2 nn c2, .slice (some ⟨b4, o4, none⟩) 1 (cc + 1), .slice a4 nb c4, .slice a5 ne c5] 121 (0, 0)) = w1 at *
    generalize wr.heap.size = gx at *
    clear t0 t1 t2 t3 t4 t5
    go_upto_region 20 with fail
    clear q0
    have G114 := Gs.drew
    refine wp_region_held_drew (S := fun wx => wx.cell? ⟨gx, 3, none⟩ = some (.slice (some ⟨b4, o4, none⟩) 1 (cc + 1)) ∧ wx.cell? ⟨b4, o4, none⟩ = some u00 ∧ wx.cell? ⟨b4, o4 + 1, none⟩ = some u01 ∧ wx.cell? ⟨b4, o4 + 2, none⟩ = some u02 ∧ wx.cell? ⟨b4, o4 + 3, none⟩ = some u03 ∧ wx.cell? ⟨b4, o4 + 4, none⟩ = some u04) (by kernel_rfl) ⟨G114.cell (i := 3) rfl, cell_on hc00 G114.bel, cell_on hc01 G114.bel, cell_on hc02 G114.bel, cell_on hc03 G114.bel, cell_on hc04 G114.bel⟩ (fun hHeld => ?_)
    generalize w1.drew = w114 at *
    clear Gs
    refine ta 0 ?_ hHeld
    refine ta 2 ?_ hHeld
    refine ta 3 ?_ hHeld
    try simp only [nrm]
    refine ta 4 ?_ hHeld
    refine ta 5 ?_ hHeld
    try simp only [nrm]
    refine ra 1 fun K hK => ?_
    rw [if_pos (by kernel_rfl)]
    refine G114.str_wp _ _ rfl rfl ⟨#[82, 69, 84, 85, 82, 78]⟩ rfl (by show _ + 6 ≤ _; (try simp only [ll]); omega) ?_
    intro v116 w116 G116 gr116
    replace G116 : Sg w0 w L.length base _ w116 (L ++ prB (l.take j) ++ [82, 69, 84, 85, 82, 78]) v116 := G116
    refine hK.out _ _ ⟨G116.cell (i := 3) rfl, cell_on hc00 G116.bel, cell_on hc01 G116.bel, cell_on hc02 G116.bel, cell_on hc03 G116.bel, cell_on hc04 G116.bel⟩ (fun hHeld => ?_)
    clear hK K G114
    try simp only [nrm]
    refine ra 6 fun K hK => ?_
    go_simp
    have H118 := S0 w0 w116 _ base (L ++ prB (l.take j) ++ [82, 69, 84, 85, 82, 78]) v116 hv0 G116.bel G116.h0 G116.le G116.own hk0 (by (try simp only [ll]); omega) hsk0
    simp only [agg] at H118
    refine H118.mono ?_
    rintro e w118 ⟨v118, rfl, ho118, hw118⟩
    have G118 := G116.step hw118 ho118
    clear H118 ho118 hw118
    go_wp2_with fail
    refine hK.out _ _ ⟨G118.cell (i := 3) rfl, cell_on hc00 G118.bel, cell_on hc01 G118.bel, cell_on hc02 G118.bel, cell_on hc03 G118.bel, cell_on hc04 G118.bel⟩ (fun hHeld => ?_)
    clear hK K G116
    try simp only [nrm]
    refine ta 7 ?_ hHeld
    try simp only [nrm]
    refine wpAnyH_done (by kernel_rfl) ?_ _
    go_wp2_with (at_builtin; refine Sg.str_list G118 rfl _ _ rfl rfl ⟨#[32, 59, 10]⟩ rfl (by show _ + 3 ≤ _; (try simp only [ll]); omega) ?_)
    intro v119 w119 G119 _
    replace G119 := G119.cast (M := L ++ prB (l.take j) ++ [82, 69, 84, 85, 82, 78] ++ sayE e0 ++ [32, 59, 10]) (by simp [show sI ⟨#[32, 59, 10]⟩ = [32, 59, 10] from rfl])
    clear G118
    have HG' : Hid (Sg w0 w L.length base (fun _ => True) w119 (L ++ prB (l.take (j + 1))) v119) := by
     have := G119.any
     show Sg _ _ _ _ _ _ _ _
     rw [HNX.out, HE.out]
     simpa [List.append_assoc] using this
    clear G119
    go_wp2_with fail
    go_roundw
    case rel => exact ⟨j + 1, by omega, by go_num, HG'⟩
    case measure => simp [intOf]; omega
   ·
    simp [stLeast] at hlen1
    obtain ⟨e0, rfl⟩ := blk_one (l := ks) (by omega)
    have hkl : (exs [e0]).length = 1 := by simp [exs_map]
    rw [hkl] at t3
    obtain ⟨b4, o4, rfl⟩ := h3.addr (by rw [hkl]; omega)
    obtain ⟨cc, rfl⟩ : ∃ cc, c3 = cc + 1 := ⟨c3 - 1, by have := h3.cap; rw [hkl] at this; omega⟩
    simp only [okExs, Bool.and_eq_true, and_true] at hks
    obtain ⟨us0, hv0, hcl0⟩ := (h3.el (i := 0) rfl).vals
    obtain ⟨u00, u01, u02, u03, u04, rfl⟩ := say_five (hv0.len.trans (exs_len e0))
    have hc00 : w0.cell? ⟨b4, o4, none⟩ = some u00 := by have := hcl0 0 _ rfl; simpa [Nat.add_assoc] using this
    have hc01 : w0.cell? ⟨b4, o4 + 1, none⟩ = some u01 := by have := hcl0 1 _ rfl; simpa [Nat.add_assoc] using this
    have hc02 : w0.cell? ⟨b4, o4 + 2, none⟩ = some u02 := by have := hcl0 2 _ rfl; simpa [Nat.add_assoc] using this
    have hc03 : w0.cell? ⟨b4, o4 + 3, none⟩ = some u03 := by have := hcl0 3 _ rfl; simpa [Nat.add_assoc] using this
    have hc04 : w0.cell? ⟨b4, o4 + 4, none⟩ = some u04 := by have := hcl0 4 _ rfl; simpa [Nat.add_assoc] using this
    clear hcl0
    have hsk0 : recLen e0.fl ≤ 1048576 := by simp only [exs, rowsLen] at hs2; omega
    have hk0 := hks
    have S0 := sayEx e0
    have sw0 := say_pr e0 hk0
    unfold Sw at sw0
    have HE : Hid (prS (.mk 5 n name [e0] bs es) = [79, 85, 84] ++ sayE e0 ++ [32, 59, 10]) := by
     show _ = _
     have e9 : prS (.mk 5 n name [e0] bs es) = [79, 85, 84] ++ (32 :: prE e0) ++ [59, 10] := by simp [prS, prEs, stText]
     rw [e9, sw0]
     simp [List.append_assoc]
    have hsz2 : (L ++ prB (l.take j) ++ ([79, 85, 84] ++ sayE e0 ++ [32, 59, 10])).length ≤ 1000000000 := by rw [← HE.out, List.append_assoc, ← HNX.out]; have := prB_take l (j + 1); simp only [List.length_append] at this ⊢; omega
    simp only [List.length_append, List.length_cons, List.length_nil] at hsz2
    clear hloc h3
    have x0 := Blk.new wr 121 [.int .i64 5, .int .i64 n, .slice a2 nn c2, .slice (some ⟨b4, o4, none⟩) 1 (cc + 1), .slice a4 nb c4, .slice a5 ne c5]
    have Gs : Sg w0 w L.length base (fun x => Blk x wr.heap.size 121 [.int .i64 5, .int .i64 n, .slice a2 nn c2, .slice (some ⟨b4, o4, none⟩) 1 (cc + 1), .slice a4 nb c4, .slice a5 ne c5]) (wr.alloc (.cells #[.int .i64 5, .int .i64 n, .slice a2 nn c2, .slice (some ⟨b4, o4, none⟩) 1 (cc + 1), .slice a4 nb c4, .slice a5 ne c5] 121 (0, 0))) (L ++ prB (l.take j)) u0 := (Gr.alloc _).with x0 (keep_blk (by decide))
    have q0 := x0.cell (i := 0) rfl
    clear x0 Gr
    go_upto_region 5 with fail
    generalize wr.alloc (.cells #[.int .i64 5, .int .i64 n, .slice a2 nn c2, .slice (some ⟨b4, o4, none⟩) 1 (cc + 1), .slice a4 nb c4, .slice a5 ne c5] 121 (0, 0)) = w1 at *
    generalize wr.heap.size = gx at *
    clear t0 t1 t2 t3 t4 t5
    go_upto_region 22 with fail
    clear q0
    have G120 := Gs.drew
    refine wp_region_held_drew (S := fun wx => wx.cell? ⟨gx, 3, none⟩ = some (.slice (some ⟨b4, o4, none⟩) 1 (cc + 1)) ∧ wx.cell? ⟨b4, o4, none⟩ = some u00 ∧ wx.cell? ⟨b4, o4 + 1, none⟩ = some u01 ∧ wx.cell? ⟨b4, o4 + 2, none⟩ = some u02 ∧ wx.cell? ⟨b4, o4 + 3, none⟩ = some u03 ∧ wx.cell? ⟨b4, o4 + 4, none⟩ = some u04) (by kernel_rfl) ⟨G120.cell (i := 3) rfl, cell_on hc00 G120.bel, cell_on hc01 G120.bel, cell_on hc02 G120.bel, cell_on hc03 G120.bel, cell_on hc04 G120.bel⟩ (fun hHeld => ?_)
    generalize w1.drew = w120 at *
    clear Gs
    refine ta 0 ?_ hHeld
    refine ta 2 ?_ hHeld
    refine ta 3 ?_ hHeld
    try simp only [nrm]
    refine ta 4 ?_ hHeld
    refine ta 5 ?_ hHeld
    try simp only [nrm]
    refine ra 1 fun K hK => ?_
    rw [if_pos (by kernel_rfl)]
    refine G120.str_wp _ _ rfl rfl ⟨#[79, 85, 84]⟩ rfl (by show _ + 3 ≤ _; (try simp only [ll]); omega) ?_
    intro v122 w122 G122 gr122
    replace G122 : Sg w0 w L.length base _ w122 (L ++ prB (l.take j) ++ [79, 85, 84]) v122 := G122
    refine hK.out _ _ ⟨G122.cell (i := 3) rfl, cell_on hc00 G122.bel, cell_on hc01 G122.bel, cell_on hc02 G122.bel, cell_on hc03 G122.bel, cell_on hc04 G122.bel⟩ (fun hHeld => ?_)
    clear hK K G120
    try simp only [nrm]
    refine ra 6 fun K hK => ?_
    go_simp
    have H124 := S0 w0 w122 _ base (L ++ prB (l.take j) ++ [79, 85, 84]) v122 hv0 G122.bel G122.h0 G122.le G122.own hk0 (by (try simp only [ll]); omega) hsk0
    simp only [agg] at H124
    refine H124.mono ?_
    rintro e w124 ⟨v124, rfl, ho124, hw124⟩
    have G124 := G122.step hw124 ho124
    clear H124 ho124 hw124
    go_wp2_with fail
    refine hK.out _ _ ⟨G124.cell (i := 3) rfl, cell_on hc00 G124.bel, cell_on hc01 G124.bel, cell_on hc02 G124.bel, cell_on hc03 G124.bel, cell_on hc04 G124.bel⟩ (fun hHeld => ?_)
    clear hK K G122
    try simp only [nrm]
    refine ta 7 ?_ hHeld
    try simp only [nrm]
    refine wpAnyH_done (by kernel_rfl) ?_ _
    go_wp2_with (at_builtin; refine Sg.str_list G124 rfl _ _ rfl rfl ⟨#[32, 59, 10]⟩ rfl (by show _ + 3 ≤ _; (try simp only [ll]); omega) ?_)
    intro v125 w125 G125 _
    replace G125 := G125.cast (M := L ++ prB (l.take j) ++ [79, 85, 84] ++ sayE e0 ++ [32, 59, 10]) (by simp [show sI ⟨#[32, 59, 10]⟩ = [32, 59, 10] from rfl])
    clear G124
    have HG' : Hid (Sg w0 w L.length base (fun _ => True) w125 (L ++ prB (l.take (j + 1))) v125) := by
     have := G125.any
     show Sg _ _ _ _ _ _ _ _
     rw [HNX.out, HE.out]
     simpa [List.append_assoc] using this
    clear G125
    go_wp2_with fail
    go_roundw
    case rel => exact ⟨j + 1, by omega, by go_num, HG'⟩
    case measure => simp [intOf]; omega
   ·
    simp [stLeast] at hlen1
    subst hlen1
    have hkl : (exs []).length = 0 := by simp [exs_map]
    rw [hkl] at t3
    have hz3 : a3 = a3 := rfl
    have HE : Hid (prS (.mk 6 n name [] bs es) = [84, 82, 65, 80, 32] ++ numI n ++ [32, 59, 10]) := by
     show _ = _
     have e9 : prS (.mk 6 n name [] bs es) = [84, 82, 65, 80, 32] ++ numI n ++ [32, 59, 10] := by simp [prS, prEs, stText]
     exact e9
    have hsz2 : (L ++ prB (l.take j) ++ ([84, 82, 65, 80, 32] ++ numI n ++ [32, 59, 10])).length ≤ 1000000000 := by rw [← HE.out, List.append_assoc, ← HNX.out]; have := prB_take l (j + 1); simp only [List.length_append] at this ⊢; omega
    simp only [List.length_append, List.length_cons, List.length_nil] at hsz2
    have hn01 : 0 ≤ n ∧ n ≤ 99 := by have := sloc_len hloc; simp [stHigh] at this; omega
    clear hloc h3 hz3
    have x0 := Blk.new wr 121 [.int .i64 6, .int .i64 n, .slice a2 nn c2, .slice a3 0 c3, .slice a4 nb c4, .slice a5 ne c5]
    have Gs : Sg w0 w L.length base (fun x => Blk x wr.heap.size 121 [.int .i64 6, .int .i64 n, .slice a2 nn c2, .slice a3 0 c3, .slice a4 nb c4, .slice a5 ne c5]) (wr.alloc (.cells #[.int .i64 6, .int .i64 n, .slice a2 nn c2, .slice a3 0 c3, .slice a4 nb c4, .slice a5 ne c5] 121 (0, 0))) (L ++ prB (l.take j)) u0 := (Gr.alloc _).with x0 (keep_blk (by decide))
    have q0 := x0.cell (i := 0) rfl
    clear x0 Gr
    go_upto_region 5 with fail
    generalize wr.alloc (.cells #[.int .i64 6, .int .i64 n, .slice a2 nn c2, .slice a3 0 c3, .slice a4 nb c4, .slice a5 ne c5] 121 (0, 0)) = w1 at *
    generalize wr.heap.size = gx at *
    clear t0 t1 t2 t3 t4 t5
    go_upto_region 24 with fail
    clear q0
    have G126 := Gs.drew
    refine wp_region_held_drew (S := fun wx => wx.cell? ⟨gx, 1, none⟩ = some (.int .i64 n)) (by kernel_rfl) (G126.cell (i := 1) rfl) (fun hHeld => ?_)
    generalize w1.drew = w126 at *
    clear Gs
    refine ta 0 ?_ hHeld
    refine ta 2 ?_ hHeld
    refine ta 3 ?_ hHeld
    try simp only [nrm]
    refine ra 1 fun K hK => ?_
    rw [if_pos (by kernel_rfl)]
    refine G126.str_wp _ _ rfl rfl ⟨#[84, 82, 65, 80, 32]⟩ rfl (by show _ + 5 ≤ _; (try simp only [ll]); omega) ?_
    intro v128 w128 G128 gr128
    replace G128 : Sg w0 w L.length base _ w128 (L ++ prB (l.take j) ++ [84, 82, 65, 80, 32]) v128 := G128
    refine hK.out _ _ (G128.cell (i := 1) rfl) (fun hHeld => ?_)
    clear hK K G126
    try simp only [nrm]
    refine ra 4 fun K hK => ?_
    go_simp
    (with_reducible refine (digC n (by omega) (by omega) w128).mono ?_)
    rintro e w130 ⟨vd, rfl, hod, hgd⟩
    obtain ⟨nd, hnd⟩ : ∃ z, z = (numI n).length := ⟨_, rfl⟩
    rw [← hnd] at hod
    have hnd1 : nd ≤ 21 := by rw [hnd]; exact num_len (by omega) (by omega)
    have hnd0 : 0 < nd := by rw [hnd]; exact num_pos _
    have HND : Hid ((numI n).length = nd) := hnd.symm
    clear hnd
    obtain ⟨ad, cd, rfl, hM⟩ := hod.made (below_grown hgd)
    have G130 := G128.grown hgd
    have Rd := hM.row
    clear hM hod hgd
    go_wp2_with fail
    refine hK.out _ _ (G130.cell (i := 1) rfl) (fun hHeld => ?_)
    clear hK K G128
    try simp only [nrm]
    refine ra 5 fun K hK => ?_
    rw [if_pos (by kernel_rfl)]
    refine G130.row_wp _ _ rfl rfl ad nd cd (numI n) rfl Rd hnd0 (by (try simp only [ll]); omega) ?_
    intro v132 w132 G132 gr132
    refine hK.out _ _ (G132.cell (i := 1) rfl) (fun hHeld => ?_)
    clear hK K G130
    try simp only [nrm]
    refine ta 6 ?_ hHeld
    try simp only [nrm]
    refine wpAnyH_done (by kernel_rfl) ?_ _
    go_wp2_with (at_builtin; refine Sg.str_list G132 rfl _ _ rfl rfl ⟨#[32, 59, 10]⟩ rfl (by show _ + 3 ≤ _; (try simp only [ll]); omega) ?_)
    intro v133 w133 G133 _
    replace G133 := G133.cast (M := L ++ prB (l.take j) ++ [84, 82, 65, 80, 32] ++ (numI n) ++ [32, 59, 10]) (by simp [show sI ⟨#[32, 59, 10]⟩ = [32, 59, 10] from rfl])
    clear G132
    have HG' : Hid (Sg w0 w L.length base (fun _ => True) w133 (L ++ prB (l.take (j + 1))) v133) := by
     have := G133.any
     show Sg _ _ _ _ _ _ _ _
     rw [HNX.out, HE.out]
     simpa [List.append_assoc] using this
    clear G133
    go_wp2_with fail
    go_roundw
    case rel => exact ⟨j + 1, by omega, by go_num, HG'⟩
    case measure => simp [intOf]; omega
   ·
    simp [stLeast] at hlen1
    obtain ⟨e0, rfl⟩ := blk_one (l := ks) (by omega)
    have hkl : (exs [e0]).length = 1 := by simp [exs_map]
    rw [hkl] at t3
    obtain ⟨b4, o4, rfl⟩ := h3.addr (by rw [hkl]; omega)
    obtain ⟨cc, rfl⟩ : ∃ cc, c3 = cc + 1 := ⟨c3 - 1, by have := h3.cap; rw [hkl] at this; omega⟩
    simp only [okExs, Bool.and_eq_true, and_true] at hks
    obtain ⟨us0, hv0, hcl0⟩ := (h3.el (i := 0) rfl).vals
    obtain ⟨u00, u01, u02, u03, u04, rfl⟩ := say_five (hv0.len.trans (exs_len e0))
    have hc00 : w0.cell? ⟨b4, o4, none⟩ = some u00 := by have := hcl0 0 _ rfl; simpa [Nat.add_assoc] using this
    have hc01 : w0.cell? ⟨b4, o4 + 1, none⟩ = some u01 := by have := hcl0 1 _ rfl; simpa [Nat.add_assoc] using this
    have hc02 : w0.cell? ⟨b4, o4 + 2, none⟩ = some u02 := by have := hcl0 2 _ rfl; simpa [Nat.add_assoc] using this
    have hc03 : w0.cell? ⟨b4, o4 + 3, none⟩ = some u03 := by have := hcl0 3 _ rfl; simpa [Nat.add_assoc] using this
    have hc04 : w0.cell? ⟨b4, o4 + 4, none⟩ = some u04 := by have := hcl0 4 _ rfl; simpa [Nat.add_assoc] using this
    clear hcl0
    have hsk0 : recLen e0.fl ≤ 1048576 := by simp only [exs, rowsLen] at hs2; omega
    have hk0 := hks
    have S0 := sayEx e0
    have sw0 := say_pr e0 hk0
    unfold Sw at sw0
    have HE : Hid (prS (.mk 7 n name [e0] bs es) = [67, 65, 76, 76] ++ sayE e0 ++ [32, 59, 10]) := by
     show _ = _
     have e9 : prS (.mk 7 n name [e0] bs es) = [67, 65, 76, 76] ++ (32 :: prE e0) ++ [59, 10] := by simp [prS, prEs, stText]
     rw [e9, sw0]
     simp [List.append_assoc]
    have hsz2 : (L ++ prB (l.take j) ++ ([67, 65, 76, 76] ++ sayE e0 ++ [32, 59, 10])).length ≤ 1000000000 := by rw [← HE.out, List.append_assoc, ← HNX.out]; have := prB_take l (j + 1); simp only [List.length_append] at this ⊢; omega
    simp only [List.length_append, List.length_cons, List.length_nil] at hsz2
    clear hloc h3
    have x0 := Blk.new wr 121 [.int .i64 7, .int .i64 n, .slice a2 nn c2, .slice (some ⟨b4, o4, none⟩) 1 (cc + 1), .slice a4 nb c4, .slice a5 ne c5]
    have Gs : Sg w0 w L.length base (fun x => Blk x wr.heap.size 121 [.int .i64 7, .int .i64 n, .slice a2 nn c2, .slice (some ⟨b4, o4, none⟩) 1 (cc + 1), .slice a4 nb c4, .slice a5 ne c5]) (wr.alloc (.cells #[.int .i64 7, .int .i64 n, .slice a2 nn c2, .slice (some ⟨b4, o4, none⟩) 1 (cc + 1), .slice a4 nb c4, .slice a5 ne c5] 121 (0, 0))) (L ++ prB (l.take j)) u0 := (Gr.alloc _).with x0 (keep_blk (by decide))
    have q0 := x0.cell (i := 0) rfl
    clear x0 Gr
    go_upto_region 5 with fail
    generalize wr.alloc (.cells #[.int .i64 7, .int .i64 n, .slice a2 nn c2, .slice (some ⟨b4, o4, none⟩) 1 (cc + 1), .slice a4 nb c4, .slice a5 ne c5] 121 (0, 0)) = w1 at *
    generalize wr.heap.size = gx at *
    clear t0 t1 t2 t3 t4 t5
    go_upto_region 6 with fail
    clear q0
    have G134 := Gs.drew
    refine wp_region_held_drew (S := fun wx => wx.cell? ⟨gx, 3, none⟩ = some (.slice (some ⟨b4, o4, none⟩) 1 (cc + 1)) ∧ wx.cell? ⟨b4, o4, none⟩ = some u00 ∧ wx.cell? ⟨b4, o4 + 1, none⟩ = some u01 ∧ wx.cell? ⟨b4, o4 + 2, none⟩ = some u02 ∧ wx.cell? ⟨b4, o4 + 3, none⟩ = some u03 ∧ wx.cell? ⟨b4, o4 + 4, none⟩ = some u04) (by kernel_rfl) ⟨G134.cell (i := 3) rfl, cell_on hc00 G134.bel, cell_on hc01 G134.bel, cell_on hc02 G134.bel, cell_on hc03 G134.bel, cell_on hc04 G134.bel⟩ (fun hHeld => ?_)
    generalize w1.drew = w134 at *
    clear Gs
    refine ta 0 ?_ hHeld
    refine ta 2 ?_ hHeld
    refine ta 3 ?_ hHeld
    try simp only [nrm]
    refine ta 4 ?_ hHeld
    refine ta 5 ?_ hHeld
    try simp only [nrm]
    refine ra 1 fun K hK => ?_
    rw [if_pos (by kernel_rfl)]
    refine G134.str_wp _ _ rfl rfl ⟨#[67, 65, 76, 76]⟩ rfl (by show _ + 4 ≤ _; (try simp only [ll]); omega) ?_
    intro v136 w136 G136 gr136
    replace G136 : Sg w0 w L.length base _ w136 (L ++ prB (l.take j) ++ [67, 65, 76, 76]) v136 := G136
    refine hK.out _ _ ⟨G136.cell (i := 3) rfl, cell_on hc00 G136.bel, cell_on hc01 G136.bel, cell_on hc02 G136.bel, cell_on hc03 G136.bel, cell_on hc04 G136.bel⟩ (fun hHeld => ?_)
    clear hK K G134
    try simp only [nrm]
    refine ra 6 fun K hK => ?_
    go_simp
    have H138 := S0 w0 w136 _ base (L ++ prB (l.take j) ++ [67, 65, 76, 76]) v136 hv0 G136.bel G136.h0 G136.le G136.own hk0 (by (try simp only [ll]); omega) hsk0
    simp only [agg] at H138
    refine H138.mono ?_
    rintro e w138 ⟨v138, rfl, ho138, hw138⟩
    have G138 := G136.step hw138 ho138
    clear H138 ho138 hw138
    go_wp2_with fail
    refine hK.out _ _ ⟨G138.cell (i := 3) rfl, cell_on hc00 G138.bel, cell_on hc01 G138.bel, cell_on hc02 G138.bel, cell_on hc03 G138.bel, cell_on hc04 G138.bel⟩ (fun hHeld => ?_)
    clear hK K G136
    try simp only [nrm]
    refine ta 7 ?_ hHeld
    try simp only [nrm]
    refine wpAnyH_done (by kernel_rfl) ?_ _
    go_wp2_with (at_builtin; refine Sg.str_list G138 rfl _ _ rfl rfl ⟨#[32, 59, 10]⟩ rfl (by show _ + 3 ≤ _; (try simp only [ll]); omega) ?_)
    intro v139 w139 G139 _
    replace G139 := G139.cast (M := L ++ prB (l.take j) ++ [67, 65, 76, 76] ++ sayE e0 ++ [32, 59, 10]) (by simp [show sI ⟨#[32, 59, 10]⟩ = [32, 59, 10] from rfl])
    clear G138
    have HG' : Hid (Sg w0 w L.length base (fun _ => True) w139 (L ++ prB (l.take (j + 1))) v139) := by
     have := G139.any
     show Sg _ _ _ _ _ _ _ _
     rw [HNX.out, HE.out]
     simpa [List.append_assoc] using this
    clear G139
    go_wp2_with fail
    go_roundw
    case rel => exact ⟨j + 1, by omega, by go_num, HG'⟩
    case measure => simp [intOf]; omega
  ·
   have : nl = j := by omega
   subst this
   rw [List.take_of_length_le (by rw [HNL.out]; exact Nat.le_refl _)] at Gr
   go_wp2_with fail
   go_ret
   exact ⟨_, rfl, Gr.own, Gr.wrote⟩

mutual
theorem sayStA : ∀ x : St, ∀ k n name ks bs es, x = St.mk k n name ks bs es → SayB bs ∧ SayB es
 | .mk _ _ _ _ b1 e1, k, n, name, ks, bs, es, h => by
  have h1 := sayBR b1 (sayStsA b1)
  have h2 := sayBR e1 (sayStsA e1)
  cases h
  exact ⟨h1, h2⟩
theorem sayStsA : ∀ l : List St, ∀ k n name ks bs es, St.mk k n name ks bs es ∈ l → SayB bs ∧ SayB es
 | [], k, n, name, ks, bs, es, h => by simp at h
 | y :: l, k, n, name, ks, bs, es, h => by
  rcases List.mem_cons.1 h with h | h
  ·
   exact sayStA y k n name ks bs es h.symm
  ·
   exact sayStsA l k n name ks bs es h
end
theorem sayB (l : List St) : SayB l := sayBR l (sayStsA l)
end Go.Proofs.YtopnodadggohiaaGreatDoor

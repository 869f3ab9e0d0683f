/- Faces: what the specification tells of one. -/
import Derived.Test.YthkndppigejlaaaFace
namespace Go.Proofs.Ythkndppigejlaaa
open Go.RowKit
set_option linter.unusedVariables false
set_option linter.unusedSimpArgs false
set_option maxRecDepth 100000

theorem faOk_name {f : Fa} (h : nameOk f.name true = false) : faOk f = false := by unfold faOk; rw [h]; rfl
theorem faOk_long {f : Fa} (h : 8 < f.procs.length) : faOk f = false := by unfold faOk; rw [decide_eq_false (by omega : ¬ f.procs.length ≤ 8)]; simp
theorem faOk_proc {f : Fa} {j : Nat} {q : Fp} (h : f.procs[j]? = some q) (hq : fpOk q = false) : faOk f = false := by
  have : f.procs.all fpOk = false := by rw [List.all_eq_false]; exact ⟨q, List.mem_of_getElem? h, by simp [hq]⟩
  unfold faOk; rw [this]; simp
theorem faOk_unl {f : Fa} {j : Nat} (hj : j < f.procs.length) (h : unl (f.procs.map Fp.name) j = false) : faOk f = false := by
  unfold faOk; rw [allUnl_not (by simpa using hj) h]; simp
theorem faOk_yes {f : Fa} (h0 : nameOk f.name true = true) (h8 : f.procs.length ≤ 8) (h : ∀ j, j < f.procs.length → unl (f.procs.map Fp.name) j = true ∧ ∀ q, f.procs[j]? = some q → fpOk q = true) : faOk f = true := by
  have h1 : f.procs.all fpOk = true := by
    rw [List.all_eq_true]
    intro q hq
    obtain ⟨j, hj, rfl⟩ := List.mem_iff_getElem.1 hq
    exact (h j hj).2 _ (List.getElem?_eq_getElem hj)
  unfold faOk; rw [h0, h1, decide_eq_true h8, allUnl_yes fun i hi => (h i (by simpa using hi)).1]; rfl

theorem fpOk_name {q : Fp} (h : nameOk q.name false = false) : fpOk q = false := by unfold fpOk; rw [h]; rfl
theorem fpOk_long {q : Fp} (h : 4 < q.kinds.length) : fpOk q = false := by unfold fpOk; rw [decide_eq_false (by omega : ¬ q.kinds.length ≤ 4)]; simp
theorem fpOk_kind {q : Fp} {k : Nat} (hk : k < q.kinds.length) (h : isKd (q.kinds[k]?.getD 0) = false) : fpOk q = false := by
  have : q.kinds.all isKd = false := by
    rw [List.all_eq_false]
    rw [List.getElem?_eq_getElem hk] at h
    exact ⟨_, List.getElem_mem hk, by simpa using h⟩
  unfold fpOk; rw [this]; simp
theorem fpOk_yes {q : Fp} (h0 : nameOk q.name false = true) (h4 : q.kinds.length ≤ 4) (h : ∀ k, k < q.kinds.length → isKd (q.kinds[k]?.getD 0) = true) : fpOk q = true := by
  have h1 : q.kinds.all isKd = true := by rw [← range_all q.kinds 0 isKd, List.all_eq_true]; intro j hj; exact h j (by simpa using hj)
  unfold fpOk; rw [h0, h1, decide_eq_true h4]; rfl

set_option maxHeartbeats 8000000 in
theorem specFaceOk (f : Fa) (a0 : Option Addr) (c0 : Nat) (a1 : Option Addr) (c1 : Nat) (w : World) (h0 : BRow w a0 f.name.length f.name) (hn0 : f.name.length ≤ 1073741824) (h1 : LRow w a1 c1 2 (f.procs.map Fp.fl)) (hs : ∀ q ∈ f.procs, q.name.length ≤ 1048576) :
    Calls Try.prog 5 #[.agg #[.slice a0 f.name.length c0, .slice a1 f.procs.length c1]] w fun e w' => e = .returned (.bool (faOk f)) ∧ w.grownBy w' none := by
  have y0 := grown_alloc w (.cells #[.slice a0 f.name.length c0, .slice a1 f.procs.length c1] 30 (0, 0)) none
  have q0 := cell_new w 30 #[.slice a0 f.name.length c0, .slice a1 f.procs.length c1] 0 _ rfl
  have q1 := cell_new w 30 #[.slice a0 f.name.length c0, .slice a1 f.procs.length c1] 1 _ rfl
  have HN := specNameOk a0 _ c0 f.name true _ (h0.below (below_grown y0)) hn0
  have HL : Hid (LRow w a1 c1 2 (f.procs.map Fp.fl)) := h1
  have HS : Hid (∀ q ∈ f.procs, q.name.length ≤ 1048576) := hs
  have hcn : f.procs.length ≤ 9223372036854775807 := by have h2 := h1.most; have h3 := h1.cap; simp only [List.length_map] at h3; unfold maxLen at h2; omega
  clear h0 h1 hs
  generalize hn : f.procs.length = n at q0 q1 hcn y0 HN ⊢
  generalize hm : f.name.length = n0 at q0 q1 y0 HN ⊢
  clear hm
  have Hn : Hid (f.procs.length = n) := hn
  clear hn
  go_enter Try.func5, Try.ntmps5
  go_upto_region 1 with fail
  generalize w.alloc (.cells #[.slice a0 n0 c0, .slice a1 n c1] 30 (0, 0)) = w0 at *
  cases e1 : nameOk f.name true
  · have HF : Hid (faOk f = false) := faOk_name e1
    rw [e1] at HN
    clear e1
    go_wp2_with fail
    refine HN.mono ?_
    rintro e w1 ⟨rfl, rfl⟩
    go_wp2_with fail
    go_ret
    exact ⟨ret_bool HF.out.symm, y0⟩
  rw [e1] at HN
  have H1 : Hid (nameOk f.name true = true) := e1
  clear e1
  go_wp2_with fail
  refine HN.mono ?_
  rintro e w0 ⟨rfl, rfl⟩
  clear HN
  by_cases m1 : 8 < n
  · have HF : Hid (faOk f = false) := faOk_long (by rw [Hn.out]; exact m1)
    have m1' : (8 : Int) < (n : Int) := by omega
    go_wp2_with fail
    go_ret
    exact ⟨ret_bool HF.out.symm, y0⟩
  have m1' : ¬ (8 : Int) < (n : Int) := by omega
  have q1' := q1
  go_wp2_with fail
  clear q0 q1
  have W0 : Hid (w.grownBy w0 none) := y0
  have Q1 : Hid (w0.cell? ⟨w.heap.size, 1, none⟩ = some (.slice a1 n c1)) := q1'
  clear y0 q1'
  go_loopw [3, 4, 5] (fun i _ _ wr => ∃ j : Nat, j ≤ n ∧ i = .int .i64 j ∧ Hid (∀ m, m < j → unl (f.procs.map Fp.name) m = true ∧ ∀ q, f.procs[m]? = some q → fpOk q = true) ∧ w0.grownBy wr none) (fun i _ _ _ => n - (intOf i).toNat)
  case atStart => exact ⟨0, Nat.zero_le _, rfl, by show ∀ _, _; omega, grown_refl _ _⟩
  case round =>
    obtain ⟨j, hj, rfl, hall, hbr⟩ := hrel
    have k1 := cell_on Q1.out (below_grown hbr)
    have hgw : w.grownBy wr none := grown_trans W0.out hbr
    by_cases hlt : j < n
    · obtain ⟨b, off, rfl⟩ := LRow.addr HL.out (by simp only [List.length_map]; rw [Hn.out]; omega)
      obtain ⟨x, hx⟩ : ∃ x, f.procs[j]? = some x := ⟨f.procs[j]'(by rw [Hn.out]; exact hlt), List.getElem?_eq_getElem _⟩
      have hxj : (f.procs.map Fp.fl)[j]? = some (Fp.fl x) := by rw [List.getElem?_map, hx]; rfl
      obtain ⟨vs, hvs, hcl⟩ := ((LRow.below HL.out (below_grown hgw)).el hxj).vals
      obtain ⟨y0, us, rfl, ⟨ax, cx, rfl, hbx, _⟩, y1, us2, rfl, ⟨ay, cy, rfl, hky, hcy, hmy, _⟩, rfl⟩ := hvs
      have q0 : wr.cell? ⟨b, off + j * 2, none⟩ = some (.slice ax x.name.length cx) := hcl 0 _ rfl
      have q1 : wr.cell? ⟨b, off + j * 2 + 1, none⟩ = some (.slice ay x.kinds.length cy) := hcl 1 _ rfl
      have hxl := HS.out x (List.mem_of_getElem? hx)
      have H2 := specNameOk ax x.name.length cx x.name false wr hbx (by omega)
      have HX : Hid (BRow wr ax x.name.length x.name) := hbx
      have HY : Hid (NRow wr ay x.kinds.length x.kinds) := hky
      have hkn : x.kinds.length ≤ 9223372036854775807 := by unfold maxLen at hmy; omega
      have HJ : Hid (f.procs[j]? = some x) := hx
      have HU : Hid (unl (f.procs.map Fp.name) j = !((f.procs.take j).any fun y => decide (y.name = x.name))) := by
        show _ = _
        unfold unl
        rw [show (f.procs.map Fp.name)[j]?.getD [] = x.name by rw [List.getElem?_map, hx]; rfl, ← List.map_take, List.any_map]
        rfl
      clear hcl hx hxj hbx hky hcy hmy
      generalize hkl : x.kinds.length = nk at *
      have Hk : Hid (x.kinds.length = nk) := hkl
      clear hkl
      generalize hxl : x.name.length = nx at *
      clear hxl
      cases v1 : nameOk x.name false
      · have HF : Hid (faOk f = false) := faOk_proc HJ.out (fpOk_name v1)
        rw [v1] at H2
        clear v1
        go_wp2_with fail
        refine H2.mono ?_
        rintro e w1 ⟨rfl, rfl⟩
        go_wp2_with fail
        go_ret
        exact ⟨ret_bool HF.out.symm, hgw⟩
      rw [v1] at H2
      have HV : Hid (nameOk x.name false = true) := v1
      clear v1
      go_wp2_with fail
      refine H2.mono ?_
      rintro e wr ⟨rfl, rfl⟩
      clear H2
      by_cases m2 : 4 < nk
      · have HF : Hid (faOk f = false) := faOk_proc HJ.out (fpOk_long (by rw [Hk.out]; exact m2))
        have m2' : (4 : Int) < (nk : Int) := by omega
        go_wp2_with fail
        go_ret
        exact ⟨ret_bool HF.out.symm, hgw⟩
      have m2' : ¬ (4 : Int) < (nk : Int) := by omega
      have k1' := k1
      have p0 := q0
      have p1 := q1
      go_wp2_with fail
      have K1 : Hid (wr.cell? ⟨w.heap.size, 1, none⟩ = some (.slice (some ⟨b, off, none⟩) n c1)) := k1'
      have P0 : Hid (wr.cell? ⟨b, off + j * 2, none⟩ = some (.slice ax nx cx)) := p0
      have P1 : Hid (wr.cell? ⟨b, off + j * 2 + 1, none⟩ = some (.slice ay nk cy)) := p1
      clear k1 q0 q1 k1' p0 p1
      generalize wr = w5 at *
      go_loopw [4] (fun i wr => ∃ k : Nat, k ≤ j ∧ i = .int .i64 k ∧ Hid (((f.procs.take k).any fun y => decide (y.name = x.name)) = false) ∧ w5.grownBy wr none) (fun i _ => j - (intOf i).toNat)
      case atStart => exact ⟨0, Nat.zero_le _, rfl, by show _ = _; simp, grown_refl _ _⟩
      case round =>
        obtain ⟨k, hk, rfl, hno, hbq⟩ := hrel
        have hbb := below_grown hbq
        have k1 := cell_on K1.out hbb
        have p0 := cell_on P0.out hbb
        have hgq : w.grownBy wr none := grown_trans hgw hbq
        by_cases hlk : k < j
        · obtain ⟨y, hy⟩ : ∃ y, f.procs[k]? = some y := ⟨f.procs[k]'(by rw [Hn.out]; omega), List.getElem?_eq_getElem _⟩
          have hyk : (f.procs.map Fp.fl)[k]? = some (Fp.fl y) := by rw [List.getElem?_map, hy]; rfl
          obtain ⟨vs, hvs, hcl⟩ := ((LRow.below HL.out (below_grown hgq)).el hyk).vals
          obtain ⟨z0, us, rfl, ⟨az, cz, rfl, hbz, _⟩, z1, us2, rfl, _, rfl⟩ := hvs
          have r0 : wr.cell? ⟨b, off + k * 2, none⟩ = some (.slice az y.name.length cz) := hcl 0 _ rfl
          have kc1 := fun d => conv_bytes cz (hbz.drewN d)
          have kc2 := fun d => conv_bytes cx (BRow.drewN (BRow.below HX.out hbb) d)
          have HE : Hid (((strOfNums y.name).toList == (strOfNums x.name).toList) = decide (y.name = x.name)) := str_beq hbz.2.1 HX.out.2.1
          have HN2 : Hid (((f.procs.take (k + 1)).any fun y => decide (y.name = x.name)) = (((f.procs.take k).any fun y => decide (y.name = x.name)) || decide (y.name = x.name))) := by
            show _ = _
            obtain ⟨h5, h6⟩ := List.getElem?_eq_some_iff.1 hy
            rw [List.take_succ_eq_append_getElem h5, h6]; simp
          have HT : Hid (y.name = x.name → ((f.procs.take j).any fun y => decide (y.name = x.name)) = true) := fun e => by
            rw [List.any_eq_true]
            exact ⟨y, List.mem_of_getElem? (show (f.procs.take j)[k]? = some y by rw [List.getElem?_take, if_pos hlk]; exact hy), by simp [e]⟩
          have hk' : (k : Int) < (n : Int) := by omega
          have hj' : (j : Int) < (n : Int) := by omega
          clear hcl hy hyk hbz hbb
          by_cases he : y.name = x.name
          · have hb : ((strOfNums y.name).toList == (strOfNums x.name).toList) = true := HE.out.trans (decide_eq_true he)
            have HF : Hid (faOk f = false) := faOk_unl (by rw [Hn.out]; exact hlt) (by rw [HU.out, HT.out he]; rfl)
            clear he HE HN2 HT
            go_wp2_with fail
            go_quiet (fail)
            go_wp2_with fail
            go_ret
            exact ⟨ret_bool HF.out.symm, grown_below (below_drewN (below_grown hgq) _) _⟩
          · have hb : ((strOfNums y.name).toList == (strOfNums x.name).toList) = false := HE.out.trans (decide_eq_false he)
            have HF : Hid (((f.procs.take (k + 1)).any fun y => decide (y.name = x.name)) = false) := by show _ = _; rw [HN2.out, hno.out, decide_eq_false he]; rfl
            clear he HE HN2 HT
            go_wp2_with fail
            go_quiet (fail)
            go_wp2_with fail
            go_roundw
            case rel => exact ⟨k + 1, by omega, by go_num, HF, grown_below (below_drewN (below_grown hbq) _) _⟩
            case measure => simp [intOf]; omega
        · have : k = j := by omega
          subst this
          have HUY : Hid (unl (f.procs.map Fp.name) k = true) := by show _ = _; rw [HU.out, hno.out]; rfl
          have K2 : Hid (wr.cell? ⟨w.heap.size, 1, none⟩ = some (.slice (some ⟨b, off, none⟩) n c1)) := k1
          have P2 : Hid (wr.cell? ⟨b, off + k * 2 + 1, none⟩ = some (.slice ay nk cy)) := cell_on P1.out hbb
          have HY2 : Hid (NRow wr ay nk x.kinds) := NRow.below HY.out hbb
          have hb0 : w0.grownBy wr none := grown_trans hbr hbq
          clear HX HY K1 P0 P1 p0 hbb hbq hno HU
          go_wp2_with fail
          clear k1
          generalize wr = w9 at *
          go_loopw [5] (fun i wr => ∃ m : Nat, m ≤ nk ∧ i = .int .i64 m ∧ Hid (∀ z, z < m → isKd (x.kinds[z]?.getD 0) = true) ∧ w9.grownBy wr none) (fun i _ => nk - (intOf i).toNat)
          case atStart => exact ⟨0, Nat.zero_le _, rfl, by show ∀ _, _; omega, grown_refl _ _⟩
          case round =>
            obtain ⟨m, hm, rfl, hyes, hbz⟩ := hrel
            have hbb := below_grown hbz
            have k1 := cell_on K2.out hbb
            have p1 := cell_on P2.out hbb
            have hgz : w.grownBy wr none := grown_trans hgq hbz
            by_cases hlm : m < nk
            · obtain ⟨_, _, hcell⟩ := NRow.below HY2.out hbb
              obtain ⟨bk, ok, rfl, hcl2⟩ := hcell (by omega)
              have r0 := hcl2 m hlm
              have hk' : (k : Int) < (n : Int) := by omega
              clear hcl2 hcell hbb
              generalize hz : x.kinds[m]?.getD 0 = z at r0
              have HZ : Hid (x.kinds[m]?.getD 0 = z) := hz
              clear hz
              by_cases z0 : z = 0
              · have HF : Hid (∀ z, z < m + 1 → isKd (x.kinds[z]?.getD 0) = true) := fun i hi => (Nat.lt_or_ge i m).elim (fun h => hyes.out i h) (fun h => (show m = i by omega) ▸ (by rw [HZ.out, z0]; rfl))
                subst z0
                go_wp2_with fail
                go_roundw
                case rel => exact ⟨m + 1, by omega, by go_num, HF, hbz⟩
                case measure => simp [intOf]; omega
              by_cases z1 : z = 1
              · have HF : Hid (∀ z, z < m + 1 → isKd (x.kinds[z]?.getD 0) = true) := fun i hi => (Nat.lt_or_ge i m).elim (fun h => hyes.out i h) (fun h => (show m = i by omega) ▸ (by rw [HZ.out, z1]; rfl))
                subst z1
                go_wp2_with fail
                go_roundw
                case rel => exact ⟨m + 1, by omega, by go_num, HF, hbz⟩
                case measure => simp [intOf]; omega
              · have HF : Hid (faOk f = false) := faOk_proc HJ.out (fpOk_kind (k := m) (by rw [Hk.out]; exact hlm) (by rw [HZ.out]; unfold isKd; simp; omega))
                have z0' : (z != 0) = true := by simpa using z0
                have z1' : (z != 1) = true := by simpa using z1
                go_wp2_with fail
                go_ret
                exact ⟨ret_bool HF.out.symm, hgz⟩
            · have : m = nk := by omega
              subst this
              have HF : Hid (∀ z, z < k + 1 → unl (f.procs.map Fp.name) z = true ∧ ∀ q, f.procs[z]? = some q → fpOk q = true) := fun i hi => (Nat.lt_or_ge i k).elim (fun h => hall.out i h) (fun h => (show k = i by omega) ▸ ⟨HUY.out, fun q hq => by
                rw [HJ.out] at hq
                obtain rfl := Option.some.inj hq
                exact fpOk_yes HV.out (by rw [Hk.out]; omega) (fun z hz => hyes.out z (by rw [← Hk.out]; exact hz))⟩)
              go_wp2_with fail
              go_roundw
              case rel => exact ⟨k + 1, by omega, by go_num, HF, grown_trans hb0 hbz⟩
              case measure => simp [intOf]; omega
    · have : j = n := by omega
      subst this
      go_wp2_with fail
      go_ret
      exact ⟨ret_bool (faOk_yes H1.out (by rw [Hn.out]; omega) (fun m hm => hall.out m (by rw [← Hn.out]; exact hm))).symm, hgw⟩

theorem fa_small {f : Fa} (h : recLen f.fl ≤ 1048576) : f.name.length ≤ 1048576 ∧ ∀ q ∈ f.procs, q.name.length ≤ 1048576 := by
  have e : recLen f.fl = f.name.length + ((f.procs.map Fp.fl).length + rowsLen (f.procs.map Fp.fl)) := by simp [Fa.fl, recLen, Fl.len]
  rw [e] at h
  refine ⟨by omega, fun q hq => ?_⟩
  have := recLen_le (List.mem_map_of_mem (f := Fp.fl) hq)
  simp only [Fp.fl, recLen, Fl.len] at this
  omega

theorem specFaceB (f : Fa) (w : World) (vs : List Value) (h : RdVals w f.fl vs) (hs : recLen f.fl ≤ 1048576) :
    Calls Try.prog 5 #[.agg vs.toArray] w fun e w' => e = .returned (.bool (faOk f)) ∧ w.grownBy w' none := by
  obtain ⟨y0, us, rfl, ⟨a0, c0, rfl, hb0, _⟩, y1, us2, rfl, h1, rfl⟩ := h
  obtain ⟨a1, c1, rfl, h2⟩ := h1.list
  obtain ⟨s0, s1⟩ := fa_small hs
  have := specFaceOk f a0 c0 a1 c1 w hb0 (by omega) h2 s1
  simpa using this

theorem implFaceB (f : Fa) (w : World) (vs : List Value) (h : RdVals w f.fl vs) (hs : recLen f.fl ≤ 1048576) :
    Calls Try.prog 7 #[.agg vs.toArray] w fun e w' => e = .returned (.bool (faOk f)) ∧ w.grownBy w' none := by
  obtain ⟨y0, us, rfl, ⟨a0, c0, rfl, hb0, hc0, _⟩, y1, us2, rfl, h1, rfl⟩ := h
  obtain ⟨a1, c1, rfl, h2⟩ := h1.list
  obtain ⟨s0, s1⟩ := fa_small hs
  have := implFaceOk f a0 c0 a1 c1 w hb0 (by omega) hc0 h2 (fun q hq => by have := s1 q hq; omega)
  simpa using this
end Go.Proofs.Ythkndppigejlaaa

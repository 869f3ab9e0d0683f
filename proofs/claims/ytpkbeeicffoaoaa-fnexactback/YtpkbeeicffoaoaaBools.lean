/- Slices of bools: copied, held against each other, marked. -/
import Derived.Test.YtpkbeeicffoaoaaTreeEq
import Derived.Test.YtpkbeeicffoaoaaMarkT
namespace Go.Proofs.Ytpkbeeicffoaoaa
open Go.RowKit
set_option linter.unusedVariables false
set_option linter.unusedSimpArgs false
set_option maxRecDepth 100000

theorem infoBoolT : (Try.prog.info? 4).map (fun i => (i.zero, i.size, i.bytes)) = some (some (.bool false), 1, 1) := by kernel_rfl
theorem tfs_len (l : List Bool) : (tfs l).length = l.length := by simp [tfs]
theorem tfs_at {l : List Bool} {j : Nat} (h : j < l.length) : ∃ x, (tfs l)[j]? = some [.t x] := ⟨l[j], by simp [tfs, h]⟩
theorem rowsLen_tfs (l : List Bool) : rowsLen (tfs l) = 0 := by
  induction l with
  | nil => rfl
  | cons x l ih =>
    have e : tfs (x :: l) = [.t x] :: tfs l := rfl
    rw [e]
    simp only [rowsLen, recLen, Fl.len]
    omega

set_option maxHeartbeats 4000000 in
theorem toBools (l : List Bool) (hlen : l.length ≤ 1048576) : ToF 7 (.l 1 (tfs l)) := by
  intro w0 v hv w hb0
  obtain ⟨a, c, rfl, hl0⟩ := (hv.below hb0).list
  clear hv hb0
  have hm := tfs_len l
  have hat : ∀ j, j < l.length → ∃ x, (tfs l)[j]? = some [.t x] := fun j hj => tfs_at hj
  rw [← hm] at hlen
  generalize hrs : tfs l = rs at hl0 hm hat hlen ⊢
  clear hrs
  rw [← hm] at hat
  generalize hn : rs.length = n at hl0 hat hlen ⊢
  clear hm
  obtain ⟨i0, hi, hz0, hz1, hz2⟩ := info_parts infoBoolT
  have Hd : Hid (rs.length = n) := hn
  have HL : Hid (LRow w a c 1 rs) := hl0
  have HA : Hid (∀ j, j < n → ∃ x, rs[j]? = some [.t x]) := hat
  clear hat
  go_enter Try.func7, Try.ntmps7
  go_wp2_with (at_make; refine wpList_make_full _ rfl _ _ 27 rfl w.heap.size 4 i0 _ 1 Try.underlying27 hi hz0 hz1 _ _ _ _ n rfl rfl rfl rfl (by rw [hz2]; omega) (by unfold maxLen; omega) (Nat.le_refl _) ?_)
  intro w1 hown hgrow
  have H1 : Hid (∃ vs rest, TL w w1 4 1 n 0 rs vs rest) := TL.start Hd.out hown hgrow
  clear hown hgrow
  rcases Nat.eq_zero_or_pos n with h0 | hpos
  · subst h0
    clear hl0 hn
    go_wp2_with fail
    refine wp_loop_rounds 1 ?_
    rw [rounds_succ]
    go_wp2_with fail
    go_ret
    obtain ⟨vs, rest, ht⟩ := H1.out
    exact ⟨_, _, rfl, ht.done Hd.out (by unfold maxLen; omega), ht.below⟩
  · obtain ⟨b, off, rfl⟩ := hl0.addr (by rw [hn]; exact hpos)
    clear hl0 hn
    go_wp2_with fail
    go_loopw [4] (fun i wr => ∃ j : Nat, j ≤ n ∧ i = .int .i64 j ∧ Hid (∃ vs rest, TL w wr 4 1 n j rs vs rest)) (fun i _ => n - (intOf i).toNat)
    case atStart => exact ⟨0, Nat.zero_le _, rfl, H1⟩
    case round =>
      obtain ⟨j, hj, rfl, ht⟩ := hrel
      clear H1
      by_cases hlt : j < n
      · obtain ⟨vs0, rest, ht⟩ := ht.out
        obtain ⟨x, hxj⟩ := HA.out j hlt
        obtain ⟨vs, hvs, hcl⟩ := ((show LRow w (some ⟨b, off, none⟩) c 1 rs from HL.out).below ht.below |>.el hxj).vals
        obtain ⟨y0, _, rfl, rfl, rfl⟩ := hvs
        have q0 : wr.cell? ⟨b, off + j, none⟩ = some (.bool x) := by have := hcl 0 _ rfl; simpa using this
        have HS : Hid _ := ht.step (us := [.bool x]) hlt (Below.refl _ _) hxj rfl (rec_one (by unfold Fl.Has; rfl) (Nat.le_refl _))
        obtain ⟨v0, k0⟩ := ht.cells hlt 0 (by omega)
        have z0 := ht.blk.free (j * 1 + 0)
        clear hcl hxj ht
        simp only [Nat.add_zero, Nat.mul_one] at k0 z0
        go_wp2_with fail
        go_roundw
        case rel => exact ⟨j + 1, by omega, by go_num, ⟨_, _, by have := HS.out; simpa [setAll] using this⟩⟩
        case measure => simp [intOf]; omega
      · have : j = n := by omega
        subst this
        go_wp2_with fail
        go_ret
        obtain ⟨vs, rest, ht⟩ := ht.out
        exact ⟨_, _, rfl, ht.done Hd.out (by unfold maxLen; omega), ht.below⟩

set_option maxHeartbeats 4000000 in
theorem eqBools (l : List Bool) : EqF 11 (.l 1 (tfs l)) := by
  intro w0 v u hv hu w hb0
  obtain ⟨a, c, rfl, hl1⟩ := (hv.below hb0).list
  obtain ⟨a2, c2, rfl, hl2⟩ := (hu.below hb0).list
  clear hv hu hb0
  have hm := tfs_len l
  have hat : ∀ j, j < l.length → ∃ x, (tfs l)[j]? = some [.t x] := fun j hj => tfs_at hj
  generalize hrs : tfs l = rs at hl1 hl2 hm hat ⊢
  clear hrs
  rw [← hm] at hat
  generalize hn : rs.length = n at hl1 hl2 hat ⊢
  clear hm
  have hcn : n ≤ 9223372036854775807 := by have h1 := hl1.cap; have h2 := hl1.most; unfold maxLen at h2; omega
  rcases Nat.eq_zero_or_pos n with h0 | hpos
  · subst h0
    clear hl1 hl2 hat hn
    go_enter Try.func11, Try.ntmps11
    go_wp2_with fail
    refine wp_loop_rounds 1 ?_
    rw [rounds_succ]
    go_wp2_with fail
    go_ret
    exact ⟨rfl, Below.refl _ _⟩
  · obtain ⟨k1, o1, rfl⟩ := hl1.addr (by rw [hn]; exact hpos)
    obtain ⟨k2, o2, rfl⟩ := hl2.addr (by rw [hn]; exact hpos)
    have HL1 : Hid (LRow w (some ⟨k1, o1, none⟩) c 1 rs) := hl1
    have HL2 : Hid (LRow w (some ⟨k2, o2, none⟩) c2 1 rs) := hl2
    have HA : Hid (∀ j, j < n → ∃ x, rs[j]? = some [.t x]) := hat
    clear hl1 hl2 hat hn
    go_enter Try.func11, Try.ntmps11
    go_wp2_with fail
    go_loopw [5] (fun i wr => ∃ j : Nat, j ≤ n ∧ i = .int .i64 j ∧ Below w.heap.size w wr) (fun i _ => n - (intOf i).toNat)
    case atStart => exact ⟨0, Nat.zero_le _, rfl, Below.refl _ _⟩
    case round =>
      obtain ⟨j, hj, rfl, hbr⟩ := hrel
      by_cases hlt : j < n
      · obtain ⟨x, hxj⟩ := HA.out j hlt
        obtain ⟨vs, hvs, hcl⟩ := ((show LRow w (some ⟨k1, o1, none⟩) c 1 rs from HL1.out).below hbr |>.el hxj).vals
        obtain ⟨us, hus, hcl2⟩ := ((show LRow w (some ⟨k2, o2, none⟩) c2 1 rs from HL2.out).below hbr |>.el hxj).vals
        obtain ⟨y0, _, rfl, rfl, rfl⟩ := hvs
        obtain ⟨z0, _, rfl, rfl, rfl⟩ := hus
        have p0 : wr.cell? ⟨k1, o1 + j, none⟩ = some (.bool x) := by have := hcl 0 _ rfl; simpa using this
        have q0 : wr.cell? ⟨k2, o2 + j, none⟩ = some (.bool x) := by have := hcl2 0 _ rfl; simpa using this
        have hneq : (x != x) = false := by simp
        have hbw := below_drewN hbr
        have hlt' : (j : Int) < (n : Int) := by omega
        clear hcl hcl2 hxj
        go_wp2_with fail
        go_quiet (fail)
        go_wp2_with fail
        go_roundw
        case rel => exact ⟨j + 1, by omega, by go_num, hbw _⟩
        case measure => simp [intOf]; omega
      · go_wp2_with fail
        go_ret
        exact ⟨rfl, hbr⟩

theorem mkBools (l : List Bool) : MkF 13 (.l 1 (tfs l)) := by
  intro w lo hi v k hv hh h0 h1
  unfold Fl.Has at hv
  obtain ⟨g, vs, T, rfl, h2, h3, h4, h5, h6⟩ := hv
  simp only [Fl.len, rowsLen_tfs] at h1
  have hvl := h6.len
  rw [tfs_len] at h1 h5 hvl ⊢
  obtain ⟨n, hn⟩ : ∃ z, z = l.length := ⟨_, rfl⟩
  have HN : Hid (l.length = n) := hn.symm
  have hB : Hid (∃ vs : List Value, vs.length = n ∧ Blk w g T vs) := ⟨vs, by rw [hvl, hn]; omega, h4⟩
  rw [← hn] at h1 h5 ⊢
  clear hn h4 h6 hvl
  have hn9 : n ≤ 9223372036854775807 := by omega
  go_enter Try.func13, Try.ntmps13
  go_wp2_with fail
  go_loopw [1, 5] (fun kk i wr => ∃ (j : Nat), j ≤ n ∧ i = .int .i64 j ∧ kk = .int .i64 (k + j) ∧ Hid (∃ vs : List Value, vs.length = n ∧ Blk wr g T vs) ∧ Hid (Out lo hi w wr)) (fun _ i _ => n - (intOf i).toNat)
  case atStart => exact ⟨0, Nat.zero_le _, rfl, by simp, hB, Out.refl _ _ _⟩
  case round =>
    obtain ⟨j, hj, rfl, rfl, hb, hO⟩ := hrel
    by_cases hlt : j < n
    · obtain ⟨vs, hvl, hb⟩ := hb.out
      have z := hb.free j
      have q : wr.cell? ⟨g, j, none⟩ = some (vs[j]'(by omega)) := hb.cell (List.getElem?_eq_getElem _)
      have HB2 : Hid (∃ us : List Value, us.length = n ∧ Blk (wr.setCell ⟨g, j, none⟩ (.bool ((k + j) % 3 == 0))) g T us) := ⟨vs.set j (.bool ((k + j) % 3 == 0)), by simpa using hvl, hb.set _⟩
      have HO2 : Hid (Out lo hi w (wr.setCell ⟨g, j, none⟩ (.bool ((k + j) % 3 == 0)))) := hO.out.trans (Out.put h2 h3)
      go_wp2_with fail
      go_roundw
      case rel => exact ⟨j + 1, by omega, by go_num, by go_num, HB2, HO2⟩
      case measure => simp [intOf]; omega
    · have : n = j := by omega
      subst this
      go_wp2_with fail
      go_ret
      exact ⟨⟨_, rfl, by omega, by simp only [Fl.len, rowsLen_tfs]; rw [tfs_len, HN.out]; omega⟩, hO.out⟩
end Go.Proofs.Ytpkbeeicffoaoaa

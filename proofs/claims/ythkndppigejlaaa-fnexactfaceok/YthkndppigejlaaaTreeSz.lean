/- Contracts of the laws' own helpers that count how large a module is. By mktreesz.py. -/
import Derived.Test.YthkndppigejlaaaTree
import Derived.Deep.Cut
import Derived.Deep.CutRange
namespace Go.Proofs.Ythkndppigejlaaa
open Go.RowKit
set_option linter.unusedVariables false
set_option linter.unusedSimpArgs false
set_option maxRecDepth 100000

theorem szByteM (a : Option Addr) (n c : Nat) (k : Int) (w : World) (hk : 0 ≤ k) (hk2 : k ≤ 1048576) (hn : n ≤ 9223372036854775807) :
    Calls Try.prog 9 #[.slice a n c, .int .i64 k] w fun e w' => e = .returned (.int .i64 (szL k n)) ∧ w' = w := by
  by_cases h : (n : Int) ≤ k
  · rw [szL_yes h]
    have h' : ¬ (k - (n : Int) < 0) := by omega
    go_enter Try.func9, Try.ntmps9
    go_wp2
    go_ret
    exact ⟨rfl, rfl⟩
  · rw [szL_no h]
    have h' : k - (n : Int) < 0 := by omega
    go_enter Try.func9, Try.ntmps9
    go_wp2
    go_ret
    exact ⟨rfl, rfl⟩

theorem szIntM (a : Option Addr) (n c : Nat) (k : Int) (w : World) (hk : 0 ≤ k) (hk2 : k ≤ 1048576) (hn : n ≤ 9223372036854775807) :
    Calls Try.prog 33 #[.slice a n c, .int .i64 k] w fun e w' => e = .returned (.int .i64 (szL k n)) ∧ w' = w := by
  by_cases h : (n : Int) ≤ k
  · rw [szL_yes h]
    have h' : ¬ (k - (n : Int) < 0) := by omega
    go_enter Try.func33, Try.ntmps33
    go_wp2
    go_ret
    exact ⟨rfl, rfl⟩
  · rw [szL_no h]
    have h' : k - (n : Int) < 0 := by omega
    go_enter Try.func33, Try.ntmps33
    go_wp2
    go_ret
    exact ⟨rfl, rfl⟩

/-- Whatever is left, the helper F counts N for this value, in w and behind it. -/
def SzV (w : World) (F : Nat) (v : Value) (N : Nat) : Prop :=
  ∀ (w1 : World) (k : Int), Below w.heap.size w w1 → 0 ≤ k → k ≤ 1048576 → Calls Try.prog F #[v, .int .i64 k] w1 fun e w' => e = .returned (.int .i64 (szL k N)) ∧ Below w1.heap.size w1 w'

def SzF (F : Nat) (f : Fl) : Prop := ∀ (w : World) (v : Value), f.Rd w v → SzV w F v f.len
def SzR (F : Nat) (r : List Fl) : Prop := ∀ (w : World) (vs : List Value), RdVals w r vs → SzV w F (.agg vs.toArray) (recLen r)

theorem szByteF (l : List Int) : SzF 9 (.b l) := by
  rintro w v ⟨a, c, rfl, _, h1, h2, _⟩ w1 k hb hk hk2
  unfold maxLen at h2
  refine (szByteM a l.length c k w1 hk hk2 (by omega)).mono ?_
  rintro e w' ⟨rfl, rfl⟩
  exact ⟨rfl, Below.refl _ _⟩

theorem szIntF (l : List Int) : SzF 33 (.i l) := by
  rintro w v ⟨a, c, rfl, _, h1, h2, _⟩ w1 k hb hk hk2
  unfold maxLen at h2
  refine (szIntM a l.length c k w1 hk hk2 (by omega)).mono ?_
  rintro e w' ⟨rfl, rfl⟩
  exact ⟨rfl, Below.refl _ _⟩

/-- Cells of a block that stays. -/
theorem cell_on {w w' : World} {g i : Nat} {v : Value} (h : w.cell? ⟨g, i, none⟩ = some v) (hb : Below w.heap.size w w') : w'.cell? ⟨g, i, none⟩ = some v := by
  rw [hb.cell (World.block_lt_of_cell? w _ h)]; exact h
theorem cell_new (w : World) (t : TypeId) (vs : Array Value) (i : Nat) (v : Value) (h : vs[i]? = some v) : (w.alloc (.cells vs t (0, 0))).cell? ⟨w.heap.size, i, none⟩ = some v := by
  rw [cell_of_row _ w.heap.size i vs t (0, 0) (heap_alloc_new w _)]; exact h

theorem RdRec.vals {w : World} {b : Nat} {r : List Fl} : ∀ {off : Nat}, RdRec w b off r → ∃ vs, RdVals w r vs ∧ ∀ i v, vs[i]? = some v → w.cell? ⟨b, off + i, none⟩ = some v := by
  induction r with
  | nil => intro off _; exact ⟨[], rfl, by simp⟩
  | cons f r ih =>
    intro off h
    obtain ⟨⟨v, hc, hv⟩, h2⟩ := h
    obtain ⟨vs, h3, h4⟩ := ih h2
    refine ⟨v :: vs, ⟨v, vs, rfl, hv, h3⟩, fun i u hu => ?_⟩
    cases i with
    | zero => simp only [List.getElem?_cons_zero, Option.some.injEq] at hu; subst hu; exact hc
    | succ i =>
      rw [List.getElem?_cons_succ] at hu
      have := h4 i u hu
      rw [show off + (i + 1) = off + 1 + i by omega]; exact this

set_option maxHeartbeats 4000000 in
theorem szFaceProc0 (a0 : Option Addr) (n0 c0 : Nat) (a1 : Option Addr) (n1 c1 : Nat) (N0 : Nat) (N1 : Nat) (k : Int) (w : World) (hk : 0 ≤ k) (hk2 : k ≤ 1048576)
    (H0 : SzV w 9 (.slice a0 n0 c0) N0) (H1 : SzV w 33 (.slice a1 n1 c1) N1) :
    Calls Try.prog 21 #[.agg #[.slice a0 n0 c0, .slice a1 n1 c1], .int .i64 k] w fun e w' => e = .returned (.int .i64 (szL k (N0 + N1))) ∧ Below w.heap.size w w' := by
  have hB : Below w.heap.size w (w.alloc (.cells #[.slice a0 n0 c0, .slice a1 n1 c1] 51 (0, 0))) := (Below.refl _ _).alloc (Nat.le_refl _) _
  have q0 := cell_new w 51 #[.slice a0 n0 c0, .slice a1 n1 c1] 0 _ rfl
  have q1 := cell_new w 51 #[.slice a0 n0 c0, .slice a1 n1 c1] 1 _ rfl
  by_cases e0 : (N0 : Int) ≤ k
  · by_cases e1 : (N1 : Int) ≤ k - (N0 : Int)
    · have g0 : ¬ (k - (N0 : Int) < 0) := by omega
      have g1 : ¬ (k - (N0 : Int) - (N1 : Int) < 0) := by omega
      have G0 := H0 _ (k) hB hk hk2
      simp only [szL_yes (show (N0 : Int) ≤ k by omega)] at G0
      clear H0
      have HE : Hid (k - (N0 : Int) - (N1 : Int) = k - ((N0 + N1 : Nat) : Int)) := by show _ = _; omega
      go_enter Try.func21, Try.ntmps21
      go_wp2_with fail
      refine G0.mono ?_
      rintro e w1 ⟨rfl, hb1⟩
      have hB1 : Below w.heap.size w w1 := hB.trans (hb1.mono hB.size)
      replace q1 := cell_on q1 hb1
      clear hb1 G0 q0
      have G1 := H1 w1 (k - (N0 : Int)) hB1 (by omega) (by omega)
      simp only [szL_yes (show (N1 : Int) ≤ k - (N0 : Int) by omega)] at G1
      clear H1
      go_wp2_with fail
      refine G1.mono ?_
      rintro e w2 ⟨rfl, hb2⟩
      have hB2 : Below w.heap.size w w2 := hB1.trans (hb2.mono hB1.size)
      clear hb2 G1 q1
      go_wp2_with fail
      go_ret
      exact ⟨ret_int (HE.out.trans (szL_yes (by omega)).symm), hB2⟩
    · have g0 : ¬ (k - (N0 : Int) < 0) := by omega
      have G0 := H0 _ (k) hB hk hk2
      simp only [szL_yes (show (N0 : Int) ≤ k by omega)] at G0
      clear H0
      go_enter Try.func21, Try.ntmps21
      go_wp2_with fail
      refine G0.mono ?_
      rintro e w1 ⟨rfl, hb1⟩
      have hB1 : Below w.heap.size w w1 := hB.trans (hb1.mono hB.size)
      replace q1 := cell_on q1 hb1
      clear hb1 G0 q0
      have G1 := H1 w1 (k - (N0 : Int)) hB1 (by omega) (by omega)
      simp only [szL_no (show ¬ (N1 : Int) ≤ k - (N0 : Int) by omega)] at G1
      clear H1
      go_wp2_with fail
      refine G1.mono ?_
      rintro e w2 ⟨rfl, hb2⟩
      have hB2 : Below w.heap.size w w2 := hB1.trans (hb2.mono hB1.size)
      clear hb2 G1 q1
      go_wp2_with fail
      go_ret
      exact ⟨ret_int (szL_no (by omega)).symm, hB2⟩
  · have G0 := H0 _ (k) hB hk hk2
    simp only [szL_no (show ¬ (N0 : Int) ≤ k by omega)] at G0
    clear H0
    go_enter Try.func21, Try.ntmps21
    go_wp2_with fail
    refine G0.mono ?_
    rintro e w1 ⟨rfl, hb1⟩
    have hB1 : Below w.heap.size w w1 := hB.trans (hb1.mono hB.size)
    replace q1 := cell_on q1 hb1
    clear hb1 G0 q0
    go_wp2_with fail
    go_ret
    exact ⟨ret_int (szL_no (by omega)).symm, hB1⟩

set_option maxHeartbeats 4000000 in
theorem szFace0 (a0 : Option Addr) (n0 c0 : Nat) (a1 : Option Addr) (n1 c1 : Nat) (N0 : Nat) (N1 : Nat) (k : Int) (w : World) (hk : 0 ≤ k) (hk2 : k ≤ 1048576)
    (H0 : SzV w 9 (.slice a0 n0 c0) N0) (H1 : SzV w 10 (.slice a1 n1 c1) N1) :
    Calls Try.prog 4 #[.agg #[.slice a0 n0 c0, .slice a1 n1 c1], .int .i64 k] w fun e w' => e = .returned (.int .i64 (szL k (N0 + N1))) ∧ Below w.heap.size w w' := by
  have hB : Below w.heap.size w (w.alloc (.cells #[.slice a0 n0 c0, .slice a1 n1 c1] 25 (0, 0))) := (Below.refl _ _).alloc (Nat.le_refl _) _
  have q0 := cell_new w 25 #[.slice a0 n0 c0, .slice a1 n1 c1] 0 _ rfl
  have q1 := cell_new w 25 #[.slice a0 n0 c0, .slice a1 n1 c1] 1 _ rfl
  by_cases e0 : (N0 : Int) ≤ k
  · by_cases e1 : (N1 : Int) ≤ k - (N0 : Int)
    · have g0 : ¬ (k - (N0 : Int) < 0) := by omega
      have g1 : ¬ (k - (N0 : Int) - (N1 : Int) < 0) := by omega
      have G0 := H0 _ (k) hB hk hk2
      simp only [szL_yes (show (N0 : Int) ≤ k by omega)] at G0
      clear H0
      have HE : Hid (k - (N0 : Int) - (N1 : Int) = k - ((N0 + N1 : Nat) : Int)) := by show _ = _; omega
      go_enter Try.func4, Try.ntmps4
      go_wp2_with fail
      refine G0.mono ?_
      rintro e w1 ⟨rfl, hb1⟩
      have hB1 : Below w.heap.size w w1 := hB.trans (hb1.mono hB.size)
      replace q1 := cell_on q1 hb1
      clear hb1 G0 q0
      have G1 := H1 w1 (k - (N0 : Int)) hB1 (by omega) (by omega)
      simp only [szL_yes (show (N1 : Int) ≤ k - (N0 : Int) by omega)] at G1
      clear H1
      go_wp2_with fail
      refine G1.mono ?_
      rintro e w2 ⟨rfl, hb2⟩
      have hB2 : Below w.heap.size w w2 := hB1.trans (hb2.mono hB1.size)
      clear hb2 G1 q1
      go_wp2_with fail
      go_ret
      exact ⟨ret_int (HE.out.trans (szL_yes (by omega)).symm), hB2⟩
    · have g0 : ¬ (k - (N0 : Int) < 0) := by omega
      have G0 := H0 _ (k) hB hk hk2
      simp only [szL_yes (show (N0 : Int) ≤ k by omega)] at G0
      clear H0
      go_enter Try.func4, Try.ntmps4
      go_wp2_with fail
      refine G0.mono ?_
      rintro e w1 ⟨rfl, hb1⟩
      have hB1 : Below w.heap.size w w1 := hB.trans (hb1.mono hB.size)
      replace q1 := cell_on q1 hb1
      clear hb1 G0 q0
      have G1 := H1 w1 (k - (N0 : Int)) hB1 (by omega) (by omega)
      simp only [szL_no (show ¬ (N1 : Int) ≤ k - (N0 : Int) by omega)] at G1
      clear H1
      go_wp2_with fail
      refine G1.mono ?_
      rintro e w2 ⟨rfl, hb2⟩
      have hB2 : Below w.heap.size w w2 := hB1.trans (hb2.mono hB1.size)
      clear hb2 G1 q1
      go_wp2_with fail
      go_ret
      exact ⟨ret_int (szL_no (by omega)).symm, hB2⟩
  · have G0 := H0 _ (k) hB hk hk2
    simp only [szL_no (show ¬ (N0 : Int) ≤ k by omega)] at G0
    clear H0
    go_enter Try.func4, Try.ntmps4
    go_wp2_with fail
    refine G0.mono ?_
    rintro e w1 ⟨rfl, hb1⟩
    have hB1 : Below w.heap.size w w1 := hB.trans (hb1.mono hB.size)
    replace q1 := cell_on q1 hb1
    clear hb1 G0 q0
    go_wp2_with fail
    go_ret
    exact ⟨ret_int (szL_no (by omega)).symm, hB1⟩

set_option maxHeartbeats 8000000 in
theorem szFaceProcSF (l : List Fp) (H : ∀ x ∈ l, SzR 21 x.fl) : SzF 10 (.l 2 (l.map Fp.fl)) := by
  intro w0 v hv w k hb0 hk hk2
  obtain ⟨a, c, rfl, hl0⟩ := (hv.below hb0).list
  clear hv hb0
  have hm : (l.map Fp.fl).length = l.length := by simp [exs_map, sts_map, txts]
  have hat : ∀ j, j < l.length → ∃ x ∈ l, (l.map Fp.fl)[j]? = some (Fp.fl x) := by
    intro j hj
    exact ⟨l[j], List.getElem_mem hj, by simp [exs_map, sts_map, txts, hj]⟩
  generalize hrs : l.map Fp.fl = rs at hl0 hm hat ⊢
  clear hrs
  have hlen : (Fl.l 2 rs).len = rs.length + rowsLen rs := by simp [Fl.len]
  rw [hlen]
  clear hlen
  rw [← hm] at hat
  generalize hn : rs.length = n at hl0 hat ⊢
  clear hm
  have hcn : n ≤ 9223372036854775807 := by have h1 := hl0.cap; have h2 := hl0.most; unfold maxLen at h2; omega
  by_cases hnk : (n : Int) ≤ k
  · have h' : ¬ (k - (n : Int) < 0) := by omega
    have Hd : Hid (rs.length = n) := hn
    have HL : Hid (LRow w a c 2 rs) := hl0
    have HA : Hid (∀ j, j < n → ∃ x ∈ l, rs[j]? = some (Fp.fl x)) := hat
    have HH : Hid (∀ x ∈ l, SzR 21 x.fl) := H
    clear hat H
    rcases Nat.eq_zero_or_pos n with h0 | hpos
    · subst h0
      have e0 : rs = [] := List.eq_nil_of_length_eq_zero Hd.out
      subst e0
      rw [szL_yes (by simpa [rowsLen] using hk)]
      clear hl0 hn
      have h1 : ¬ (k < 0) := by omega
      go_enter Try.func10, Try.ntmps10
      go_wp2_with fail
      refine wp_loop_rounds 1 ?_
      rw [rounds_succ]
      go_wp2_with fail
      go_ret
      exact ⟨ret_int (by simp [rowsLen]), Below.refl _ _⟩
    · obtain ⟨b, off, rfl⟩ := hl0.addr (by rw [hn]; exact hpos)
      clear hl0 hn
      go_enter Try.func10, Try.ntmps10
      go_wp2_with fail
      go_loopw [1, 5] (fun r i wr => ∃ j : Nat, j ≤ n ∧ i = .int .i64 j ∧ ∃ rr : Int, r = .int .i64 rr ∧ 0 ≤ rr ∧ rr ≤ k ∧ Hid (rr = k - (n : Int) - (rowsLen (rs.take j) : Int)) ∧ Below w.heap.size w wr) (fun _ i _ => n - (intOf i).toNat)
      case atStart => exact ⟨0, Nat.zero_le _, rfl, k - (n : Int), rfl, by omega, by omega, by show _ = _; simp [rowsLen], Below.refl _ _⟩
      case round =>
        obtain ⟨j, hj, rfl, rr, rfl, hr0, hrk, hrr, hbr⟩ := hrel
        by_cases hlt : j < n
        · obtain ⟨x, hx, hxj⟩ := HA.out j hlt
          have HN : Hid _ := rowsLen_next hxj
          have HT : Hid _ := rowsLen_take rs (j + 1)
          obtain ⟨vs, hvs, hcl⟩ := ((show LRow w (some ⟨b, off, none⟩) c 2 rs from HL.out).below hbr |>.el hxj).vals
          have HC := HH.out x hx wr vs hvs
          clear hxj
          generalize hN : recLen x.fl = N at HC HN
          obtain ⟨x0, x1⟩ := x
          obtain ⟨y0, _, rfl, ⟨a0, c0, rfl, d0⟩, y1, _, rfl, ⟨a1, c1, rfl, d1⟩, rfl⟩ := hvs
          skip
          skip
          skip
          skip
          have q0 : wr.cell? ⟨b, off + j * 2, none⟩ = some _ := hcl 0 _ rfl
          have q1 : wr.cell? ⟨b, off + j * 2 + 1, none⟩ = some _ := hcl 1 _ rfl
          clear hcl d0 d1 hx
          clear hN
          replace HC := HC wr rr (Below.refl _ _) hr0 (by omega)
          by_cases hxr : (N : Int) ≤ rr
          · simp only [szL_yes hxr] at HC
            have hx' : ¬ (rr - (N : Int) < 0) := by omega
            go_wp2_with fail
            refine HC.mono ?_
            rintro e w2 ⟨rfl, hb2⟩
            have hbw : Below w.heap.size w w2 := hbr.trans (hb2.mono hbr.size)
            clear q0 q1 HC hb2
            go_wp2_with fail
            go_roundw
            case rel => exact ⟨j + 1, by omega, by go_num, _, rfl, by omega, by omega, by show _ = _; have := hrr.out; rw [HN.out, this]; omega, hbw⟩
            case measure => simp [intOf]; omega
          · simp only [szL_no hxr] at HC
            go_wp2_with fail
            refine HC.mono ?_
            rintro e w2 ⟨rfl, hb2⟩
            have hbw : Below w.heap.size w w2 := hbr.trans (hb2.mono hbr.size)
            clear q0 q1 HC hb2
            go_wp2_with fail
            go_ret
            have h1 := HN.out
            have h2 := HT.out
            have h3 := hrr.out
            rw [h1] at h2
            have hno : ¬ ((n + rowsLen rs : Nat) : Int) ≤ k := by omega
            exact ⟨ret_int (szL_no hno).symm, hbw⟩
        · have : j = n := by omega
          subst this
          go_wp2_with fail
          go_ret
          refine ⟨?_, hbr⟩
          have h3 := hrr.out
          rw [List.take_of_length_le (by rw [Hd.out]; exact Nat.le_refl _)] at h3
          rw [szL_yes (by omega)]
          exact ret_int (by omega)
  · rw [szL_no (by omega)]
    have h' : k - (n : Int) < 0 := by omega
    clear hl0 hat H hn
    go_enter Try.func10, Try.ntmps10
    go_wp2
    go_ret
    exact ⟨rfl, Below.refl _ _⟩

theorem SzV.on {w w1 : World} {F N : Nat} {v : Value} (h : SzV w F v N) (hb : Below w.heap.size w w1) : SzV w1 F v N :=
  fun w2 k hb2 hk hk2 => h w2 k (hb.trans (hb2.mono hb.size)) hk hk2

theorem szFaceProcR (x0 : List Int) (x1 : List Int)  : SzR 21 (Fp.mk x0 x1).fl := by
  intro w vs hv w1 k hb hk hk2
  obtain ⟨y0, _, rfl, h0, y1, _, rfl, h1, rfl⟩ := hv
  have g0 := (szByteF x0 w _ h0).on hb
  have g1 := (szIntF x1 w _ h1).on hb
  obtain ⟨a0, c0, rfl, _⟩ := h0
  obtain ⟨a1, c1, rfl, _⟩ := h1
  have e : recLen (Fp.mk x0 x1).fl = (.b x0 : Fl).len + (.i x1 : Fl).len := by simp [Fp.fl, recLen, Fl.len]
  rw [e]
  exact szFaceProc0 a0 _ c0 a1 _ c1 _ _ k w1 hk hk2 g0 g1

theorem szFaceR (x0 : List Int) (x1 : List Fp) (S1 : SzF 10 (.l 2 (x1.map Fp.fl))) : SzR 4 (Fa.mk x0 x1).fl := by
  intro w vs hv w1 k hb hk hk2
  obtain ⟨y0, _, rfl, h0, y1, _, rfl, h1, rfl⟩ := hv
  have g0 := (szByteF x0 w _ h0).on hb
  have g1 := (S1 w _ h1).on hb
  obtain ⟨a0, c0, rfl, _⟩ := h0
  obtain ⟨a1, c1, rfl, _⟩ := h1
  have e : recLen (Fa.mk x0 x1).fl = (.b x0 : Fl).len + (.l 2 (x1.map Fp.fl) : Fl).len := by simp [Fa.fl, recLen, Fl.len]
  rw [e]
  exact szFace0 a0 _ c0 a1 _ c1 _ _ k w1 hk hk2 g0 g1

theorem szFa (f : Fa) : SzR 4 f.fl := szFaceR f.name f.procs (szFaceProcSF f.procs fun q _ => szFaceProcR q.name q.kinds)

end Go.Proofs.Ythkndppigejlaaa

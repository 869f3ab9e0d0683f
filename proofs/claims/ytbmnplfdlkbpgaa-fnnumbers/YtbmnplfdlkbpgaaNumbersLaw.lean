/- The law of numbers and texts returns true at every code. -/
import Derived.Test.YtbmnplfdlkbpgaaRoundTrip
import Derived.Test.YtbmnplfdlkbpgaaSame
import Derived.Test.YtbmnplfdlkbpgaaDrawGet
import Derived.Test.YtbmnplfdlkbpgaaSum
import Derived.Deep.RegionHeld3
namespace Go.Proofs.Ytbmnplfdlkbpgaa
open Go.RowKit
set_option linter.unusedVariables false
set_option linter.unusedSimpArgs false

def w32 (n : Int) : Int := (n + 2147483648) % 4294967296 - 2147483648

theorem w32_bd (n : Int) : -2147483648 ≤ w32 n ∧ w32 n ≤ 2147483647 := by unfold w32; omega
theorem w32_w32 (n : Int) : w32 (w32 n) = w32 n := by unfold w32; omega
theorem w32_mod (n : Int) (h : InInt n) : (IntKind.i64.wrap (w32 n - n)).tmod 4294967296 = 0 := by
  rw [IntKind.wrap_i64]
  unfold InInt at h
  have : (4294967296 : Int) ∣ ((w32 n - n + 9223372036854775808) % 18446744073709551616 - 9223372036854775808) := by
    unfold w32; omega
  exact Int.tmod_eq_zero_of_dvd this

theorem w32_mod1 (n : Int) : ((w32 n - n).tmod 4294967296 == 0) = true := by
  rw [beq_iff_eq]
  exact Int.tmod_eq_zero_of_dvd (by unfold w32; omega)
theorem w32_mod2 (n : Int) (h : InInt n) : ((wrap64 (w32 n - n)).tmod 4294967296 == 0) = true := by
  rw [beq_iff_eq]
  unfold InInt at h
  exact Int.tmod_eq_zero_of_dvd (by unfold w32 wrap64; omega)
theorem w32_mod3 (n : Int) (h : InInt n) : ((IntKind.i64.wrap (w32 n - n)).tmod 4294967296 == 0) = true := by
  rw [beq_iff_eq]; exact w32_mod n h

theorem BRow.head {w : World} {b off n m : Nat} {l : List Int} (h : BRow w (some ⟨b, off, none⟩) n l) (hm : m ≤ n) : BRow w (some ⟨b, off, none⟩) m (l.take m) := by
  have := h.part (lo := 0) (m := m) (by omega)
  simpa using this

set_option maxRecDepth 100000 in
set_option maxHeartbeats 1000000 in
theorem wrapM (n : Int) (w : World) : Calls Try.prog 12 #[.int .i64 n] w fun e w' => e = .returned (.int .i64 (w32 n)) ∧ w' = w := by
  go_enter Try.func12, Try.ntmps12
  go_wp2
  go_ret
  refine ⟨ret_int ?_, rfl⟩
  simp only [wrap32, wrap64, w32]
  omega

set_option maxRecDepth 100000 in
set_option maxHeartbeats 40000000 in
theorem numbers_walk (a0 : Option Addr) (len0 cap0 : Nat) (z0 : List Int) (w : World) (w0 : RowIn .u8 w a0 len0 cap0 z0) :
    Calls Try.prog 3 #[.slice a0 len0 cap0] w fun e w' => e = .returned (.bool true) ∧ Below w.heap.size w w' := by
  obtain ⟨hr, hlc, hm⟩ := w0.row
  unfold maxLen at hm
  clear w0
  have hlen : len0 ≤ 9223372036854775807 := by omega
  generalize z0.take len0 = code at hr
  go_enter Try.func3, Try.ntmps3
  go_wp2_with fail
  refine (drawPutNumM _ _ _ code _ hr hlen).mono ?_
  rintro e w1 ⟨aB, nB, cB, lB, n, rfl, hnB, hn, mB⟩
  have hB1 := mB.below
  have rB := mB.row
  go_wp2_with fail
  refine (implPutM _ _ _ lB n _ rB (by omega)).mono ?_
  rintro e w2 ⟨aX, cX, rfl, mX⟩
  have hp5 := putL_len n
  have hB2 : Below w.heap.size w w2 := hB1.trans (mX.below.mono hB1.size)
  have oX := mX.own
  have s12 := mX.below.size
  have hlB0 := mB.row.1
  have s01 := hB1.size
  clear mX mB hB1 rB
  have s02 := hB2.size
  obtain ⟨pn, hpn⟩ : ∃ p, p = putL n := ⟨_, rfl⟩
  rw [← hpn] at hp5 oX ⊢
  have HPN : Hid _ := hpn
  clear hpn
  go_wp2_with (at_builtin; refine wpList_appendB rfl _ _ rfl w1.heap.size _ (nB + pn.length) (lB ++ pn) rfl (oX.alloc _) _ 1 1 _ rfl (one_row _ _ (by omega) (by omega)) (by intro hh; cases hh) (by omega) (by simp; omega) ?_)
  intro v3 w3 o3 g3
  have k2 := oX.1.lt
  have hB3 : Below w.heap.size w w3 := (hB2.alloc s02 _).grown g3 (by simp; omega) (fun k hk => by have := (k2 k hk).1; have := hB2.size; omega)
  obtain ⟨a3, c3, hv3, _, hc3m, r3, _⟩ := o3.shape
  have hc3 : nB + pn.length + 1 ≤ c3 := by assumption
  subst hv3
  have hlB : Hid (lB.length = nB) := hlB0
  clear o3 g3 hB2 k2 oX hlB0
  go_wp2_with fail
  refine (implGetM _ _ _ (lB ++ (pn ++ [7])) (nB : Int) _ r3 (by omega) hc3 hc3m).mono ?_
  rintro e w4 ⟨rfl, b4⟩
  have hB4 : Below w.heap.size w w4 := hB3.trans (b4.mono hB3.size)
  clear b4 hB3 r3 hc3 hc3m
  have hG : 0 ≤ n ∧ n ≤ 2147483647 → getL (lB ++ (pn ++ [7])) (nB : Int) = (n, ((nB + pn.length : Nat) : Int)) := by
    intro hin
    obtain ⟨k, rfl⟩ := Int.eq_ofNat_of_zero_le hin.1
    have e : pn = num k := by rw [HPN.out]; unfold putL; rw [if_pos hin, Int.toNat_natCast]
    rw [e, ← hlB.out, ← List.append_assoc, get_put lB [7] k (by omega)]
    simp
  have HG : Hid _ := hG
  clear hG
  obtain ⟨m, hm'⟩ : ∃ m, m = (getL (lB ++ (pn ++ [7])) (nB : Int)).1 := ⟨_, rfl⟩
  obtain ⟨nx, hnx⟩ : ∃ m, m = (getL (lB ++ (pn ++ [7])) (nB : Int)).2 := ⟨_, rfl⟩
  rw [← hm', ← hnx]
  have HM : Hid _ := hm'
  have HX : Hid _ := hnx
  clear hm' hnx
  have hfn := hn
  rcases (show (0 ≤ n ∧ n ≤ 2147483647) ∨ n < 0 ∨ 2147483647 < n by omega) with hin | hin | hin
  · have e1 : m = n := by rw [HM.out, HG.out hin]
    have e2 : nx = ((nB + pn.length : Nat) : Int) := by rw [HX.out, HG.out hin]
    have t1 : (m != n) = false := by simp [e1]
    have t2 : (nx != (nB : Int) + (pn.length : Int)) = false := by simp [e2]
    obtain ⟨hin1, hin2⟩ := hin
    clear e1 e2 HG HM HX
    go_wp2_with fail
    refine (drawPutTextM _ _ _ code _ (hr.below hB4) hlen).mono ?_
    rintro e w5 ⟨aC, nC, cC, lC, aT, nT, cT, lT, rfl, hnC, hnT, mC, mT⟩
    have hB5 : Below w.heap.size w w5 := hB4.trans (mC.below.mono hB4.size)
    have rC := mC.row
    have rT := mT.row
    have HLC : Hid _ := mC.row.1
    have HLT : Hid _ := mT.row.1
    clear mC mT hB4
    go_wp2_with fail
    refine (implTextM _ _ _ lC _ _ _ lT _ rC rT (by omega) (by omega)).mono ?_
    rintro e w6 ⟨aY, cY, rfl, mY⟩
    have hB6 : Below w.heap.size w w6 := hB5.trans (mY.below.mono hB5.size)
    replace rT := rT.below mY.below
    have rY := mY.row
    have kY := mY.cap
    have kY2 := mY.most
    have hle := textL_le lT
    clear mY hB5 rC
    obtain ⟨tx, htx⟩ : ∃ x, x = textL lT := ⟨_, rfl⟩
    rw [← htx] at rY kY hle ⊢
    have HTX : Hid _ := htx
    clear htx
    go_wp2_with fail
    refine (implTextGetM _ _ _ (lC ++ tx) (nC : Int) _ rY (by omega) kY kY2).mono ?_
    have hgt : nT ≤ 40 → getT (lC ++ tx) (nC : Int) = (lT, (nC : Int) + (tx.length : Int)) := by
      intro h40
      rw [HTX.out, ← HLC.out]
      exact getT_put lC lT (by rw [HLT.out]; exact h40)
    have HGT : Hid _ := hgt
    clear hgt
    obtain ⟨lU, hlU⟩ : ∃ x, x = (getT (lC ++ tx) (nC : Int)).1 := ⟨_, rfl⟩
    obtain ⟨en, hen⟩ : ∃ x, x = (getT (lC ++ tx) (nC : Int)).2 := ⟨_, rfl⟩
    rw [← hlU, ← hen]
    rintro e w7 ⟨aU, nU, cU, rfl, mU⟩
    have HLU : Hid _ := hlU
    have HEN : Hid _ := hen
    clear hlU hen
    have hB7 : Below w.heap.size w w7 := hB6.trans (mU.below.mono hB6.size)
    replace rT := rT.below mU.below
    have rU := mU.row
    have hnU : nU ≤ 40 := by
      have h1 := mU.row.1
      have h2 := getT_len (lC ++ tx) (nC : Int) rY.2.1
      rw [← HLU.out] at h2
      omega
    clear mU hB6 rY kY kY2
    by_cases h40 : nT ≤ 40
    · have e1 : lU = lT := by rw [HLU.out, HGT.out h40]
      have e2 : en = (nC : Int) + (tx.length : Int) := by rw [HEN.out, HGT.out h40]
      have t3 : (en != (nC : Int) + (tx.length : Int)) = false := by simp [e2]
      have hsame : decide (lU = lT) = true := by simp [e1]
      have HS : Hid _ := e1
      clear e1 e2 HGT HLU HEN
      go_wp2_with fail
      refine (sameM _ _ _ lU _ _ _ lT _ rU rT).mono ?_
      rintro e w7' ⟨rfl, rfl⟩
      rw [hsame]
      clear hsame
      go_wp2_with fail
      refine (drawGetNumM _ _ _ code _ (hr.below hB7) hlen).mono ?_
      rintro e w8 ⟨aA, nA, cA, lA, fr, rfl, hnA, hfr, mA⟩
      have hB8 : Below w.heap.size w w8 := hB7.trans (mA.below.mono hB7.size)
      replace rT := rT.below mA.below
      replace rU := rU.below mA.below
      have rA := mA.row
      have kA := mA.cap
      have kA2 := mA.most
      clear mA hB7
      go_wp2_with fail
      refine (implGetM _ _ _ lA fr _ rA (by omega) kA kA2).mono ?_
      have hpg := put_get lA fr rA.2.1
      obtain ⟨k, hk⟩ : ∃ x, x = (getL lA fr).1 := ⟨_, rfl⟩
      obtain ⟨st, hst⟩ : ∃ x, x = (getL lA fr).2 := ⟨_, rfl⟩
      rw [← hk, ← hst] at hpg ⊢
      rintro e w9 ⟨rfl, b9⟩
      have HPG : Hid _ := hpg
      clear hk hst hpg
      have hB9 : Below w.heap.size w w9 := hB8.trans (b9.mono hB8.size)
      replace rT := rT.below b9
      replace rU := rU.below b9
      replace rA := rA.below b9
      clear b9 hB8
      unfold maxLen at kA2
      go_wp2_with fail
      refine (wrapM n _).mono ?_
      rintro e w9' ⟨rfl, rfl⟩
      have hwb := w32_bd n
      have hwm1 := w32_mod1 n
      have hwm2 := w32_mod2 n hfn
      have hwm3 := w32_mod3 n hfn
      have hww : Hid (∀ wx : World, Calls Try.prog 12 #[.int .i64 (w32 n)] wx fun e w' => e = .returned (.int .i64 (w32 n)) ∧ w' = wx) := by
        intro wx
        refine (wrapM (w32 n) wx).mono ?_
        rintro e w' ⟨rfl, rfl⟩
        exact ⟨ret_int (w32_w32 n), rfl⟩
      generalize w32 n = W at *
      have hsT : Hid (∀ wx : World, BRow wx aT nT lT → Calls Try.prog 13 #[.slice aT nT cT] wx fun e w' => e = .returned (.int .i64 (sumTo lT nT)) ∧ w' = wx) := by
        intro wx hx
        refine (implSum aT nT cT lT wx hx (by omega)).mono ?_
        rintro e w' ⟨rfl, rfl⟩
        exact ⟨rfl, rfl⟩
      have hsU : Hid (∀ wx : World, BRow wx aU nU lU → Calls Try.prog 13 #[.slice aU nU cU] wx fun e w' => e = .returned (.int .i64 (sumTo lU nU)) ∧ w' = wx) := by
        intro wx hx
        refine (implSum aU nU cU lU wx hx (by omega)).mono ?_
        rintro e w' ⟨rfl, rfl⟩
        exact ⟨rfl, rfl⟩
      have HRT : Hid (BRow w9' aT nT lT) := rT
      have HRU : Hid (BRow w9' aU nU lU) := rU
      have hsum : sumTo lT nT = sumTo lU nU := by
        have h1 := rT.1
        have h2 := rU.1
        rw [HS.out] at h2
        rw [HS.out, ← h1, ← h2]
      generalize sumTo lT nT = S1 at *
      generalize sumTo lU nU = S2 at *
      have dsum : (S1 == S2) = true := by simpa using hsum
      clear hsum rT rU
      by_cases hneg : st < 0
      · have dneg : decide (st < 0) = true := by simpa using hneg
        clear HPG rA
        go_wp2_with fail
        go_quiet ((first | (go_at_call 12; exact Calls.quiet_of_same (hww.out _)) | (go_at_call_of 13 (Value.slice aT nT cT); exact Calls.quiet_of_same (hsT.out _ HRT.out)) | (go_at_call_of 13 (Value.slice aU nU cU); exact Calls.quiet_of_same (hsU.out _ HRU.out))))
        go_wp2
        go_ret
        exact ⟨rfl, below_drewN hB9 _⟩
      · obtain ⟨p1, p2, p3, p4, p5, p6⟩ := HPG.out (by omega)
        obtain ⟨f, rfl⟩ := Int.eq_ofNat_of_zero_le p1
        obtain ⟨s, rfl⟩ := Int.eq_ofNat_of_zero_le (show 0 ≤ st by omega)
        have hlA := rA.1
        rw [hlA] at p2 p5
        rw [Int.toNat_natCast, Int.toNat_natCast] at p3
        obtain ⟨b, off, haA, _⟩ := rA.2.2 (by omega)
        subst haA
        obtain ⟨pk, hpk⟩ : ∃ x, x = putL k := ⟨_, rfl⟩
        have hpkl := putL_len k
        rw [← hpk] at p3 hpkl
        have hput : Hid (∀ wx : World, BRow wx (some ⟨b, off, none⟩) nA lA → Calls Try.prog 5 #[.slice (some ⟨b, off, none⟩) f cA, .int .i64 k] wx fun e w' => ∃ aP cP, e = .returned (.slice aP (f + pk.length) cP) ∧ BRow w' aP (f + pk.length) (lA.take f ++ pk) ∧ Below wx.heap.size wx w') := by
          intro wx hx
          refine (implPutM _ f cA (lA.take f) k wx (hx.head (by omega)) (by omega)).mono ?_
          rw [← hpk]
          rintro e w' ⟨aP, cP, rfl, mP⟩
          exact ⟨aP, cP, rfl, mP.row, mP.below⟩
        have hsm2 : Hid (∀ (wx : World) (aP : Option Addr) (cP : Nat), BRow wx aP (f + pk.length) (lA.take f ++ pk) → BRow wx (some ⟨b, off, none⟩) nA lA → Calls Try.prog 10 #[.slice aP (f + pk.length) cP, .slice (some ⟨b, off, none⟩) s cA] wx fun e w' => e = .returned (.bool true) ∧ wx = w') := by
          intro wx aP cP h1 h2
          refine (sameM _ _ _ _ _ _ _ (lA.take s) wx h1 (h2.head (by omega))).mono ?_
          rintro e w' ⟨rfl, rfl⟩
          exact ⟨by rw [decide_eq_true p3], rfl⟩
        have hwwR : Hid (∀ wx : World, Calls Try.prog 12 #[.int .i64 W] wx fun e w' => e = .returned (.int .i64 W) ∧ wx = w') := fun wx => (hww.out wx).mono (fun e w' h => ⟨h.1, h.2.symm⟩)
        have hsTR : Hid (∀ wx : World, BRow wx aT nT lT → Calls Try.prog 13 #[.slice aT nT cT] wx fun e w' => e = .returned (.int .i64 S1) ∧ wx = w') := fun wx hx => (hsT.out wx hx).mono (fun e w' h => ⟨h.1, h.2.symm⟩)
        have hsUR : Hid (∀ wx : World, BRow wx aU nU lU → Calls Try.prog 13 #[.slice aU nU cU] wx fun e w' => e = .returned (.int .i64 S2) ∧ wx = w') := fun wx hx => (hsU.out wx hx).mono (fun e w' h => ⟨h.1, h.2.symm⟩)
        have HRA : Hid (BRow w9' (some ⟨b, off, none⟩) nA lA) := rA
        have hfc : f ≤ cA := by omega
        have hsc : s ≤ cA := by omega
        have hs0 : ¬ (s : Int) < 0 := by omega
        clear hww hsT hsU HPG rA p3 hpk hpkl hneg hlA
        go_wp2_with fail
        have HRAd : Hid (BRow w9'.drew (some ⟨b, off, none⟩) nA lA) := HRA.out
        have HRTd : Hid (BRow w9'.drew aT nT lT) := HRT.out
        have HRUd : Hid (BRow w9'.drew aU nU lU) := HRU.out
        refine wp_region_held_drew (S := fun _ => True) (by kernel_rfl) trivial (fun hHeld => ?_)
        refine wpAnyH_take (i := 0) (oi := ?o1) (v := ?v1) ?i1 (by kernel_rfl) (by kernel_rfl) (by kernel_rfl) ?q1 ?y1 (trivial) ?r1
        case i1 => exact rfl
        case q1 => exact (fun _ _ _ h => h)
        case y1 =>
          refine Or.inl ⟨by rfl, ?_⟩
          intro w hSw
          go_simp
          first | done | rfl
        try simp only [Act.put, List.getElem_toArray, List.getElem_cons_zero, List.getElem_cons_succ, List.setIfInBounds_toArray, List.set_cons_zero, List.set_cons_succ]
        refine wpAnyH_take (i := 1) (oi := ?o2) (v := ?v2) ?i2 (by kernel_rfl) (by kernel_rfl) (by kernel_rfl) ?q2 ?y2 (trivial) ?r2
        case i2 => exact rfl
        case q2 => exact (fun _ _ _ h => h)
        case y2 =>
          refine Or.inl ⟨by rfl, ?_⟩
          intro w hSw
          go_simp
          first | done | rfl
        try simp only [Act.put, List.getElem_toArray, List.getElem_cons_zero, List.getElem_cons_succ, List.setIfInBounds_toArray, List.set_cons_zero, List.set_cons_succ]
        refine wpAnyH_take (i := 2) (oi := ?o3) (v := ?v3) ?i3 (by kernel_rfl) (by kernel_rfl) (by kernel_rfl) ?q3 ?y3 (trivial) ?r3
        case i3 => exact rfl
        case q3 => exact (fun _ _ _ h => h)
        case y3 =>
          refine Or.inl ⟨by rfl, ?_⟩
          intro w hSw
          go_simp
          first | done | rfl
        try simp only [Act.put, List.getElem_toArray, List.getElem_cons_zero, List.getElem_cons_succ, List.setIfInBounds_toArray, List.set_cons_zero, List.set_cons_succ]
        refine wpAnyH_take (i := 3) (oi := ?o4) (v := ?v4) ?i4 (by kernel_rfl) (by kernel_rfl) (by kernel_rfl) ?q4 ?y4 (trivial) ?r4
        case i4 => exact rfl
        case q4 => exact (fun _ _ _ h => h)
        case y4 =>
          refine Or.inl ⟨by rfl, ?_⟩
          intro w hSw
          go_simp
          first | done | rfl
        try simp only [Act.put, List.getElem_toArray, List.getElem_cons_zero, List.getElem_cons_succ, List.setIfInBounds_toArray, List.set_cons_zero, List.set_cons_succ]
        refine wpAnyH_take (i := 4) (oi := ?o5) (v := ?v5) ?i5 (by kernel_rfl) (by kernel_rfl) (by kernel_rfl) ?q5 ?y5 (trivial) ?r5
        case i5 => exact rfl
        case q5 => exact (fun _ _ _ h => h)
        case y5 =>
          refine Or.inl ⟨by rfl, ?_⟩
          intro w hSw
          go_simp
          first | done | rfl
        try simp only [Act.put, List.getElem_toArray, List.getElem_cons_zero, List.getElem_cons_succ, List.setIfInBounds_toArray, List.set_cons_zero, List.set_cons_succ]
        refine wpAnyH_take (i := 5) (oi := ?o6) (v := ?v6) ?i6 (by kernel_rfl) (by kernel_rfl) (by kernel_rfl) ?q6 ?y6 (trivial) ?r6
        case i6 => exact rfl
        case q6 => exact (fun _ _ _ h => h)
        case y6 =>
          refine Or.inl ⟨by rfl, ?_⟩
          intro w hSw
          go_simp
          first | done | rfl
        try simp only [Act.put, List.getElem_toArray, List.getElem_cons_zero, List.getElem_cons_succ, List.setIfInBounds_toArray, List.set_cons_zero, List.set_cons_succ]
        refine wpAnyH_take (i := 6) (oi := ?o7) (v := ?v7) ?i7 (by kernel_rfl) (by kernel_rfl) (by kernel_rfl) ?q7 ?y7 (trivial) ?r7
        case i7 => exact rfl
        case q7 => exact (fun _ _ _ h => h)
        case y7 =>
          refine Or.inl ⟨by rfl, ?_⟩
          intro w hSw
          go_simp
          first | done | rfl
        try simp only [Act.put, List.getElem_toArray, List.getElem_cons_zero, List.getElem_cons_succ, List.setIfInBounds_toArray, List.set_cons_zero, List.set_cons_succ]
        refine wpAnyH_take (i := 8) (oi := ?o8) (v := ?v8) ?i8 (by kernel_rfl) (by kernel_rfl) (by kernel_rfl) ?q8 ?y8 (trivial) ?r8
        case i8 => exact rfl
        case q8 => exact (fun _ _ _ h => h)
        case y8 =>
          refine Or.inl ⟨by rfl, ?_⟩
          intro w hSw
          go_simp
          first | done | rfl
        try simp only [Act.put, List.getElem_toArray, List.getElem_cons_zero, List.getElem_cons_succ, List.setIfInBounds_toArray, List.set_cons_zero, List.set_cons_succ]
        refine wpAnyH_take (i := 9) (oi := ?o9) (v := ?v9) ?i9 (by kernel_rfl) (by kernel_rfl) (by kernel_rfl) ?q9 ?y9 (trivial) ?r9
        case i9 => exact rfl
        case q9 => exact (fun _ _ _ h => h)
        case y9 =>
          refine Or.inl ⟨by rfl, ?_⟩
          intro w hSw
          go_simp
          first | done | rfl
        try simp only [Act.put, List.getElem_toArray, List.getElem_cons_zero, List.getElem_cons_succ, List.setIfInBounds_toArray, List.set_cons_zero, List.set_cons_succ]
        refine wpAnyH_take (i := 10) (oi := ?o10) (v := ?v10) ?i10 (by kernel_rfl) (by kernel_rfl) (by kernel_rfl) ?q10 ?y10 (trivial) ?r10
        case i10 => exact rfl
        case q10 => exact (fun _ _ _ h => h)
        case y10 =>
          refine Or.inl ⟨by rfl, ?_⟩
          intro w hSw
          go_simp
          first | done | rfl
        try simp only [Act.put, List.getElem_toArray, List.getElem_cons_zero, List.getElem_cons_succ, List.setIfInBounds_toArray, List.set_cons_zero, List.set_cons_succ]
        refine wpAnyH_ready (rs := [7]) (by kernel_rfl) (by simp) ?_
        refine AllReadyH.cons (i := 7) (o := ?o11) ?i11 (fun K hK => ?_) AllReadyH.nil
        case i11 => exact rfl
        go_simp
        (with_reducible refine (hput.out _ HRAd.out).mono ?_)
        rintro e wP ⟨aP, cP, rfl, rP, bP⟩
        have rTP : Hid (BRow wP aT nT lT) := BRow.below (w := w9'.drew) HRTd.out bP
        have rUP : Hid (BRow wP aU nU lU) := BRow.below (w := w9'.drew) HRUd.out bP
        have rAP : Hid (BRow wP (some ⟨b, off, none⟩) nA lA) := BRow.below (w := w9'.drew) HRAd.out bP
        have HRP : Hid (BRow wP aP (f + pk.length) (lA.take f ++ pk)) := rP
        have HBP : Hid (Below w.heap.size w wP) := hB9.drew.trans (bP.mono hB9.size)
        clear rP bP
        go_wp2_with fail
        refine hK.out _ _ (trivial) (fun hHeld => ?_)
        clear hK K
        try simp only [Act.put, List.getElem_toArray, List.getElem_cons_zero, List.getElem_cons_succ, List.setIfInBounds_toArray, List.set_cons_zero, List.set_cons_succ]
        refine wpAnyH_ready (rs := [11]) (by kernel_rfl) (by simp) ?_
        refine AllReadyH.cons (i := 11) (o := ?o12) ?i12 (fun K hK => ?_) AllReadyH.nil
        case i12 => exact rfl
        go_simp
        (with_reducible refine (hsm2.out _ _ _ HRP.out rAP.out).mono ?_)
        rintro e wq ⟨rfl, rfl⟩
        go_wp2_with fail
        refine hK.out _ _ (trivial) (fun hHeld => ?_)
        clear hK K
        try simp only [Act.put, List.getElem_toArray, List.getElem_cons_zero, List.getElem_cons_succ, List.setIfInBounds_toArray, List.set_cons_zero, List.set_cons_succ]
        refine wpAnyH_take (i := 12) (oi := ?o13) (v := ?v13) ?i13 (by kernel_rfl) (by kernel_rfl) (by kernel_rfl) ?q13 ?y13 (trivial) ?r13
        case i13 => exact rfl
        case q13 => exact (fun _ _ _ h => h)
        case y13 =>
          refine Or.inl ⟨by rfl, ?_⟩
          intro w hSw
          go_simp
          first | done | rfl
        try simp only [Act.put, List.getElem_toArray, List.getElem_cons_zero, List.getElem_cons_succ, List.setIfInBounds_toArray, List.set_cons_zero, List.set_cons_succ]
        refine wpAnyH_take (i := 13) (oi := ?o14) (v := ?v14) ?i14 (by kernel_rfl) (by kernel_rfl) (by kernel_rfl) ?q14 ?y14 (trivial) ?r14
        case i14 => exact rfl
        case q14 => exact (fun _ _ _ h => h)
        case y14 =>
          refine Or.inl ⟨by rfl, ?_⟩
          intro w hSw
          go_simp
          first | done | rfl
        try simp only [Act.put, List.getElem_toArray, List.getElem_cons_zero, List.getElem_cons_succ, List.setIfInBounds_toArray, List.set_cons_zero, List.set_cons_succ]
        refine wpAnyH_take (i := 14) (oi := ?o15) (v := ?v15) ?i15 (by kernel_rfl) (by kernel_rfl) (by kernel_rfl) ?q15 ?y15 (trivial) ?r15
        case i15 => exact rfl
        case q15 => exact (fun _ _ _ h => h)
        case y15 =>
          refine Or.inl ⟨by rfl, ?_⟩
          intro w hSw
          go_simp
          first | done | rfl
        try simp only [Act.put, List.getElem_toArray, List.getElem_cons_zero, List.getElem_cons_succ, List.setIfInBounds_toArray, List.set_cons_zero, List.set_cons_succ]
        refine wpAnyH_take (i := 16) (oi := ?o16) (v := ?v16) ?i16 (by kernel_rfl) (by kernel_rfl) (by kernel_rfl) ?q16 ?y16 (trivial) ?r16
        case i16 => exact rfl
        case q16 => exact (fun _ _ _ h => h)
        case y16 =>
          refine Or.inl ⟨by rfl, ?_⟩
          intro w hSw
          go_simp
          first | done | rfl
        try simp only [Act.put, List.getElem_toArray, List.getElem_cons_zero, List.getElem_cons_succ, List.setIfInBounds_toArray, List.set_cons_zero, List.set_cons_succ]
        refine wpAnyH_ready (rs := [15]) (by kernel_rfl) (by simp) ?_
        refine AllReadyH.cons (i := 15) (o := ?o17) ?i17 (fun K hK => ?_) AllReadyH.nil
        case i17 => exact rfl
        go_simp
        (with_reducible refine (hwwR.out _).mono ?_)
        rintro e wq ⟨rfl, rfl⟩
        go_wp2_with fail
        refine hK.out _ _ (trivial) (fun hHeld => ?_)
        clear hK K
        try simp only [Act.put, List.getElem_toArray, List.getElem_cons_zero, List.getElem_cons_succ, List.setIfInBounds_toArray, List.set_cons_zero, List.set_cons_succ]
        refine wpAnyH_take (i := 17) (oi := ?o18) (v := ?v18) ?i18 (by kernel_rfl) (by kernel_rfl) (by kernel_rfl) ?q18 ?y18 (trivial) ?r18
        case i18 => exact rfl
        case q18 => exact (fun _ _ _ h => h)
        case y18 =>
          refine Or.inl ⟨by rfl, ?_⟩
          intro w hSw
          go_simp
          first | done | rfl
        try simp only [Act.put, List.getElem_toArray, List.getElem_cons_zero, List.getElem_cons_succ, List.setIfInBounds_toArray, List.set_cons_zero, List.set_cons_succ]
        refine wpAnyH_take (i := 18) (oi := ?o19) (v := ?v19) ?i19 (by kernel_rfl) (by kernel_rfl) (by kernel_rfl) ?q19 ?y19 (trivial) ?r19
        case i19 => exact rfl
        case q19 => exact (fun _ _ _ h => h)
        case y19 =>
          refine Or.inl ⟨by rfl, ?_⟩
          intro w hSw
          go_simp
          first | done | rfl
        try simp only [Act.put, List.getElem_toArray, List.getElem_cons_zero, List.getElem_cons_succ, List.setIfInBounds_toArray, List.set_cons_zero, List.set_cons_succ]
        refine wpAnyH_take (i := 19) (oi := ?o20) (v := ?v20) ?i20 (by kernel_rfl) (by kernel_rfl) (by kernel_rfl) ?q20 ?y20 (trivial) ?r20
        case i20 => exact rfl
        case q20 => exact (fun _ _ _ h => h)
        case y20 =>
          refine Or.inl ⟨by rfl, ?_⟩
          intro w hSw
          go_simp
          first | done | rfl
        try simp only [Act.put, List.getElem_toArray, List.getElem_cons_zero, List.getElem_cons_succ, List.setIfInBounds_toArray, List.set_cons_zero, List.set_cons_succ]
        refine wpAnyH_take (i := 20) (oi := ?o21) (v := ?v21) ?i21 (by kernel_rfl) (by kernel_rfl) (by kernel_rfl) ?q21 ?y21 (trivial) ?r21
        case i21 => exact rfl
        case q21 => exact (fun _ _ _ h => h)
        case y21 =>
          refine Or.inl ⟨by rfl, ?_⟩
          intro w hSw
          go_simp
          first | done | rfl
        try simp only [Act.put, List.getElem_toArray, List.getElem_cons_zero, List.getElem_cons_succ, List.setIfInBounds_toArray, List.set_cons_zero, List.set_cons_succ]
        refine wpAnyH_take (i := 21) (oi := ?o22) (v := ?v22) ?i22 (by kernel_rfl) (by kernel_rfl) (by kernel_rfl) ?q22 ?y22 (trivial) ?r22
        case i22 => exact rfl
        case q22 => exact (fun _ _ _ h => h)
        case y22 =>
          refine Or.inl ⟨by rfl, ?_⟩
          intro w hSw
          go_simp
          first | done | rfl
        try simp only [Act.put, List.getElem_toArray, List.getElem_cons_zero, List.getElem_cons_succ, List.setIfInBounds_toArray, List.set_cons_zero, List.set_cons_succ]
        refine wpAnyH_take (i := 22) (oi := ?o23) (v := ?v23) ?i23 (by kernel_rfl) (by kernel_rfl) (by kernel_rfl) ?q23 ?y23 (trivial) ?r23
        case i23 => exact rfl
        case q23 => exact (fun _ _ _ h => h)
        case y23 =>
          refine Or.inl ⟨by rfl, ?_⟩
          intro w hSw
          go_simp
          first | done | rfl
        try simp only [Act.put, List.getElem_toArray, List.getElem_cons_zero, List.getElem_cons_succ, List.setIfInBounds_toArray, List.set_cons_zero, List.set_cons_succ]
        refine wpAnyH_take (i := 23) (oi := ?o24) (v := ?v24) ?i24 (by kernel_rfl) (by kernel_rfl) (by kernel_rfl) ?q24 ?y24 (trivial) ?r24
        case i24 => exact rfl
        case q24 => exact (fun _ _ _ h => h)
        case y24 =>
          refine Or.inl ⟨by rfl, ?_⟩
          intro w hSw
          go_simp
          first | done | rfl
        try simp only [Act.put, List.getElem_toArray, List.getElem_cons_zero, List.getElem_cons_succ, List.setIfInBounds_toArray, List.set_cons_zero, List.set_cons_succ]
        refine wpAnyH_take (i := 24) (oi := ?o25) (v := ?v25) ?i25 (by kernel_rfl) (by kernel_rfl) (by kernel_rfl) ?q25 ?y25 (trivial) ?r25
        case i25 => exact rfl
        case q25 => exact (fun _ _ _ h => h)
        case y25 =>
          refine Or.inl ⟨by rfl, ?_⟩
          intro w hSw
          go_simp
          first | done | rfl
        try simp only [Act.put, List.getElem_toArray, List.getElem_cons_zero, List.getElem_cons_succ, List.setIfInBounds_toArray, List.set_cons_zero, List.set_cons_succ]
        refine wpAnyH_take (i := 25) (oi := ?o26) (v := ?v26) ?i26 (by kernel_rfl) (by kernel_rfl) (by kernel_rfl) ?q26 ?y26 (trivial) ?r26
        case i26 => exact rfl
        case q26 => exact (fun _ _ _ h => h)
        case y26 =>
          refine Or.inl ⟨by rfl, ?_⟩
          intro w hSw
          go_simp
          first | done | rfl
        try simp only [Act.put, List.getElem_toArray, List.getElem_cons_zero, List.getElem_cons_succ, List.setIfInBounds_toArray, List.set_cons_zero, List.set_cons_succ]
        refine wpAnyH_take (i := 26) (oi := ?o27) (v := ?v27) ?i27 (by kernel_rfl) (by kernel_rfl) (by kernel_rfl) ?q27 ?y27 (trivial) ?r27
        case i27 => exact rfl
        case q27 => exact (fun _ _ _ h => h)
        case y27 =>
          refine Or.inl ⟨by rfl, ?_⟩
          intro w hSw
          go_simp
          first | done | rfl
        try simp only [Act.put, List.getElem_toArray, List.getElem_cons_zero, List.getElem_cons_succ, List.setIfInBounds_toArray, List.set_cons_zero, List.set_cons_succ]
        refine wpAnyH_take (i := 27) (oi := ?o28) (v := ?v28) ?i28 (by kernel_rfl) (by kernel_rfl) (by kernel_rfl) ?q28 ?y28 (trivial) ?r28
        case i28 => exact rfl
        case q28 => exact (fun _ _ _ h => h)
        case y28 =>
          refine Or.inl ⟨by rfl, ?_⟩
          intro w hSw
          go_simp
          first | done | rfl
        try simp only [Act.put, List.getElem_toArray, List.getElem_cons_zero, List.getElem_cons_succ, List.setIfInBounds_toArray, List.set_cons_zero, List.set_cons_succ]
        refine wpAnyH_take (i := 29) (oi := ?o29) (v := ?v29) ?i29 (by kernel_rfl) (by kernel_rfl) (by kernel_rfl) ?q29 ?y29 (trivial) ?r29
        case i29 => exact rfl
        case q29 => exact (fun _ _ _ h => h)
        case y29 =>
          refine Or.inl ⟨by rfl, ?_⟩
          intro w hSw
          go_simp
          first | done | rfl
        try simp only [Act.put, List.getElem_toArray, List.getElem_cons_zero, List.getElem_cons_succ, List.setIfInBounds_toArray, List.set_cons_zero, List.set_cons_succ]
        refine wpAnyH_ready (rs := [28]) (by kernel_rfl) (by simp) ?_
        refine AllReadyH.cons (i := 28) (o := ?o30) ?i30 (fun K hK => ?_) AllReadyH.nil
        case i30 => exact rfl
        go_simp
        (with_reducible refine (hsTR.out _ rTP.out).mono ?_)
        rintro e wq ⟨rfl, rfl⟩
        go_wp2_with fail
        refine hK.out _ _ (trivial) (fun hHeld => ?_)
        clear hK K
        try simp only [Act.put, List.getElem_toArray, List.getElem_cons_zero, List.getElem_cons_succ, List.setIfInBounds_toArray, List.set_cons_zero, List.set_cons_succ]
        refine wpAnyH_ready (rs := [30]) (by kernel_rfl) (by simp) ?_
        refine AllReadyH.cons (i := 30) (o := ?o31) ?i31 (fun K hK => ?_) AllReadyH.nil
        case i31 => exact rfl
        go_simp
        (with_reducible refine (hsUR.out _ rUP.out).mono ?_)
        rintro e wq ⟨rfl, rfl⟩
        go_wp2_with fail
        refine hK.out _ _ (trivial) (fun hHeld => ?_)
        clear hK K
        try simp only [Act.put, List.getElem_toArray, List.getElem_cons_zero, List.getElem_cons_succ, List.setIfInBounds_toArray, List.set_cons_zero, List.set_cons_succ]
        refine wpAnyH_take (i := 31) (oi := ?o32) (v := ?v32) ?i32 (by kernel_rfl) (by kernel_rfl) (by kernel_rfl) ?q32 ?y32 (trivial) ?r32
        case i32 => exact rfl
        case q32 => exact (fun _ _ _ h => h)
        case y32 =>
          refine Or.inl ⟨by rfl, ?_⟩
          intro w hSw
          go_simp
          first | done | rfl
        try simp only [Act.put, List.getElem_toArray, List.getElem_cons_zero, List.getElem_cons_succ, List.setIfInBounds_toArray, List.set_cons_zero, List.set_cons_succ]
        refine wpAnyH_take (i := 32) (oi := ?o33) (v := ?v33) ?i33 (by kernel_rfl) (by kernel_rfl) (by kernel_rfl) ?q33 ?y33 (trivial) ?r33
        case i33 => exact rfl
        case q33 => exact (fun _ _ _ h => h)
        case y33 =>
          refine Or.inl ⟨by rfl, ?_⟩
          intro w hSw
          go_simp
          first | done | rfl
        try simp only [Act.put, List.getElem_toArray, List.getElem_cons_zero, List.getElem_cons_succ, List.setIfInBounds_toArray, List.set_cons_zero, List.set_cons_succ]
        refine wpAnyH_take (i := 33) (oi := ?o34) (v := ?v34) ?i34 (by kernel_rfl) (by kernel_rfl) (by kernel_rfl) ?q34 ?y34 (trivial) ?r34
        case i34 => exact rfl
        case q34 => exact (fun _ _ _ h => h)
        case y34 =>
          refine Or.inl ⟨by rfl, ?_⟩
          intro w hSw
          go_simp
          first | done | rfl
        try simp only [Act.put, List.getElem_toArray, List.getElem_cons_zero, List.getElem_cons_succ, List.setIfInBounds_toArray, List.set_cons_zero, List.set_cons_succ]
        refine wpAnyH_take (i := 34) (oi := ?o35) (v := undef) ?i35 (by kernel_rfl) (by kernel_rfl) (by kernel_rfl) ?q35 ?y35 (trivial) ?r35
        case i35 => exact rfl
        case q35 => exact (fun _ _ _ h => h)
        case y35 => exact Or.inr ⟨by rfl, rfl⟩
        try simp only [Act.put, List.getElem_toArray, List.getElem_cons_zero, List.getElem_cons_succ, List.setIfInBounds_toArray, List.set_cons_zero, List.set_cons_succ]
        refine wpAnyH_take (i := 35) (oi := ?o36) (v := undef) ?i36 (by kernel_rfl) (by kernel_rfl) (by kernel_rfl) ?q36 ?y36 (trivial) ?r36
        case i36 => exact rfl
        case q36 => exact (fun _ _ _ h => h)
        case y36 => exact Or.inr ⟨by rfl, rfl⟩
        try simp only [Act.put, List.getElem_toArray, List.getElem_cons_zero, List.getElem_cons_succ, List.setIfInBounds_toArray, List.set_cons_zero, List.set_cons_succ]
        refine wpAnyH_take (i := 36) (oi := ?o37) (v := undef) ?i37 (by kernel_rfl) (by kernel_rfl) (by kernel_rfl) ?q37 ?y37 (trivial) ?r37
        case i37 => exact rfl
        case q37 => exact (fun _ _ _ h => h)
        case y37 => exact Or.inr ⟨by rfl, rfl⟩
        try simp only [Act.put, List.getElem_toArray, List.getElem_cons_zero, List.getElem_cons_succ, List.setIfInBounds_toArray, List.set_cons_zero, List.set_cons_succ]
        refine wpAnyH_take (i := 37) (oi := ?o38) (v := ?v38) ?i38 (by kernel_rfl) (by kernel_rfl) (by kernel_rfl) ?q38 ?y38 (trivial) ?r38
        case i38 => exact rfl
        case q38 => exact (fun _ _ _ h => h)
        case y38 =>
          refine Or.inl ⟨by rfl, ?_⟩
          intro w hSw
          go_simp
          first | done | rfl
        try simp only [Act.put, List.getElem_toArray, List.getElem_cons_zero, List.getElem_cons_succ, List.setIfInBounds_toArray, List.set_cons_zero, List.set_cons_succ]
        refine wpAnyH_take (i := 38) (oi := ?o39) (v := ?v39) ?i39 (by kernel_rfl) (by kernel_rfl) (by kernel_rfl) ?q39 ?y39 (trivial) ?r39
        case i39 => exact rfl
        case q39 => exact (fun _ _ _ h => h)
        case y39 =>
          refine Or.inl ⟨by rfl, ?_⟩
          intro w hSw
          go_simp
          first | done | rfl
        try simp only [Act.put, List.getElem_toArray, List.getElem_cons_zero, List.getElem_cons_succ, List.setIfInBounds_toArray, List.set_cons_zero, List.set_cons_succ]
        refine wpAnyH_done (by kernel_rfl) ?_ _
        go_wp2_with fail
        go_ret
        exact ⟨rfl, HBP.out⟩
    · have h41 : (40 : Int) < (nT : Int) := by omega
      clear HGT HLU HEN h40
      go_wp2_with fail
      refine (drawGetNumM _ _ _ code _ (hr.below hB7) hlen).mono ?_
      rintro e w8 ⟨aA, nA, cA, lA, fr, rfl, hnA, hfr, mA⟩
      have hB8 : Below w.heap.size w w8 := hB7.trans (mA.below.mono hB7.size)
      replace rT := rT.below mA.below
      replace rU := rU.below mA.below
      have rA := mA.row
      have kA := mA.cap
      have kA2 := mA.most
      clear mA hB7
      go_wp2_with fail
      refine (implGetM _ _ _ lA fr _ rA (by omega) kA kA2).mono ?_
      have hpg := put_get lA fr rA.2.1
      obtain ⟨k, hk⟩ : ∃ x, x = (getL lA fr).1 := ⟨_, rfl⟩
      obtain ⟨st, hst⟩ : ∃ x, x = (getL lA fr).2 := ⟨_, rfl⟩
      rw [← hk, ← hst] at hpg ⊢
      rintro e w9 ⟨rfl, b9⟩
      have HPG : Hid _ := hpg
      clear hk hst hpg
      have hB9 : Below w.heap.size w w9 := hB8.trans (b9.mono hB8.size)
      replace rT := rT.below b9
      replace rU := rU.below b9
      replace rA := rA.below b9
      clear b9 hB8
      unfold maxLen at kA2
      go_wp2_with fail
      refine (wrapM n _).mono ?_
      rintro e w9' ⟨rfl, rfl⟩
      have hwb := w32_bd n
      have hwm1 := w32_mod1 n
      have hwm2 := w32_mod2 n hfn
      have hwm3 := w32_mod3 n hfn
      have hww : Hid (∀ wx : World, Calls Try.prog 12 #[.int .i64 (w32 n)] wx fun e w' => e = .returned (.int .i64 (w32 n)) ∧ w' = wx) := by
        intro wx
        refine (wrapM (w32 n) wx).mono ?_
        rintro e w' ⟨rfl, rfl⟩
        exact ⟨ret_int (w32_w32 n), rfl⟩
      generalize w32 n = W at *
      have hsT : Hid (∀ wx : World, BRow wx aT nT lT → Calls Try.prog 13 #[.slice aT nT cT] wx fun e w' => e = .returned (.int .i64 (sumTo lT nT)) ∧ w' = wx) := by
        intro wx hx
        refine (implSum aT nT cT lT wx hx (by omega)).mono ?_
        rintro e w' ⟨rfl, rfl⟩
        exact ⟨rfl, rfl⟩
      have hsU : Hid (∀ wx : World, BRow wx aU nU lU → Calls Try.prog 13 #[.slice aU nU cU] wx fun e w' => e = .returned (.int .i64 (sumTo lU nU)) ∧ w' = wx) := by
        intro wx hx
        refine (implSum aU nU cU lU wx hx (by omega)).mono ?_
        rintro e w' ⟨rfl, rfl⟩
        exact ⟨rfl, rfl⟩
      have HRT : Hid (BRow w9' aT nT lT) := rT
      have HRU : Hid (BRow w9' aU nU lU) := rU
      generalize sumTo lT nT = S1 at *
      generalize sumTo lU nU = S2 at *
      clear rT rU
      cases dsum : (S1 == S2)
      ·
        by_cases hneg : st < 0
        · have dneg : decide (st < 0) = true := by simpa using hneg
          clear HPG rA
          go_wp2_with fail
          go_quiet ((first | (go_at_call 12; exact Calls.quiet_of_same (hww.out _)) | (go_at_call_of 13 (Value.slice aT nT cT); exact Calls.quiet_of_same (hsT.out _ HRT.out)) | (go_at_call_of 13 (Value.slice aU nU cU); exact Calls.quiet_of_same (hsU.out _ HRU.out))))
          go_wp2
          go_ret
          exact ⟨rfl, below_drewN hB9 _⟩
        · obtain ⟨p1, p2, p3, p4, p5, p6⟩ := HPG.out (by omega)
          obtain ⟨f, rfl⟩ := Int.eq_ofNat_of_zero_le p1
          obtain ⟨s, rfl⟩ := Int.eq_ofNat_of_zero_le (show 0 ≤ st by omega)
          have hlA := rA.1
          rw [hlA] at p2 p5
          rw [Int.toNat_natCast, Int.toNat_natCast] at p3
          obtain ⟨b, off, haA, _⟩ := rA.2.2 (by omega)
          subst haA
          obtain ⟨pk, hpk⟩ : ∃ x, x = putL k := ⟨_, rfl⟩
          have hpkl := putL_len k
          rw [← hpk] at p3 hpkl
          have hput : Hid (∀ wx : World, BRow wx (some ⟨b, off, none⟩) nA lA → Calls Try.prog 5 #[.slice (some ⟨b, off, none⟩) f cA, .int .i64 k] wx fun e w' => ∃ aP cP, e = .returned (.slice aP (f + pk.length) cP) ∧ BRow w' aP (f + pk.length) (lA.take f ++ pk) ∧ Below wx.heap.size wx w') := by
            intro wx hx
            refine (implPutM _ f cA (lA.take f) k wx (hx.head (by omega)) (by omega)).mono ?_
            rw [← hpk]
            rintro e w' ⟨aP, cP, rfl, mP⟩
            exact ⟨aP, cP, rfl, mP.row, mP.below⟩
          have hsm2 : Hid (∀ (wx : World) (aP : Option Addr) (cP : Nat), BRow wx aP (f + pk.length) (lA.take f ++ pk) → BRow wx (some ⟨b, off, none⟩) nA lA → Calls Try.prog 10 #[.slice aP (f + pk.length) cP, .slice (some ⟨b, off, none⟩) s cA] wx fun e w' => e = .returned (.bool true) ∧ wx = w') := by
            intro wx aP cP h1 h2
            refine (sameM _ _ _ _ _ _ _ (lA.take s) wx h1 (h2.head (by omega))).mono ?_
            rintro e w' ⟨rfl, rfl⟩
            exact ⟨by rw [decide_eq_true p3], rfl⟩
          have hwwR : Hid (∀ wx : World, Calls Try.prog 12 #[.int .i64 W] wx fun e w' => e = .returned (.int .i64 W) ∧ wx = w') := fun wx => (hww.out wx).mono (fun e w' h => ⟨h.1, h.2.symm⟩)
          have hsTR : Hid (∀ wx : World, BRow wx aT nT lT → Calls Try.prog 13 #[.slice aT nT cT] wx fun e w' => e = .returned (.int .i64 S1) ∧ wx = w') := fun wx hx => (hsT.out wx hx).mono (fun e w' h => ⟨h.1, h.2.symm⟩)
          have hsUR : Hid (∀ wx : World, BRow wx aU nU lU → Calls Try.prog 13 #[.slice aU nU cU] wx fun e w' => e = .returned (.int .i64 S2) ∧ wx = w') := fun wx hx => (hsU.out wx hx).mono (fun e w' h => ⟨h.1, h.2.symm⟩)
          have HRA : Hid (BRow w9' (some ⟨b, off, none⟩) nA lA) := rA
          have hfc : f ≤ cA := by omega
          have hsc : s ≤ cA := by omega
          have hs0 : ¬ (s : Int) < 0 := by omega
          clear hww hsT hsU HPG rA p3 hpk hpkl hneg hlA
          go_wp2_with fail
          have HRAd : Hid (BRow w9'.drew (some ⟨b, off, none⟩) nA lA) := HRA.out
          have HRTd : Hid (BRow w9'.drew aT nT lT) := HRT.out
          have HRUd : Hid (BRow w9'.drew aU nU lU) := HRU.out
          refine wp_region_held_drew (S := fun _ => True) (by kernel_rfl) trivial (fun hHeld => ?_)
          refine wpAnyH_take (i := 0) (oi := ?o40) (v := ?v40) ?i40 (by kernel_rfl) (by kernel_rfl) (by kernel_rfl) ?q40 ?y40 (trivial) ?r40
          case i40 => exact rfl
          case q40 => exact (fun _ _ _ h => h)
          case y40 =>
            refine Or.inl ⟨by rfl, ?_⟩
            intro w hSw
            go_simp
            first | done | rfl
          try simp only [Act.put, List.getElem_toArray, List.getElem_cons_zero, List.getElem_cons_succ, List.setIfInBounds_toArray, List.set_cons_zero, List.set_cons_succ]
          refine wpAnyH_take (i := 1) (oi := ?o41) (v := ?v41) ?i41 (by kernel_rfl) (by kernel_rfl) (by kernel_rfl) ?q41 ?y41 (trivial) ?r41
          case i41 => exact rfl
          case q41 => exact (fun _ _ _ h => h)
          case y41 =>
            refine Or.inl ⟨by rfl, ?_⟩
            intro w hSw
            go_simp
            first | done | rfl
          try simp only [Act.put, List.getElem_toArray, List.getElem_cons_zero, List.getElem_cons_succ, List.setIfInBounds_toArray, List.set_cons_zero, List.set_cons_succ]
          refine wpAnyH_take (i := 2) (oi := ?o42) (v := ?v42) ?i42 (by kernel_rfl) (by kernel_rfl) (by kernel_rfl) ?q42 ?y42 (trivial) ?r42
          case i42 => exact rfl
          case q42 => exact (fun _ _ _ h => h)
          case y42 =>
            refine Or.inl ⟨by rfl, ?_⟩
            intro w hSw
            go_simp
            first | done | rfl
          try simp only [Act.put, List.getElem_toArray, List.getElem_cons_zero, List.getElem_cons_succ, List.setIfInBounds_toArray, List.set_cons_zero, List.set_cons_succ]
          refine wpAnyH_take (i := 3) (oi := ?o43) (v := ?v43) ?i43 (by kernel_rfl) (by kernel_rfl) (by kernel_rfl) ?q43 ?y43 (trivial) ?r43
          case i43 => exact rfl
          case q43 => exact (fun _ _ _ h => h)
          case y43 =>
            refine Or.inl ⟨by rfl, ?_⟩
            intro w hSw
            go_simp
            first | done | rfl
          try simp only [Act.put, List.getElem_toArray, List.getElem_cons_zero, List.getElem_cons_succ, List.setIfInBounds_toArray, List.set_cons_zero, List.set_cons_succ]
          refine wpAnyH_take (i := 4) (oi := ?o44) (v := ?v44) ?i44 (by kernel_rfl) (by kernel_rfl) (by kernel_rfl) ?q44 ?y44 (trivial) ?r44
          case i44 => exact rfl
          case q44 => exact (fun _ _ _ h => h)
          case y44 =>
            refine Or.inl ⟨by rfl, ?_⟩
            intro w hSw
            go_simp
            first | done | rfl
          try simp only [Act.put, List.getElem_toArray, List.getElem_cons_zero, List.getElem_cons_succ, List.setIfInBounds_toArray, List.set_cons_zero, List.set_cons_succ]
          refine wpAnyH_take (i := 5) (oi := ?o45) (v := ?v45) ?i45 (by kernel_rfl) (by kernel_rfl) (by kernel_rfl) ?q45 ?y45 (trivial) ?r45
          case i45 => exact rfl
          case q45 => exact (fun _ _ _ h => h)
          case y45 =>
            refine Or.inl ⟨by rfl, ?_⟩
            intro w hSw
            go_simp
            first | done | rfl
          try simp only [Act.put, List.getElem_toArray, List.getElem_cons_zero, List.getElem_cons_succ, List.setIfInBounds_toArray, List.set_cons_zero, List.set_cons_succ]
          refine wpAnyH_take (i := 6) (oi := ?o46) (v := ?v46) ?i46 (by kernel_rfl) (by kernel_rfl) (by kernel_rfl) ?q46 ?y46 (trivial) ?r46
          case i46 => exact rfl
          case q46 => exact (fun _ _ _ h => h)
          case y46 =>
            refine Or.inl ⟨by rfl, ?_⟩
            intro w hSw
            go_simp
            first | done | rfl
          try simp only [Act.put, List.getElem_toArray, List.getElem_cons_zero, List.getElem_cons_succ, List.setIfInBounds_toArray, List.set_cons_zero, List.set_cons_succ]
          refine wpAnyH_take (i := 8) (oi := ?o47) (v := ?v47) ?i47 (by kernel_rfl) (by kernel_rfl) (by kernel_rfl) ?q47 ?y47 (trivial) ?r47
          case i47 => exact rfl
          case q47 => exact (fun _ _ _ h => h)
          case y47 =>
            refine Or.inl ⟨by rfl, ?_⟩
            intro w hSw
            go_simp
            first | done | rfl
          try simp only [Act.put, List.getElem_toArray, List.getElem_cons_zero, List.getElem_cons_succ, List.setIfInBounds_toArray, List.set_cons_zero, List.set_cons_succ]
          refine wpAnyH_take (i := 9) (oi := ?o48) (v := ?v48) ?i48 (by kernel_rfl) (by kernel_rfl) (by kernel_rfl) ?q48 ?y48 (trivial) ?r48
          case i48 => exact rfl
          case q48 => exact (fun _ _ _ h => h)
          case y48 =>
            refine Or.inl ⟨by rfl, ?_⟩
            intro w hSw
            go_simp
            first | done | rfl
          try simp only [Act.put, List.getElem_toArray, List.getElem_cons_zero, List.getElem_cons_succ, List.setIfInBounds_toArray, List.set_cons_zero, List.set_cons_succ]
          refine wpAnyH_take (i := 10) (oi := ?o49) (v := ?v49) ?i49 (by kernel_rfl) (by kernel_rfl) (by kernel_rfl) ?q49 ?y49 (trivial) ?r49
          case i49 => exact rfl
          case q49 => exact (fun _ _ _ h => h)
          case y49 =>
            refine Or.inl ⟨by rfl, ?_⟩
            intro w hSw
            go_simp
            first | done | rfl
          try simp only [Act.put, List.getElem_toArray, List.getElem_cons_zero, List.getElem_cons_succ, List.setIfInBounds_toArray, List.set_cons_zero, List.set_cons_succ]
          refine wpAnyH_ready (rs := [7]) (by kernel_rfl) (by simp) ?_
          refine AllReadyH.cons (i := 7) (o := ?o50) ?i50 (fun K hK => ?_) AllReadyH.nil
          case i50 => exact rfl
          go_simp
          (with_reducible refine (hput.out _ HRAd.out).mono ?_)
          rintro e wP ⟨aP, cP, rfl, rP, bP⟩
          have rTP : Hid (BRow wP aT nT lT) := BRow.below (w := w9'.drew) HRTd.out bP
          have rUP : Hid (BRow wP aU nU lU) := BRow.below (w := w9'.drew) HRUd.out bP
          have rAP : Hid (BRow wP (some ⟨b, off, none⟩) nA lA) := BRow.below (w := w9'.drew) HRAd.out bP
          have HRP : Hid (BRow wP aP (f + pk.length) (lA.take f ++ pk)) := rP
          have HBP : Hid (Below w.heap.size w wP) := hB9.drew.trans (bP.mono hB9.size)
          clear rP bP
          go_wp2_with fail
          refine hK.out _ _ (trivial) (fun hHeld => ?_)
          clear hK K
          try simp only [Act.put, List.getElem_toArray, List.getElem_cons_zero, List.getElem_cons_succ, List.setIfInBounds_toArray, List.set_cons_zero, List.set_cons_succ]
          refine wpAnyH_ready (rs := [11]) (by kernel_rfl) (by simp) ?_
          refine AllReadyH.cons (i := 11) (o := ?o51) ?i51 (fun K hK => ?_) AllReadyH.nil
          case i51 => exact rfl
          go_simp
          (with_reducible refine (hsm2.out _ _ _ HRP.out rAP.out).mono ?_)
          rintro e wq ⟨rfl, rfl⟩
          go_wp2_with fail
          refine hK.out _ _ (trivial) (fun hHeld => ?_)
          clear hK K
          try simp only [Act.put, List.getElem_toArray, List.getElem_cons_zero, List.getElem_cons_succ, List.setIfInBounds_toArray, List.set_cons_zero, List.set_cons_succ]
          refine wpAnyH_take (i := 12) (oi := ?o52) (v := ?v52) ?i52 (by kernel_rfl) (by kernel_rfl) (by kernel_rfl) ?q52 ?y52 (trivial) ?r52
          case i52 => exact rfl
          case q52 => exact (fun _ _ _ h => h)
          case y52 =>
            refine Or.inl ⟨by rfl, ?_⟩
            intro w hSw
            go_simp
            first | done | rfl
          try simp only [Act.put, List.getElem_toArray, List.getElem_cons_zero, List.getElem_cons_succ, List.setIfInBounds_toArray, List.set_cons_zero, List.set_cons_succ]
          refine wpAnyH_take (i := 13) (oi := ?o53) (v := ?v53) ?i53 (by kernel_rfl) (by kernel_rfl) (by kernel_rfl) ?q53 ?y53 (trivial) ?r53
          case i53 => exact rfl
          case q53 => exact (fun _ _ _ h => h)
          case y53 =>
            refine Or.inl ⟨by rfl, ?_⟩
            intro w hSw
            go_simp
            first | done | rfl
          try simp only [Act.put, List.getElem_toArray, List.getElem_cons_zero, List.getElem_cons_succ, List.setIfInBounds_toArray, List.set_cons_zero, List.set_cons_succ]
          refine wpAnyH_take (i := 14) (oi := ?o54) (v := ?v54) ?i54 (by kernel_rfl) (by kernel_rfl) (by kernel_rfl) ?q54 ?y54 (trivial) ?r54
          case i54 => exact rfl
          case q54 => exact (fun _ _ _ h => h)
          case y54 =>
            refine Or.inl ⟨by rfl, ?_⟩
            intro w hSw
            go_simp
            first | done | rfl
          try simp only [Act.put, List.getElem_toArray, List.getElem_cons_zero, List.getElem_cons_succ, List.setIfInBounds_toArray, List.set_cons_zero, List.set_cons_succ]
          refine wpAnyH_take (i := 16) (oi := ?o55) (v := ?v55) ?i55 (by kernel_rfl) (by kernel_rfl) (by kernel_rfl) ?q55 ?y55 (trivial) ?r55
          case i55 => exact rfl
          case q55 => exact (fun _ _ _ h => h)
          case y55 =>
            refine Or.inl ⟨by rfl, ?_⟩
            intro w hSw
            go_simp
            first | done | rfl
          try simp only [Act.put, List.getElem_toArray, List.getElem_cons_zero, List.getElem_cons_succ, List.setIfInBounds_toArray, List.set_cons_zero, List.set_cons_succ]
          refine wpAnyH_ready (rs := [15]) (by kernel_rfl) (by simp) ?_
          refine AllReadyH.cons (i := 15) (o := ?o56) ?i56 (fun K hK => ?_) AllReadyH.nil
          case i56 => exact rfl
          go_simp
          (with_reducible refine (hwwR.out _).mono ?_)
          rintro e wq ⟨rfl, rfl⟩
          go_wp2_with fail
          refine hK.out _ _ (trivial) (fun hHeld => ?_)
          clear hK K
          try simp only [Act.put, List.getElem_toArray, List.getElem_cons_zero, List.getElem_cons_succ, List.setIfInBounds_toArray, List.set_cons_zero, List.set_cons_succ]
          refine wpAnyH_take (i := 17) (oi := ?o57) (v := ?v57) ?i57 (by kernel_rfl) (by kernel_rfl) (by kernel_rfl) ?q57 ?y57 (trivial) ?r57
          case i57 => exact rfl
          case q57 => exact (fun _ _ _ h => h)
          case y57 =>
            refine Or.inl ⟨by rfl, ?_⟩
            intro w hSw
            go_simp
            first | done | rfl
          try simp only [Act.put, List.getElem_toArray, List.getElem_cons_zero, List.getElem_cons_succ, List.setIfInBounds_toArray, List.set_cons_zero, List.set_cons_succ]
          refine wpAnyH_take (i := 18) (oi := ?o58) (v := ?v58) ?i58 (by kernel_rfl) (by kernel_rfl) (by kernel_rfl) ?q58 ?y58 (trivial) ?r58
          case i58 => exact rfl
          case q58 => exact (fun _ _ _ h => h)
          case y58 =>
            refine Or.inl ⟨by rfl, ?_⟩
            intro w hSw
            go_simp
            first | done | rfl
          try simp only [Act.put, List.getElem_toArray, List.getElem_cons_zero, List.getElem_cons_succ, List.setIfInBounds_toArray, List.set_cons_zero, List.set_cons_succ]
          refine wpAnyH_take (i := 19) (oi := ?o59) (v := ?v59) ?i59 (by kernel_rfl) (by kernel_rfl) (by kernel_rfl) ?q59 ?y59 (trivial) ?r59
          case i59 => exact rfl
          case q59 => exact (fun _ _ _ h => h)
          case y59 =>
            refine Or.inl ⟨by rfl, ?_⟩
            intro w hSw
            go_simp
            first | done | rfl
          try simp only [Act.put, List.getElem_toArray, List.getElem_cons_zero, List.getElem_cons_succ, List.setIfInBounds_toArray, List.set_cons_zero, List.set_cons_succ]
          refine wpAnyH_take (i := 20) (oi := ?o60) (v := ?v60) ?i60 (by kernel_rfl) (by kernel_rfl) (by kernel_rfl) ?q60 ?y60 (trivial) ?r60
          case i60 => exact rfl
          case q60 => exact (fun _ _ _ h => h)
          case y60 =>
            refine Or.inl ⟨by rfl, ?_⟩
            intro w hSw
            go_simp
            first | done | rfl
          try simp only [Act.put, List.getElem_toArray, List.getElem_cons_zero, List.getElem_cons_succ, List.setIfInBounds_toArray, List.set_cons_zero, List.set_cons_succ]
          refine wpAnyH_take (i := 21) (oi := ?o61) (v := ?v61) ?i61 (by kernel_rfl) (by kernel_rfl) (by kernel_rfl) ?q61 ?y61 (trivial) ?r61
          case i61 => exact rfl
          case q61 => exact (fun _ _ _ h => h)
          case y61 =>
            refine Or.inl ⟨by rfl, ?_⟩
            intro w hSw
            go_simp
            first | done | rfl
          try simp only [Act.put, List.getElem_toArray, List.getElem_cons_zero, List.getElem_cons_succ, List.setIfInBounds_toArray, List.set_cons_zero, List.set_cons_succ]
          refine wpAnyH_take (i := 22) (oi := ?o62) (v := ?v62) ?i62 (by kernel_rfl) (by kernel_rfl) (by kernel_rfl) ?q62 ?y62 (trivial) ?r62
          case i62 => exact rfl
          case q62 => exact (fun _ _ _ h => h)
          case y62 =>
            refine Or.inl ⟨by rfl, ?_⟩
            intro w hSw
            go_simp
            first | done | rfl
          try simp only [Act.put, List.getElem_toArray, List.getElem_cons_zero, List.getElem_cons_succ, List.setIfInBounds_toArray, List.set_cons_zero, List.set_cons_succ]
          refine wpAnyH_take (i := 23) (oi := ?o63) (v := ?v63) ?i63 (by kernel_rfl) (by kernel_rfl) (by kernel_rfl) ?q63 ?y63 (trivial) ?r63
          case i63 => exact rfl
          case q63 => exact (fun _ _ _ h => h)
          case y63 =>
            refine Or.inl ⟨by rfl, ?_⟩
            intro w hSw
            go_simp
            first | done | rfl
          try simp only [Act.put, List.getElem_toArray, List.getElem_cons_zero, List.getElem_cons_succ, List.setIfInBounds_toArray, List.set_cons_zero, List.set_cons_succ]
          refine wpAnyH_take (i := 24) (oi := ?o64) (v := ?v64) ?i64 (by kernel_rfl) (by kernel_rfl) (by kernel_rfl) ?q64 ?y64 (trivial) ?r64
          case i64 => exact rfl
          case q64 => exact (fun _ _ _ h => h)
          case y64 =>
            refine Or.inl ⟨by rfl, ?_⟩
            intro w hSw
            go_simp
            first | done | rfl
          try simp only [Act.put, List.getElem_toArray, List.getElem_cons_zero, List.getElem_cons_succ, List.setIfInBounds_toArray, List.set_cons_zero, List.set_cons_succ]
          refine wpAnyH_take (i := 25) (oi := ?o65) (v := ?v65) ?i65 (by kernel_rfl) (by kernel_rfl) (by kernel_rfl) ?q65 ?y65 (trivial) ?r65
          case i65 => exact rfl
          case q65 => exact (fun _ _ _ h => h)
          case y65 =>
            refine Or.inl ⟨by rfl, ?_⟩
            intro w hSw
            go_simp
            first | done | rfl
          try simp only [Act.put, List.getElem_toArray, List.getElem_cons_zero, List.getElem_cons_succ, List.setIfInBounds_toArray, List.set_cons_zero, List.set_cons_succ]
          refine wpAnyH_take (i := 26) (oi := ?o66) (v := ?v66) ?i66 (by kernel_rfl) (by kernel_rfl) (by kernel_rfl) ?q66 ?y66 (trivial) ?r66
          case i66 => exact rfl
          case q66 => exact (fun _ _ _ h => h)
          case y66 =>
            refine Or.inl ⟨by rfl, ?_⟩
            intro w hSw
            go_simp
            first | done | rfl
          try simp only [Act.put, List.getElem_toArray, List.getElem_cons_zero, List.getElem_cons_succ, List.setIfInBounds_toArray, List.set_cons_zero, List.set_cons_succ]
          refine wpAnyH_take (i := 27) (oi := ?o67) (v := ?v67) ?i67 (by kernel_rfl) (by kernel_rfl) (by kernel_rfl) ?q67 ?y67 (trivial) ?r67
          case i67 => exact rfl
          case q67 => exact (fun _ _ _ h => h)
          case y67 =>
            refine Or.inl ⟨by rfl, ?_⟩
            intro w hSw
            go_simp
            first | done | rfl
          try simp only [Act.put, List.getElem_toArray, List.getElem_cons_zero, List.getElem_cons_succ, List.setIfInBounds_toArray, List.set_cons_zero, List.set_cons_succ]
          refine wpAnyH_take (i := 29) (oi := ?o68) (v := ?v68) ?i68 (by kernel_rfl) (by kernel_rfl) (by kernel_rfl) ?q68 ?y68 (trivial) ?r68
          case i68 => exact rfl
          case q68 => exact (fun _ _ _ h => h)
          case y68 =>
            refine Or.inl ⟨by rfl, ?_⟩
            intro w hSw
            go_simp
            first | done | rfl
          try simp only [Act.put, List.getElem_toArray, List.getElem_cons_zero, List.getElem_cons_succ, List.setIfInBounds_toArray, List.set_cons_zero, List.set_cons_succ]
          refine wpAnyH_ready (rs := [28]) (by kernel_rfl) (by simp) ?_
          refine AllReadyH.cons (i := 28) (o := ?o69) ?i69 (fun K hK => ?_) AllReadyH.nil
          case i69 => exact rfl
          go_simp
          (with_reducible refine (hsTR.out _ rTP.out).mono ?_)
          rintro e wq ⟨rfl, rfl⟩
          go_wp2_with fail
          refine hK.out _ _ (trivial) (fun hHeld => ?_)
          clear hK K
          try simp only [Act.put, List.getElem_toArray, List.getElem_cons_zero, List.getElem_cons_succ, List.setIfInBounds_toArray, List.set_cons_zero, List.set_cons_succ]
          refine wpAnyH_ready (rs := [30]) (by kernel_rfl) (by simp) ?_
          refine AllReadyH.cons (i := 30) (o := ?o70) ?i70 (fun K hK => ?_) AllReadyH.nil
          case i70 => exact rfl
          go_simp
          (with_reducible refine (hsUR.out _ rUP.out).mono ?_)
          rintro e wq ⟨rfl, rfl⟩
          go_wp2_with fail
          refine hK.out _ _ (trivial) (fun hHeld => ?_)
          clear hK K
          try simp only [Act.put, List.getElem_toArray, List.getElem_cons_zero, List.getElem_cons_succ, List.setIfInBounds_toArray, List.set_cons_zero, List.set_cons_succ]
          refine wpAnyH_take (i := 31) (oi := ?o71) (v := ?v71) ?i71 (by kernel_rfl) (by kernel_rfl) (by kernel_rfl) ?q71 ?y71 (trivial) ?r71
          case i71 => exact rfl
          case q71 => exact (fun _ _ _ h => h)
          case y71 =>
            refine Or.inl ⟨by rfl, ?_⟩
            intro w hSw
            go_simp
            first | done | rfl
          try simp only [Act.put, List.getElem_toArray, List.getElem_cons_zero, List.getElem_cons_succ, List.setIfInBounds_toArray, List.set_cons_zero, List.set_cons_succ]
          refine wpAnyH_take (i := 32) (oi := ?o72) (v := ?v72) ?i72 (by kernel_rfl) (by kernel_rfl) (by kernel_rfl) ?q72 ?y72 (trivial) ?r72
          case i72 => exact rfl
          case q72 => exact (fun _ _ _ h => h)
          case y72 =>
            refine Or.inl ⟨by rfl, ?_⟩
            intro w hSw
            go_simp
            first | done | rfl
          try simp only [Act.put, List.getElem_toArray, List.getElem_cons_zero, List.getElem_cons_succ, List.setIfInBounds_toArray, List.set_cons_zero, List.set_cons_succ]
          refine wpAnyH_take (i := 33) (oi := ?o73) (v := ?v73) ?i73 (by kernel_rfl) (by kernel_rfl) (by kernel_rfl) ?q73 ?y73 (trivial) ?r73
          case i73 => exact rfl
          case q73 => exact (fun _ _ _ h => h)
          case y73 =>
            refine Or.inl ⟨by rfl, ?_⟩
            intro w hSw
            go_simp
            first | done | rfl
          try simp only [Act.put, List.getElem_toArray, List.getElem_cons_zero, List.getElem_cons_succ, List.setIfInBounds_toArray, List.set_cons_zero, List.set_cons_succ]
          refine wpAnyH_take (i := 34) (oi := ?o74) (v := ?v74) ?i74 (by kernel_rfl) (by kernel_rfl) (by kernel_rfl) ?q74 ?y74 (trivial) ?r74
          case i74 => exact rfl
          case q74 => exact (fun _ _ _ h => h)
          case y74 =>
            refine Or.inl ⟨by rfl, ?_⟩
            intro w hSw
            go_simp
            first | done | rfl
          try simp only [Act.put, List.getElem_toArray, List.getElem_cons_zero, List.getElem_cons_succ, List.setIfInBounds_toArray, List.set_cons_zero, List.set_cons_succ]
          refine wpAnyH_take (i := 35) (oi := ?o75) (v := ?v75) ?i75 (by kernel_rfl) (by kernel_rfl) (by kernel_rfl) ?q75 ?y75 (trivial) ?r75
          case i75 => exact rfl
          case q75 => exact (fun _ _ _ h => h)
          case y75 =>
            refine Or.inl ⟨by rfl, ?_⟩
            intro w hSw
            go_simp
            first | done | rfl
          try simp only [Act.put, List.getElem_toArray, List.getElem_cons_zero, List.getElem_cons_succ, List.setIfInBounds_toArray, List.set_cons_zero, List.set_cons_succ]
          refine wpAnyH_take (i := 36) (oi := ?o76) (v := ?v76) ?i76 (by kernel_rfl) (by kernel_rfl) (by kernel_rfl) ?q76 ?y76 (trivial) ?r76
          case i76 => exact rfl
          case q76 => exact (fun _ _ _ h => h)
          case y76 =>
            refine Or.inl ⟨by rfl, ?_⟩
            intro w hSw
            go_simp
            first | done | rfl
          try simp only [Act.put, List.getElem_toArray, List.getElem_cons_zero, List.getElem_cons_succ, List.setIfInBounds_toArray, List.set_cons_zero, List.set_cons_succ]
          refine wpAnyH_take (i := 37) (oi := ?o77) (v := ?v77) ?i77 (by kernel_rfl) (by kernel_rfl) (by kernel_rfl) ?q77 ?y77 (trivial) ?r77
          case i77 => exact rfl
          case q77 => exact (fun _ _ _ h => h)
          case y77 =>
            refine Or.inl ⟨by rfl, ?_⟩
            intro w hSw
            go_simp
            first | done | rfl
          try simp only [Act.put, List.getElem_toArray, List.getElem_cons_zero, List.getElem_cons_succ, List.setIfInBounds_toArray, List.set_cons_zero, List.set_cons_succ]
          refine wpAnyH_take (i := 38) (oi := ?o78) (v := ?v78) ?i78 (by kernel_rfl) (by kernel_rfl) (by kernel_rfl) ?q78 ?y78 (trivial) ?r78
          case i78 => exact rfl
          case q78 => exact (fun _ _ _ h => h)
          case y78 =>
            refine Or.inl ⟨by rfl, ?_⟩
            intro w hSw
            go_simp
            first | done | rfl
          try simp only [Act.put, List.getElem_toArray, List.getElem_cons_zero, List.getElem_cons_succ, List.setIfInBounds_toArray, List.set_cons_zero, List.set_cons_succ]
          refine wpAnyH_done (by kernel_rfl) ?_ _
          go_wp2_with fail
          go_ret
          exact ⟨rfl, HBP.out⟩
      ·
        by_cases hneg : st < 0
        · have dneg : decide (st < 0) = true := by simpa using hneg
          clear HPG rA
          go_wp2_with fail
          go_quiet ((first | (go_at_call 12; exact Calls.quiet_of_same (hww.out _)) | (go_at_call_of 13 (Value.slice aT nT cT); exact Calls.quiet_of_same (hsT.out _ HRT.out)) | (go_at_call_of 13 (Value.slice aU nU cU); exact Calls.quiet_of_same (hsU.out _ HRU.out))))
          go_wp2
          go_ret
          exact ⟨rfl, below_drewN hB9 _⟩
        · obtain ⟨p1, p2, p3, p4, p5, p6⟩ := HPG.out (by omega)
          obtain ⟨f, rfl⟩ := Int.eq_ofNat_of_zero_le p1
          obtain ⟨s, rfl⟩ := Int.eq_ofNat_of_zero_le (show 0 ≤ st by omega)
          have hlA := rA.1
          rw [hlA] at p2 p5
          rw [Int.toNat_natCast, Int.toNat_natCast] at p3
          obtain ⟨b, off, haA, _⟩ := rA.2.2 (by omega)
          subst haA
          obtain ⟨pk, hpk⟩ : ∃ x, x = putL k := ⟨_, rfl⟩
          have hpkl := putL_len k
          rw [← hpk] at p3 hpkl
          have hput : Hid (∀ wx : World, BRow wx (some ⟨b, off, none⟩) nA lA → Calls Try.prog 5 #[.slice (some ⟨b, off, none⟩) f cA, .int .i64 k] wx fun e w' => ∃ aP cP, e = .returned (.slice aP (f + pk.length) cP) ∧ BRow w' aP (f + pk.length) (lA.take f ++ pk) ∧ Below wx.heap.size wx w') := by
            intro wx hx
            refine (implPutM _ f cA (lA.take f) k wx (hx.head (by omega)) (by omega)).mono ?_
            rw [← hpk]
            rintro e w' ⟨aP, cP, rfl, mP⟩
            exact ⟨aP, cP, rfl, mP.row, mP.below⟩
          have hsm2 : Hid (∀ (wx : World) (aP : Option Addr) (cP : Nat), BRow wx aP (f + pk.length) (lA.take f ++ pk) → BRow wx (some ⟨b, off, none⟩) nA lA → Calls Try.prog 10 #[.slice aP (f + pk.length) cP, .slice (some ⟨b, off, none⟩) s cA] wx fun e w' => e = .returned (.bool true) ∧ wx = w') := by
            intro wx aP cP h1 h2
            refine (sameM _ _ _ _ _ _ _ (lA.take s) wx h1 (h2.head (by omega))).mono ?_
            rintro e w' ⟨rfl, rfl⟩
            exact ⟨by rw [decide_eq_true p3], rfl⟩
          have hwwR : Hid (∀ wx : World, Calls Try.prog 12 #[.int .i64 W] wx fun e w' => e = .returned (.int .i64 W) ∧ wx = w') := fun wx => (hww.out wx).mono (fun e w' h => ⟨h.1, h.2.symm⟩)
          have hsTR : Hid (∀ wx : World, BRow wx aT nT lT → Calls Try.prog 13 #[.slice aT nT cT] wx fun e w' => e = .returned (.int .i64 S1) ∧ wx = w') := fun wx hx => (hsT.out wx hx).mono (fun e w' h => ⟨h.1, h.2.symm⟩)
          have hsUR : Hid (∀ wx : World, BRow wx aU nU lU → Calls Try.prog 13 #[.slice aU nU cU] wx fun e w' => e = .returned (.int .i64 S2) ∧ wx = w') := fun wx hx => (hsU.out wx hx).mono (fun e w' h => ⟨h.1, h.2.symm⟩)
          have HRA : Hid (BRow w9' (some ⟨b, off, none⟩) nA lA) := rA
          have hfc : f ≤ cA := by omega
          have hsc : s ≤ cA := by omega
          have hs0 : ¬ (s : Int) < 0 := by omega
          clear hww hsT hsU HPG rA p3 hpk hpkl hneg hlA
          go_wp2_with fail
          have HRAd : Hid (BRow w9'.drew (some ⟨b, off, none⟩) nA lA) := HRA.out
          have HRTd : Hid (BRow w9'.drew aT nT lT) := HRT.out
          have HRUd : Hid (BRow w9'.drew aU nU lU) := HRU.out
          refine wp_region_held_drew (S := fun _ => True) (by kernel_rfl) trivial (fun hHeld => ?_)
          refine wpAnyH_take (i := 0) (oi := ?o79) (v := ?v79) ?i79 (by kernel_rfl) (by kernel_rfl) (by kernel_rfl) ?q79 ?y79 (trivial) ?r79
          case i79 => exact rfl
          case q79 => exact (fun _ _ _ h => h)
          case y79 =>
            refine Or.inl ⟨by rfl, ?_⟩
            intro w hSw
            go_simp
            first | done | rfl
          try simp only [Act.put, List.getElem_toArray, List.getElem_cons_zero, List.getElem_cons_succ, List.setIfInBounds_toArray, List.set_cons_zero, List.set_cons_succ]
          refine wpAnyH_take (i := 1) (oi := ?o80) (v := ?v80) ?i80 (by kernel_rfl) (by kernel_rfl) (by kernel_rfl) ?q80 ?y80 (trivial) ?r80
          case i80 => exact rfl
          case q80 => exact (fun _ _ _ h => h)
          case y80 =>
            refine Or.inl ⟨by rfl, ?_⟩
            intro w hSw
            go_simp
            first | done | rfl
          try simp only [Act.put, List.getElem_toArray, List.getElem_cons_zero, List.getElem_cons_succ, List.setIfInBounds_toArray, List.set_cons_zero, List.set_cons_succ]
          refine wpAnyH_take (i := 2) (oi := ?o81) (v := ?v81) ?i81 (by kernel_rfl) (by kernel_rfl) (by kernel_rfl) ?q81 ?y81 (trivial) ?r81
          case i81 => exact rfl
          case q81 => exact (fun _ _ _ h => h)
          case y81 =>
            refine Or.inl ⟨by rfl, ?_⟩
            intro w hSw
            go_simp
            first | done | rfl
          try simp only [Act.put, List.getElem_toArray, List.getElem_cons_zero, List.getElem_cons_succ, List.setIfInBounds_toArray, List.set_cons_zero, List.set_cons_succ]
          refine wpAnyH_take (i := 3) (oi := ?o82) (v := ?v82) ?i82 (by kernel_rfl) (by kernel_rfl) (by kernel_rfl) ?q82 ?y82 (trivial) ?r82
          case i82 => exact rfl
          case q82 => exact (fun _ _ _ h => h)
          case y82 =>
            refine Or.inl ⟨by rfl, ?_⟩
            intro w hSw
            go_simp
            first | done | rfl
          try simp only [Act.put, List.getElem_toArray, List.getElem_cons_zero, List.getElem_cons_succ, List.setIfInBounds_toArray, List.set_cons_zero, List.set_cons_succ]
          refine wpAnyH_take (i := 4) (oi := ?o83) (v := ?v83) ?i83 (by kernel_rfl) (by kernel_rfl) (by kernel_rfl) ?q83 ?y83 (trivial) ?r83
          case i83 => exact rfl
          case q83 => exact (fun _ _ _ h => h)
          case y83 =>
            refine Or.inl ⟨by rfl, ?_⟩
            intro w hSw
            go_simp
            first | done | rfl
          try simp only [Act.put, List.getElem_toArray, List.getElem_cons_zero, List.getElem_cons_succ, List.setIfInBounds_toArray, List.set_cons_zero, List.set_cons_succ]
          refine wpAnyH_take (i := 5) (oi := ?o84) (v := ?v84) ?i84 (by kernel_rfl) (by kernel_rfl) (by kernel_rfl) ?q84 ?y84 (trivial) ?r84
          case i84 => exact rfl
          case q84 => exact (fun _ _ _ h => h)
          case y84 =>
            refine Or.inl ⟨by rfl, ?_⟩
            intro w hSw
            go_simp
            first | done | rfl
          try simp only [Act.put, List.getElem_toArray, List.getElem_cons_zero, List.getElem_cons_succ, List.setIfInBounds_toArray, List.set_cons_zero, List.set_cons_succ]
          refine wpAnyH_take (i := 6) (oi := ?o85) (v := ?v85) ?i85 (by kernel_rfl) (by kernel_rfl) (by kernel_rfl) ?q85 ?y85 (trivial) ?r85
          case i85 => exact rfl
          case q85 => exact (fun _ _ _ h => h)
          case y85 =>
            refine Or.inl ⟨by rfl, ?_⟩
            intro w hSw
            go_simp
            first | done | rfl
          try simp only [Act.put, List.getElem_toArray, List.getElem_cons_zero, List.getElem_cons_succ, List.setIfInBounds_toArray, List.set_cons_zero, List.set_cons_succ]
          refine wpAnyH_take (i := 8) (oi := ?o86) (v := ?v86) ?i86 (by kernel_rfl) (by kernel_rfl) (by kernel_rfl) ?q86 ?y86 (trivial) ?r86
          case i86 => exact rfl
          case q86 => exact (fun _ _ _ h => h)
          case y86 =>
            refine Or.inl ⟨by rfl, ?_⟩
            intro w hSw
            go_simp
            first | done | rfl
          try simp only [Act.put, List.getElem_toArray, List.getElem_cons_zero, List.getElem_cons_succ, List.setIfInBounds_toArray, List.set_cons_zero, List.set_cons_succ]
          refine wpAnyH_take (i := 9) (oi := ?o87) (v := ?v87) ?i87 (by kernel_rfl) (by kernel_rfl) (by kernel_rfl) ?q87 ?y87 (trivial) ?r87
          case i87 => exact rfl
          case q87 => exact (fun _ _ _ h => h)
          case y87 =>
            refine Or.inl ⟨by rfl, ?_⟩
            intro w hSw
            go_simp
            first | done | rfl
          try simp only [Act.put, List.getElem_toArray, List.getElem_cons_zero, List.getElem_cons_succ, List.setIfInBounds_toArray, List.set_cons_zero, List.set_cons_succ]
          refine wpAnyH_take (i := 10) (oi := ?o88) (v := ?v88) ?i88 (by kernel_rfl) (by kernel_rfl) (by kernel_rfl) ?q88 ?y88 (trivial) ?r88
          case i88 => exact rfl
          case q88 => exact (fun _ _ _ h => h)
          case y88 =>
            refine Or.inl ⟨by rfl, ?_⟩
            intro w hSw
            go_simp
            first | done | rfl
          try simp only [Act.put, List.getElem_toArray, List.getElem_cons_zero, List.getElem_cons_succ, List.setIfInBounds_toArray, List.set_cons_zero, List.set_cons_succ]
          refine wpAnyH_ready (rs := [7]) (by kernel_rfl) (by simp) ?_
          refine AllReadyH.cons (i := 7) (o := ?o89) ?i89 (fun K hK => ?_) AllReadyH.nil
          case i89 => exact rfl
          go_simp
          (with_reducible refine (hput.out _ HRAd.out).mono ?_)
          rintro e wP ⟨aP, cP, rfl, rP, bP⟩
          have rTP : Hid (BRow wP aT nT lT) := BRow.below (w := w9'.drew) HRTd.out bP
          have rUP : Hid (BRow wP aU nU lU) := BRow.below (w := w9'.drew) HRUd.out bP
          have rAP : Hid (BRow wP (some ⟨b, off, none⟩) nA lA) := BRow.below (w := w9'.drew) HRAd.out bP
          have HRP : Hid (BRow wP aP (f + pk.length) (lA.take f ++ pk)) := rP
          have HBP : Hid (Below w.heap.size w wP) := hB9.drew.trans (bP.mono hB9.size)
          clear rP bP
          go_wp2_with fail
          refine hK.out _ _ (trivial) (fun hHeld => ?_)
          clear hK K
          try simp only [Act.put, List.getElem_toArray, List.getElem_cons_zero, List.getElem_cons_succ, List.setIfInBounds_toArray, List.set_cons_zero, List.set_cons_succ]
          refine wpAnyH_ready (rs := [11]) (by kernel_rfl) (by simp) ?_
          refine AllReadyH.cons (i := 11) (o := ?o90) ?i90 (fun K hK => ?_) AllReadyH.nil
          case i90 => exact rfl
          go_simp
          (with_reducible refine (hsm2.out _ _ _ HRP.out rAP.out).mono ?_)
          rintro e wq ⟨rfl, rfl⟩
          go_wp2_with fail
          refine hK.out _ _ (trivial) (fun hHeld => ?_)
          clear hK K
          try simp only [Act.put, List.getElem_toArray, List.getElem_cons_zero, List.getElem_cons_succ, List.setIfInBounds_toArray, List.set_cons_zero, List.set_cons_succ]
          refine wpAnyH_take (i := 12) (oi := ?o91) (v := ?v91) ?i91 (by kernel_rfl) (by kernel_rfl) (by kernel_rfl) ?q91 ?y91 (trivial) ?r91
          case i91 => exact rfl
          case q91 => exact (fun _ _ _ h => h)
          case y91 =>
            refine Or.inl ⟨by rfl, ?_⟩
            intro w hSw
            go_simp
            first | done | rfl
          try simp only [Act.put, List.getElem_toArray, List.getElem_cons_zero, List.getElem_cons_succ, List.setIfInBounds_toArray, List.set_cons_zero, List.set_cons_succ]
          refine wpAnyH_take (i := 13) (oi := ?o92) (v := ?v92) ?i92 (by kernel_rfl) (by kernel_rfl) (by kernel_rfl) ?q92 ?y92 (trivial) ?r92
          case i92 => exact rfl
          case q92 => exact (fun _ _ _ h => h)
          case y92 =>
            refine Or.inl ⟨by rfl, ?_⟩
            intro w hSw
            go_simp
            first | done | rfl
          try simp only [Act.put, List.getElem_toArray, List.getElem_cons_zero, List.getElem_cons_succ, List.setIfInBounds_toArray, List.set_cons_zero, List.set_cons_succ]
          refine wpAnyH_take (i := 14) (oi := ?o93) (v := ?v93) ?i93 (by kernel_rfl) (by kernel_rfl) (by kernel_rfl) ?q93 ?y93 (trivial) ?r93
          case i93 => exact rfl
          case q93 => exact (fun _ _ _ h => h)
          case y93 =>
            refine Or.inl ⟨by rfl, ?_⟩
            intro w hSw
            go_simp
            first | done | rfl
          try simp only [Act.put, List.getElem_toArray, List.getElem_cons_zero, List.getElem_cons_succ, List.setIfInBounds_toArray, List.set_cons_zero, List.set_cons_succ]
          refine wpAnyH_take (i := 16) (oi := ?o94) (v := ?v94) ?i94 (by kernel_rfl) (by kernel_rfl) (by kernel_rfl) ?q94 ?y94 (trivial) ?r94
          case i94 => exact rfl
          case q94 => exact (fun _ _ _ h => h)
          case y94 =>
            refine Or.inl ⟨by rfl, ?_⟩
            intro w hSw
            go_simp
            first | done | rfl
          try simp only [Act.put, List.getElem_toArray, List.getElem_cons_zero, List.getElem_cons_succ, List.setIfInBounds_toArray, List.set_cons_zero, List.set_cons_succ]
          refine wpAnyH_ready (rs := [15]) (by kernel_rfl) (by simp) ?_
          refine AllReadyH.cons (i := 15) (o := ?o95) ?i95 (fun K hK => ?_) AllReadyH.nil
          case i95 => exact rfl
          go_simp
          (with_reducible refine (hwwR.out _).mono ?_)
          rintro e wq ⟨rfl, rfl⟩
          go_wp2_with fail
          refine hK.out _ _ (trivial) (fun hHeld => ?_)
          clear hK K
          try simp only [Act.put, List.getElem_toArray, List.getElem_cons_zero, List.getElem_cons_succ, List.setIfInBounds_toArray, List.set_cons_zero, List.set_cons_succ]
          refine wpAnyH_take (i := 17) (oi := ?o96) (v := ?v96) ?i96 (by kernel_rfl) (by kernel_rfl) (by kernel_rfl) ?q96 ?y96 (trivial) ?r96
          case i96 => exact rfl
          case q96 => exact (fun _ _ _ h => h)
          case y96 =>
            refine Or.inl ⟨by rfl, ?_⟩
            intro w hSw
            go_simp
            first | done | rfl
          try simp only [Act.put, List.getElem_toArray, List.getElem_cons_zero, List.getElem_cons_succ, List.setIfInBounds_toArray, List.set_cons_zero, List.set_cons_succ]
          refine wpAnyH_take (i := 18) (oi := ?o97) (v := ?v97) ?i97 (by kernel_rfl) (by kernel_rfl) (by kernel_rfl) ?q97 ?y97 (trivial) ?r97
          case i97 => exact rfl
          case q97 => exact (fun _ _ _ h => h)
          case y97 =>
            refine Or.inl ⟨by rfl, ?_⟩
            intro w hSw
            go_simp
            first | done | rfl
          try simp only [Act.put, List.getElem_toArray, List.getElem_cons_zero, List.getElem_cons_succ, List.setIfInBounds_toArray, List.set_cons_zero, List.set_cons_succ]
          refine wpAnyH_take (i := 19) (oi := ?o98) (v := ?v98) ?i98 (by kernel_rfl) (by kernel_rfl) (by kernel_rfl) ?q98 ?y98 (trivial) ?r98
          case i98 => exact rfl
          case q98 => exact (fun _ _ _ h => h)
          case y98 =>
            refine Or.inl ⟨by rfl, ?_⟩
            intro w hSw
            go_simp
            first | done | rfl
          try simp only [Act.put, List.getElem_toArray, List.getElem_cons_zero, List.getElem_cons_succ, List.setIfInBounds_toArray, List.set_cons_zero, List.set_cons_succ]
          refine wpAnyH_take (i := 20) (oi := ?o99) (v := ?v99) ?i99 (by kernel_rfl) (by kernel_rfl) (by kernel_rfl) ?q99 ?y99 (trivial) ?r99
          case i99 => exact rfl
          case q99 => exact (fun _ _ _ h => h)
          case y99 =>
            refine Or.inl ⟨by rfl, ?_⟩
            intro w hSw
            go_simp
            first | done | rfl
          try simp only [Act.put, List.getElem_toArray, List.getElem_cons_zero, List.getElem_cons_succ, List.setIfInBounds_toArray, List.set_cons_zero, List.set_cons_succ]
          refine wpAnyH_take (i := 21) (oi := ?o100) (v := ?v100) ?i100 (by kernel_rfl) (by kernel_rfl) (by kernel_rfl) ?q100 ?y100 (trivial) ?r100
          case i100 => exact rfl
          case q100 => exact (fun _ _ _ h => h)
          case y100 =>
            refine Or.inl ⟨by rfl, ?_⟩
            intro w hSw
            go_simp
            first | done | rfl
          try simp only [Act.put, List.getElem_toArray, List.getElem_cons_zero, List.getElem_cons_succ, List.setIfInBounds_toArray, List.set_cons_zero, List.set_cons_succ]
          refine wpAnyH_take (i := 22) (oi := ?o101) (v := ?v101) ?i101 (by kernel_rfl) (by kernel_rfl) (by kernel_rfl) ?q101 ?y101 (trivial) ?r101
          case i101 => exact rfl
          case q101 => exact (fun _ _ _ h => h)
          case y101 =>
            refine Or.inl ⟨by rfl, ?_⟩
            intro w hSw
            go_simp
            first | done | rfl
          try simp only [Act.put, List.getElem_toArray, List.getElem_cons_zero, List.getElem_cons_succ, List.setIfInBounds_toArray, List.set_cons_zero, List.set_cons_succ]
          refine wpAnyH_take (i := 23) (oi := ?o102) (v := ?v102) ?i102 (by kernel_rfl) (by kernel_rfl) (by kernel_rfl) ?q102 ?y102 (trivial) ?r102
          case i102 => exact rfl
          case q102 => exact (fun _ _ _ h => h)
          case y102 =>
            refine Or.inl ⟨by rfl, ?_⟩
            intro w hSw
            go_simp
            first | done | rfl
          try simp only [Act.put, List.getElem_toArray, List.getElem_cons_zero, List.getElem_cons_succ, List.setIfInBounds_toArray, List.set_cons_zero, List.set_cons_succ]
          refine wpAnyH_take (i := 24) (oi := ?o103) (v := ?v103) ?i103 (by kernel_rfl) (by kernel_rfl) (by kernel_rfl) ?q103 ?y103 (trivial) ?r103
          case i103 => exact rfl
          case q103 => exact (fun _ _ _ h => h)
          case y103 =>
            refine Or.inl ⟨by rfl, ?_⟩
            intro w hSw
            go_simp
            first | done | rfl
          try simp only [Act.put, List.getElem_toArray, List.getElem_cons_zero, List.getElem_cons_succ, List.setIfInBounds_toArray, List.set_cons_zero, List.set_cons_succ]
          refine wpAnyH_take (i := 25) (oi := ?o104) (v := ?v104) ?i104 (by kernel_rfl) (by kernel_rfl) (by kernel_rfl) ?q104 ?y104 (trivial) ?r104
          case i104 => exact rfl
          case q104 => exact (fun _ _ _ h => h)
          case y104 =>
            refine Or.inl ⟨by rfl, ?_⟩
            intro w hSw
            go_simp
            first | done | rfl
          try simp only [Act.put, List.getElem_toArray, List.getElem_cons_zero, List.getElem_cons_succ, List.setIfInBounds_toArray, List.set_cons_zero, List.set_cons_succ]
          refine wpAnyH_take (i := 26) (oi := ?o105) (v := ?v105) ?i105 (by kernel_rfl) (by kernel_rfl) (by kernel_rfl) ?q105 ?y105 (trivial) ?r105
          case i105 => exact rfl
          case q105 => exact (fun _ _ _ h => h)
          case y105 =>
            refine Or.inl ⟨by rfl, ?_⟩
            intro w hSw
            go_simp
            first | done | rfl
          try simp only [Act.put, List.getElem_toArray, List.getElem_cons_zero, List.getElem_cons_succ, List.setIfInBounds_toArray, List.set_cons_zero, List.set_cons_succ]
          refine wpAnyH_take (i := 27) (oi := ?o106) (v := ?v106) ?i106 (by kernel_rfl) (by kernel_rfl) (by kernel_rfl) ?q106 ?y106 (trivial) ?r106
          case i106 => exact rfl
          case q106 => exact (fun _ _ _ h => h)
          case y106 =>
            refine Or.inl ⟨by rfl, ?_⟩
            intro w hSw
            go_simp
            first | done | rfl
          try simp only [Act.put, List.getElem_toArray, List.getElem_cons_zero, List.getElem_cons_succ, List.setIfInBounds_toArray, List.set_cons_zero, List.set_cons_succ]
          refine wpAnyH_take (i := 29) (oi := ?o107) (v := ?v107) ?i107 (by kernel_rfl) (by kernel_rfl) (by kernel_rfl) ?q107 ?y107 (trivial) ?r107
          case i107 => exact rfl
          case q107 => exact (fun _ _ _ h => h)
          case y107 =>
            refine Or.inl ⟨by rfl, ?_⟩
            intro w hSw
            go_simp
            first | done | rfl
          try simp only [Act.put, List.getElem_toArray, List.getElem_cons_zero, List.getElem_cons_succ, List.setIfInBounds_toArray, List.set_cons_zero, List.set_cons_succ]
          refine wpAnyH_ready (rs := [28]) (by kernel_rfl) (by simp) ?_
          refine AllReadyH.cons (i := 28) (o := ?o108) ?i108 (fun K hK => ?_) AllReadyH.nil
          case i108 => exact rfl
          go_simp
          (with_reducible refine (hsTR.out _ rTP.out).mono ?_)
          rintro e wq ⟨rfl, rfl⟩
          go_wp2_with fail
          refine hK.out _ _ (trivial) (fun hHeld => ?_)
          clear hK K
          try simp only [Act.put, List.getElem_toArray, List.getElem_cons_zero, List.getElem_cons_succ, List.setIfInBounds_toArray, List.set_cons_zero, List.set_cons_succ]
          refine wpAnyH_ready (rs := [30]) (by kernel_rfl) (by simp) ?_
          refine AllReadyH.cons (i := 30) (o := ?o109) ?i109 (fun K hK => ?_) AllReadyH.nil
          case i109 => exact rfl
          go_simp
          (with_reducible refine (hsUR.out _ rUP.out).mono ?_)
          rintro e wq ⟨rfl, rfl⟩
          go_wp2_with fail
          refine hK.out _ _ (trivial) (fun hHeld => ?_)
          clear hK K
          try simp only [Act.put, List.getElem_toArray, List.getElem_cons_zero, List.getElem_cons_succ, List.setIfInBounds_toArray, List.set_cons_zero, List.set_cons_succ]
          refine wpAnyH_take (i := 31) (oi := ?o110) (v := ?v110) ?i110 (by kernel_rfl) (by kernel_rfl) (by kernel_rfl) ?q110 ?y110 (trivial) ?r110
          case i110 => exact rfl
          case q110 => exact (fun _ _ _ h => h)
          case y110 =>
            refine Or.inl ⟨by rfl, ?_⟩
            intro w hSw
            go_simp
            first | done | rfl
          try simp only [Act.put, List.getElem_toArray, List.getElem_cons_zero, List.getElem_cons_succ, List.setIfInBounds_toArray, List.set_cons_zero, List.set_cons_succ]
          refine wpAnyH_take (i := 32) (oi := ?o111) (v := ?v111) ?i111 (by kernel_rfl) (by kernel_rfl) (by kernel_rfl) ?q111 ?y111 (trivial) ?r111
          case i111 => exact rfl
          case q111 => exact (fun _ _ _ h => h)
          case y111 =>
            refine Or.inl ⟨by rfl, ?_⟩
            intro w hSw
            go_simp
            first | done | rfl
          try simp only [Act.put, List.getElem_toArray, List.getElem_cons_zero, List.getElem_cons_succ, List.setIfInBounds_toArray, List.set_cons_zero, List.set_cons_succ]
          refine wpAnyH_take (i := 33) (oi := ?o112) (v := ?v112) ?i112 (by kernel_rfl) (by kernel_rfl) (by kernel_rfl) ?q112 ?y112 (trivial) ?r112
          case i112 => exact rfl
          case q112 => exact (fun _ _ _ h => h)
          case y112 =>
            refine Or.inl ⟨by rfl, ?_⟩
            intro w hSw
            go_simp
            first | done | rfl
          try simp only [Act.put, List.getElem_toArray, List.getElem_cons_zero, List.getElem_cons_succ, List.setIfInBounds_toArray, List.set_cons_zero, List.set_cons_succ]
          refine wpAnyH_take (i := 34) (oi := ?o113) (v := undef) ?i113 (by kernel_rfl) (by kernel_rfl) (by kernel_rfl) ?q113 ?y113 (trivial) ?r113
          case i113 => exact rfl
          case q113 => exact (fun _ _ _ h => h)
          case y113 => exact Or.inr ⟨by rfl, rfl⟩
          try simp only [Act.put, List.getElem_toArray, List.getElem_cons_zero, List.getElem_cons_succ, List.setIfInBounds_toArray, List.set_cons_zero, List.set_cons_succ]
          refine wpAnyH_take (i := 35) (oi := ?o114) (v := undef) ?i114 (by kernel_rfl) (by kernel_rfl) (by kernel_rfl) ?q114 ?y114 (trivial) ?r114
          case i114 => exact rfl
          case q114 => exact (fun _ _ _ h => h)
          case y114 => exact Or.inr ⟨by rfl, rfl⟩
          try simp only [Act.put, List.getElem_toArray, List.getElem_cons_zero, List.getElem_cons_succ, List.setIfInBounds_toArray, List.set_cons_zero, List.set_cons_succ]
          refine wpAnyH_take (i := 36) (oi := ?o115) (v := undef) ?i115 (by kernel_rfl) (by kernel_rfl) (by kernel_rfl) ?q115 ?y115 (trivial) ?r115
          case i115 => exact rfl
          case q115 => exact (fun _ _ _ h => h)
          case y115 => exact Or.inr ⟨by rfl, rfl⟩
          try simp only [Act.put, List.getElem_toArray, List.getElem_cons_zero, List.getElem_cons_succ, List.setIfInBounds_toArray, List.set_cons_zero, List.set_cons_succ]
          refine wpAnyH_take (i := 37) (oi := ?o116) (v := ?v116) ?i116 (by kernel_rfl) (by kernel_rfl) (by kernel_rfl) ?q116 ?y116 (trivial) ?r116
          case i116 => exact rfl
          case q116 => exact (fun _ _ _ h => h)
          case y116 =>
            refine Or.inl ⟨by rfl, ?_⟩
            intro w hSw
            go_simp
            first | done | rfl
          try simp only [Act.put, List.getElem_toArray, List.getElem_cons_zero, List.getElem_cons_succ, List.setIfInBounds_toArray, List.set_cons_zero, List.set_cons_succ]
          refine wpAnyH_take (i := 38) (oi := ?o117) (v := ?v117) ?i117 (by kernel_rfl) (by kernel_rfl) (by kernel_rfl) ?q117 ?y117 (trivial) ?r117
          case i117 => exact rfl
          case q117 => exact (fun _ _ _ h => h)
          case y117 =>
            refine Or.inl ⟨by rfl, ?_⟩
            intro w hSw
            go_simp
            first | done | rfl
          try simp only [Act.put, List.getElem_toArray, List.getElem_cons_zero, List.getElem_cons_succ, List.setIfInBounds_toArray, List.set_cons_zero, List.set_cons_succ]
          refine wpAnyH_done (by kernel_rfl) ?_ _
          go_wp2_with fail
          go_ret
          exact ⟨rfl, HBP.out⟩
  · clear HG HM HX
    go_wp2_with fail
    refine (drawPutTextM _ _ _ code _ (hr.below hB4) hlen).mono ?_
    rintro e w5 ⟨aC, nC, cC, lC, aT, nT, cT, lT, rfl, hnC, hnT, mC, mT⟩
    have hB5 : Below w.heap.size w w5 := hB4.trans (mC.below.mono hB4.size)
    have rC := mC.row
    have rT := mT.row
    have HLC : Hid _ := mC.row.1
    have HLT : Hid _ := mT.row.1
    clear mC mT hB4
    go_wp2_with fail
    refine (implTextM _ _ _ lC _ _ _ lT _ rC rT (by omega) (by omega)).mono ?_
    rintro e w6 ⟨aY, cY, rfl, mY⟩
    have hB6 : Below w.heap.size w w6 := hB5.trans (mY.below.mono hB5.size)
    replace rT := rT.below mY.below
    have rY := mY.row
    have kY := mY.cap
    have kY2 := mY.most
    have hle := textL_le lT
    clear mY hB5 rC
    obtain ⟨tx, htx⟩ : ∃ x, x = textL lT := ⟨_, rfl⟩
    rw [← htx] at rY kY hle ⊢
    have HTX : Hid _ := htx
    clear htx
    go_wp2_with fail
    refine (implTextGetM _ _ _ (lC ++ tx) (nC : Int) _ rY (by omega) kY kY2).mono ?_
    have hgt : nT ≤ 40 → getT (lC ++ tx) (nC : Int) = (lT, (nC : Int) + (tx.length : Int)) := by
      intro h40
      rw [HTX.out, ← HLC.out]
      exact getT_put lC lT (by rw [HLT.out]; exact h40)
    have HGT : Hid _ := hgt
    clear hgt
    obtain ⟨lU, hlU⟩ : ∃ x, x = (getT (lC ++ tx) (nC : Int)).1 := ⟨_, rfl⟩
    obtain ⟨en, hen⟩ : ∃ x, x = (getT (lC ++ tx) (nC : Int)).2 := ⟨_, rfl⟩
    rw [← hlU, ← hen]
    rintro e w7 ⟨aU, nU, cU, rfl, mU⟩
    have HLU : Hid _ := hlU
    have HEN : Hid _ := hen
    clear hlU hen
    have hB7 : Below w.heap.size w w7 := hB6.trans (mU.below.mono hB6.size)
    replace rT := rT.below mU.below
    have rU := mU.row
    have hnU : nU ≤ 40 := by
      have h1 := mU.row.1
      have h2 := getT_len (lC ++ tx) (nC : Int) rY.2.1
      rw [← HLU.out] at h2
      omega
    clear mU hB6 rY kY kY2
    by_cases h40 : nT ≤ 40
    · have e1 : lU = lT := by rw [HLU.out, HGT.out h40]
      have e2 : en = (nC : Int) + (tx.length : Int) := by rw [HEN.out, HGT.out h40]
      have t3 : (en != (nC : Int) + (tx.length : Int)) = false := by simp [e2]
      have hsame : decide (lU = lT) = true := by simp [e1]
      have HS : Hid _ := e1
      clear e1 e2 HGT HLU HEN
      go_wp2_with fail
      refine (sameM _ _ _ lU _ _ _ lT _ rU rT).mono ?_
      rintro e w7' ⟨rfl, rfl⟩
      rw [hsame]
      clear hsame
      go_wp2_with fail
      refine (drawGetNumM _ _ _ code _ (hr.below hB7) hlen).mono ?_
      rintro e w8 ⟨aA, nA, cA, lA, fr, rfl, hnA, hfr, mA⟩
      have hB8 : Below w.heap.size w w8 := hB7.trans (mA.below.mono hB7.size)
      replace rT := rT.below mA.below
      replace rU := rU.below mA.below
      have rA := mA.row
      have kA := mA.cap
      have kA2 := mA.most
      clear mA hB7
      go_wp2_with fail
      refine (implGetM _ _ _ lA fr _ rA (by omega) kA kA2).mono ?_
      have hpg := put_get lA fr rA.2.1
      obtain ⟨k, hk⟩ : ∃ x, x = (getL lA fr).1 := ⟨_, rfl⟩
      obtain ⟨st, hst⟩ : ∃ x, x = (getL lA fr).2 := ⟨_, rfl⟩
      rw [← hk, ← hst] at hpg ⊢
      rintro e w9 ⟨rfl, b9⟩
      have HPG : Hid _ := hpg
      clear hk hst hpg
      have hB9 : Below w.heap.size w w9 := hB8.trans (b9.mono hB8.size)
      replace rT := rT.below b9
      replace rU := rU.below b9
      replace rA := rA.below b9
      clear b9 hB8
      unfold maxLen at kA2
      go_wp2_with fail
      refine (wrapM n _).mono ?_
      rintro e w9' ⟨rfl, rfl⟩
      have hwb := w32_bd n
      have hwm1 := w32_mod1 n
      have hwm2 := w32_mod2 n hfn
      have hwm3 := w32_mod3 n hfn
      have hww : Hid (∀ wx : World, Calls Try.prog 12 #[.int .i64 (w32 n)] wx fun e w' => e = .returned (.int .i64 (w32 n)) ∧ w' = wx) := by
        intro wx
        refine (wrapM (w32 n) wx).mono ?_
        rintro e w' ⟨rfl, rfl⟩
        exact ⟨ret_int (w32_w32 n), rfl⟩
      generalize w32 n = W at *
      have hsT : Hid (∀ wx : World, BRow wx aT nT lT → Calls Try.prog 13 #[.slice aT nT cT] wx fun e w' => e = .returned (.int .i64 (sumTo lT nT)) ∧ w' = wx) := by
        intro wx hx
        refine (implSum aT nT cT lT wx hx (by omega)).mono ?_
        rintro e w' ⟨rfl, rfl⟩
        exact ⟨rfl, rfl⟩
      have hsU : Hid (∀ wx : World, BRow wx aU nU lU → Calls Try.prog 13 #[.slice aU nU cU] wx fun e w' => e = .returned (.int .i64 (sumTo lU nU)) ∧ w' = wx) := by
        intro wx hx
        refine (implSum aU nU cU lU wx hx (by omega)).mono ?_
        rintro e w' ⟨rfl, rfl⟩
        exact ⟨rfl, rfl⟩
      have HRT : Hid (BRow w9' aT nT lT) := rT
      have HRU : Hid (BRow w9' aU nU lU) := rU
      have hsum : sumTo lT nT = sumTo lU nU := by
        have h1 := rT.1
        have h2 := rU.1
        rw [HS.out] at h2
        rw [HS.out, ← h1, ← h2]
      generalize sumTo lT nT = S1 at *
      generalize sumTo lU nU = S2 at *
      have dsum : (S1 == S2) = true := by simpa using hsum
      clear hsum rT rU
      by_cases hneg : st < 0
      · have dneg : decide (st < 0) = true := by simpa using hneg
        clear HPG rA
        go_wp2_with fail
        go_quiet ((first | (go_at_call 12; exact Calls.quiet_of_same (hww.out _)) | (go_at_call_of 13 (Value.slice aT nT cT); exact Calls.quiet_of_same (hsT.out _ HRT.out)) | (go_at_call_of 13 (Value.slice aU nU cU); exact Calls.quiet_of_same (hsU.out _ HRU.out))))
        go_wp2
        go_ret
        exact ⟨rfl, below_drewN hB9 _⟩
      · obtain ⟨p1, p2, p3, p4, p5, p6⟩ := HPG.out (by omega)
        obtain ⟨f, rfl⟩ := Int.eq_ofNat_of_zero_le p1
        obtain ⟨s, rfl⟩ := Int.eq_ofNat_of_zero_le (show 0 ≤ st by omega)
        have hlA := rA.1
        rw [hlA] at p2 p5
        rw [Int.toNat_natCast, Int.toNat_natCast] at p3
        obtain ⟨b, off, haA, _⟩ := rA.2.2 (by omega)
        subst haA
        obtain ⟨pk, hpk⟩ : ∃ x, x = putL k := ⟨_, rfl⟩
        have hpkl := putL_len k
        rw [← hpk] at p3 hpkl
        have hput : Hid (∀ wx : World, BRow wx (some ⟨b, off, none⟩) nA lA → Calls Try.prog 5 #[.slice (some ⟨b, off, none⟩) f cA, .int .i64 k] wx fun e w' => ∃ aP cP, e = .returned (.slice aP (f + pk.length) cP) ∧ BRow w' aP (f + pk.length) (lA.take f ++ pk) ∧ Below wx.heap.size wx w') := by
          intro wx hx
          refine (implPutM _ f cA (lA.take f) k wx (hx.head (by omega)) (by omega)).mono ?_
          rw [← hpk]
          rintro e w' ⟨aP, cP, rfl, mP⟩
          exact ⟨aP, cP, rfl, mP.row, mP.below⟩
        have hsm2 : Hid (∀ (wx : World) (aP : Option Addr) (cP : Nat), BRow wx aP (f + pk.length) (lA.take f ++ pk) → BRow wx (some ⟨b, off, none⟩) nA lA → Calls Try.prog 10 #[.slice aP (f + pk.length) cP, .slice (some ⟨b, off, none⟩) s cA] wx fun e w' => e = .returned (.bool true) ∧ wx = w') := by
          intro wx aP cP h1 h2
          refine (sameM _ _ _ _ _ _ _ (lA.take s) wx h1 (h2.head (by omega))).mono ?_
          rintro e w' ⟨rfl, rfl⟩
          exact ⟨by rw [decide_eq_true p3], rfl⟩
        have hwwR : Hid (∀ wx : World, Calls Try.prog 12 #[.int .i64 W] wx fun e w' => e = .returned (.int .i64 W) ∧ wx = w') := fun wx => (hww.out wx).mono (fun e w' h => ⟨h.1, h.2.symm⟩)
        have hsTR : Hid (∀ wx : World, BRow wx aT nT lT → Calls Try.prog 13 #[.slice aT nT cT] wx fun e w' => e = .returned (.int .i64 S1) ∧ wx = w') := fun wx hx => (hsT.out wx hx).mono (fun e w' h => ⟨h.1, h.2.symm⟩)
        have hsUR : Hid (∀ wx : World, BRow wx aU nU lU → Calls Try.prog 13 #[.slice aU nU cU] wx fun e w' => e = .returned (.int .i64 S2) ∧ wx = w') := fun wx hx => (hsU.out wx hx).mono (fun e w' h => ⟨h.1, h.2.symm⟩)
        have HRA : Hid (BRow w9' (some ⟨b, off, none⟩) nA lA) := rA
        have hfc : f ≤ cA := by omega
        have hsc : s ≤ cA := by omega
        have hs0 : ¬ (s : Int) < 0 := by omega
        clear hww hsT hsU HPG rA p3 hpk hpkl hneg hlA
        go_wp2_with fail
        have HRAd : Hid (BRow w9'.drew (some ⟨b, off, none⟩) nA lA) := HRA.out
        have HRTd : Hid (BRow w9'.drew aT nT lT) := HRT.out
        have HRUd : Hid (BRow w9'.drew aU nU lU) := HRU.out
        refine wp_region_held_drew (S := fun _ => True) (by kernel_rfl) trivial (fun hHeld => ?_)
        refine wpAnyH_take (i := 0) (oi := ?o118) (v := ?v118) ?i118 (by kernel_rfl) (by kernel_rfl) (by kernel_rfl) ?q118 ?y118 (trivial) ?r118
        case i118 => exact rfl
        case q118 => exact (fun _ _ _ h => h)
        case y118 =>
          refine Or.inl ⟨by rfl, ?_⟩
          intro w hSw
          go_simp
          first | done | rfl
        try simp only [Act.put, List.getElem_toArray, List.getElem_cons_zero, List.getElem_cons_succ, List.setIfInBounds_toArray, List.set_cons_zero, List.set_cons_succ]
        refine wpAnyH_take (i := 1) (oi := ?o119) (v := ?v119) ?i119 (by kernel_rfl) (by kernel_rfl) (by kernel_rfl) ?q119 ?y119 (trivial) ?r119
        case i119 => exact rfl
        case q119 => exact (fun _ _ _ h => h)
        case y119 =>
          refine Or.inl ⟨by rfl, ?_⟩
          intro w hSw
          go_simp
          first | done | rfl
        try simp only [Act.put, List.getElem_toArray, List.getElem_cons_zero, List.getElem_cons_succ, List.setIfInBounds_toArray, List.set_cons_zero, List.set_cons_succ]
        refine wpAnyH_take (i := 2) (oi := ?o120) (v := ?v120) ?i120 (by kernel_rfl) (by kernel_rfl) (by kernel_rfl) ?q120 ?y120 (trivial) ?r120
        case i120 => exact rfl
        case q120 => exact (fun _ _ _ h => h)
        case y120 =>
          refine Or.inl ⟨by rfl, ?_⟩
          intro w hSw
          go_simp
          first | done | rfl
        try simp only [Act.put, List.getElem_toArray, List.getElem_cons_zero, List.getElem_cons_succ, List.setIfInBounds_toArray, List.set_cons_zero, List.set_cons_succ]
        refine wpAnyH_take (i := 3) (oi := ?o121) (v := ?v121) ?i121 (by kernel_rfl) (by kernel_rfl) (by kernel_rfl) ?q121 ?y121 (trivial) ?r121
        case i121 => exact rfl
        case q121 => exact (fun _ _ _ h => h)
        case y121 =>
          refine Or.inl ⟨by rfl, ?_⟩
          intro w hSw
          go_simp
          first | done | rfl
        try simp only [Act.put, List.getElem_toArray, List.getElem_cons_zero, List.getElem_cons_succ, List.setIfInBounds_toArray, List.set_cons_zero, List.set_cons_succ]
        refine wpAnyH_take (i := 4) (oi := ?o122) (v := ?v122) ?i122 (by kernel_rfl) (by kernel_rfl) (by kernel_rfl) ?q122 ?y122 (trivial) ?r122
        case i122 => exact rfl
        case q122 => exact (fun _ _ _ h => h)
        case y122 =>
          refine Or.inl ⟨by rfl, ?_⟩
          intro w hSw
          go_simp
          first | done | rfl
        try simp only [Act.put, List.getElem_toArray, List.getElem_cons_zero, List.getElem_cons_succ, List.setIfInBounds_toArray, List.set_cons_zero, List.set_cons_succ]
        refine wpAnyH_take (i := 5) (oi := ?o123) (v := ?v123) ?i123 (by kernel_rfl) (by kernel_rfl) (by kernel_rfl) ?q123 ?y123 (trivial) ?r123
        case i123 => exact rfl
        case q123 => exact (fun _ _ _ h => h)
        case y123 =>
          refine Or.inl ⟨by rfl, ?_⟩
          intro w hSw
          go_simp
          first | done | rfl
        try simp only [Act.put, List.getElem_toArray, List.getElem_cons_zero, List.getElem_cons_succ, List.setIfInBounds_toArray, List.set_cons_zero, List.set_cons_succ]
        refine wpAnyH_take (i := 6) (oi := ?o124) (v := ?v124) ?i124 (by kernel_rfl) (by kernel_rfl) (by kernel_rfl) ?q124 ?y124 (trivial) ?r124
        case i124 => exact rfl
        case q124 => exact (fun _ _ _ h => h)
        case y124 =>
          refine Or.inl ⟨by rfl, ?_⟩
          intro w hSw
          go_simp
          first | done | rfl
        try simp only [Act.put, List.getElem_toArray, List.getElem_cons_zero, List.getElem_cons_succ, List.setIfInBounds_toArray, List.set_cons_zero, List.set_cons_succ]
        refine wpAnyH_take (i := 8) (oi := ?o125) (v := ?v125) ?i125 (by kernel_rfl) (by kernel_rfl) (by kernel_rfl) ?q125 ?y125 (trivial) ?r125
        case i125 => exact rfl
        case q125 => exact (fun _ _ _ h => h)
        case y125 =>
          refine Or.inl ⟨by rfl, ?_⟩
          intro w hSw
          go_simp
          first | done | rfl
        try simp only [Act.put, List.getElem_toArray, List.getElem_cons_zero, List.getElem_cons_succ, List.setIfInBounds_toArray, List.set_cons_zero, List.set_cons_succ]
        refine wpAnyH_take (i := 9) (oi := ?o126) (v := ?v126) ?i126 (by kernel_rfl) (by kernel_rfl) (by kernel_rfl) ?q126 ?y126 (trivial) ?r126
        case i126 => exact rfl
        case q126 => exact (fun _ _ _ h => h)
        case y126 =>
          refine Or.inl ⟨by rfl, ?_⟩
          intro w hSw
          go_simp
          first | done | rfl
        try simp only [Act.put, List.getElem_toArray, List.getElem_cons_zero, List.getElem_cons_succ, List.setIfInBounds_toArray, List.set_cons_zero, List.set_cons_succ]
        refine wpAnyH_take (i := 10) (oi := ?o127) (v := ?v127) ?i127 (by kernel_rfl) (by kernel_rfl) (by kernel_rfl) ?q127 ?y127 (trivial) ?r127
        case i127 => exact rfl
        case q127 => exact (fun _ _ _ h => h)
        case y127 =>
          refine Or.inl ⟨by rfl, ?_⟩
          intro w hSw
          go_simp
          first | done | rfl
        try simp only [Act.put, List.getElem_toArray, List.getElem_cons_zero, List.getElem_cons_succ, List.setIfInBounds_toArray, List.set_cons_zero, List.set_cons_succ]
        refine wpAnyH_ready (rs := [7]) (by kernel_rfl) (by simp) ?_
        refine AllReadyH.cons (i := 7) (o := ?o128) ?i128 (fun K hK => ?_) AllReadyH.nil
        case i128 => exact rfl
        go_simp
        (with_reducible refine (hput.out _ HRAd.out).mono ?_)
        rintro e wP ⟨aP, cP, rfl, rP, bP⟩
        have rTP : Hid (BRow wP aT nT lT) := BRow.below (w := w9'.drew) HRTd.out bP
        have rUP : Hid (BRow wP aU nU lU) := BRow.below (w := w9'.drew) HRUd.out bP
        have rAP : Hid (BRow wP (some ⟨b, off, none⟩) nA lA) := BRow.below (w := w9'.drew) HRAd.out bP
        have HRP : Hid (BRow wP aP (f + pk.length) (lA.take f ++ pk)) := rP
        have HBP : Hid (Below w.heap.size w wP) := hB9.drew.trans (bP.mono hB9.size)
        clear rP bP
        go_wp2_with fail
        refine hK.out _ _ (trivial) (fun hHeld => ?_)
        clear hK K
        try simp only [Act.put, List.getElem_toArray, List.getElem_cons_zero, List.getElem_cons_succ, List.setIfInBounds_toArray, List.set_cons_zero, List.set_cons_succ]
        refine wpAnyH_ready (rs := [11]) (by kernel_rfl) (by simp) ?_
        refine AllReadyH.cons (i := 11) (o := ?o129) ?i129 (fun K hK => ?_) AllReadyH.nil
        case i129 => exact rfl
        go_simp
        (with_reducible refine (hsm2.out _ _ _ HRP.out rAP.out).mono ?_)
        rintro e wq ⟨rfl, rfl⟩
        go_wp2_with fail
        refine hK.out _ _ (trivial) (fun hHeld => ?_)
        clear hK K
        try simp only [Act.put, List.getElem_toArray, List.getElem_cons_zero, List.getElem_cons_succ, List.setIfInBounds_toArray, List.set_cons_zero, List.set_cons_succ]
        refine wpAnyH_take (i := 12) (oi := ?o130) (v := ?v130) ?i130 (by kernel_rfl) (by kernel_rfl) (by kernel_rfl) ?q130 ?y130 (trivial) ?r130
        case i130 => exact rfl
        case q130 => exact (fun _ _ _ h => h)
        case y130 =>
          refine Or.inl ⟨by rfl, ?_⟩
          intro w hSw
          go_simp
          first | done | rfl
        try simp only [Act.put, List.getElem_toArray, List.getElem_cons_zero, List.getElem_cons_succ, List.setIfInBounds_toArray, List.set_cons_zero, List.set_cons_succ]
        refine wpAnyH_take (i := 13) (oi := ?o131) (v := ?v131) ?i131 (by kernel_rfl) (by kernel_rfl) (by kernel_rfl) ?q131 ?y131 (trivial) ?r131
        case i131 => exact rfl
        case q131 => exact (fun _ _ _ h => h)
        case y131 =>
          refine Or.inl ⟨by rfl, ?_⟩
          intro w hSw
          go_simp
          first | done | rfl
        try simp only [Act.put, List.getElem_toArray, List.getElem_cons_zero, List.getElem_cons_succ, List.setIfInBounds_toArray, List.set_cons_zero, List.set_cons_succ]
        refine wpAnyH_take (i := 14) (oi := ?o132) (v := ?v132) ?i132 (by kernel_rfl) (by kernel_rfl) (by kernel_rfl) ?q132 ?y132 (trivial) ?r132
        case i132 => exact rfl
        case q132 => exact (fun _ _ _ h => h)
        case y132 =>
          refine Or.inl ⟨by rfl, ?_⟩
          intro w hSw
          go_simp
          first | done | rfl
        try simp only [Act.put, List.getElem_toArray, List.getElem_cons_zero, List.getElem_cons_succ, List.setIfInBounds_toArray, List.set_cons_zero, List.set_cons_succ]
        refine wpAnyH_take (i := 16) (oi := ?o133) (v := ?v133) ?i133 (by kernel_rfl) (by kernel_rfl) (by kernel_rfl) ?q133 ?y133 (trivial) ?r133
        case i133 => exact rfl
        case q133 => exact (fun _ _ _ h => h)
        case y133 =>
          refine Or.inl ⟨by rfl, ?_⟩
          intro w hSw
          go_simp
          first | done | rfl
        try simp only [Act.put, List.getElem_toArray, List.getElem_cons_zero, List.getElem_cons_succ, List.setIfInBounds_toArray, List.set_cons_zero, List.set_cons_succ]
        refine wpAnyH_ready (rs := [15]) (by kernel_rfl) (by simp) ?_
        refine AllReadyH.cons (i := 15) (o := ?o134) ?i134 (fun K hK => ?_) AllReadyH.nil
        case i134 => exact rfl
        go_simp
        (with_reducible refine (hwwR.out _).mono ?_)
        rintro e wq ⟨rfl, rfl⟩
        go_wp2_with fail
        refine hK.out _ _ (trivial) (fun hHeld => ?_)
        clear hK K
        try simp only [Act.put, List.getElem_toArray, List.getElem_cons_zero, List.getElem_cons_succ, List.setIfInBounds_toArray, List.set_cons_zero, List.set_cons_succ]
        refine wpAnyH_take (i := 17) (oi := ?o135) (v := ?v135) ?i135 (by kernel_rfl) (by kernel_rfl) (by kernel_rfl) ?q135 ?y135 (trivial) ?r135
        case i135 => exact rfl
        case q135 => exact (fun _ _ _ h => h)
        case y135 =>
          refine Or.inl ⟨by rfl, ?_⟩
          intro w hSw
          go_simp
          first | done | rfl
        try simp only [Act.put, List.getElem_toArray, List.getElem_cons_zero, List.getElem_cons_succ, List.setIfInBounds_toArray, List.set_cons_zero, List.set_cons_succ]
        refine wpAnyH_take (i := 18) (oi := ?o136) (v := ?v136) ?i136 (by kernel_rfl) (by kernel_rfl) (by kernel_rfl) ?q136 ?y136 (trivial) ?r136
        case i136 => exact rfl
        case q136 => exact (fun _ _ _ h => h)
        case y136 =>
          refine Or.inl ⟨by rfl, ?_⟩
          intro w hSw
          go_simp
          first | done | rfl
        try simp only [Act.put, List.getElem_toArray, List.getElem_cons_zero, List.getElem_cons_succ, List.setIfInBounds_toArray, List.set_cons_zero, List.set_cons_succ]
        refine wpAnyH_take (i := 19) (oi := ?o137) (v := ?v137) ?i137 (by kernel_rfl) (by kernel_rfl) (by kernel_rfl) ?q137 ?y137 (trivial) ?r137
        case i137 => exact rfl
        case q137 => exact (fun _ _ _ h => h)
        case y137 =>
          refine Or.inl ⟨by rfl, ?_⟩
          intro w hSw
          go_simp
          first | done | rfl
        try simp only [Act.put, List.getElem_toArray, List.getElem_cons_zero, List.getElem_cons_succ, List.setIfInBounds_toArray, List.set_cons_zero, List.set_cons_succ]
        refine wpAnyH_take (i := 20) (oi := ?o138) (v := ?v138) ?i138 (by kernel_rfl) (by kernel_rfl) (by kernel_rfl) ?q138 ?y138 (trivial) ?r138
        case i138 => exact rfl
        case q138 => exact (fun _ _ _ h => h)
        case y138 =>
          refine Or.inl ⟨by rfl, ?_⟩
          intro w hSw
          go_simp
          first | done | rfl
        try simp only [Act.put, List.getElem_toArray, List.getElem_cons_zero, List.getElem_cons_succ, List.setIfInBounds_toArray, List.set_cons_zero, List.set_cons_succ]
        refine wpAnyH_take (i := 21) (oi := ?o139) (v := ?v139) ?i139 (by kernel_rfl) (by kernel_rfl) (by kernel_rfl) ?q139 ?y139 (trivial) ?r139
        case i139 => exact rfl
        case q139 => exact (fun _ _ _ h => h)
        case y139 =>
          refine Or.inl ⟨by rfl, ?_⟩
          intro w hSw
          go_simp
          first | done | rfl
        try simp only [Act.put, List.getElem_toArray, List.getElem_cons_zero, List.getElem_cons_succ, List.setIfInBounds_toArray, List.set_cons_zero, List.set_cons_succ]
        refine wpAnyH_take (i := 22) (oi := ?o140) (v := ?v140) ?i140 (by kernel_rfl) (by kernel_rfl) (by kernel_rfl) ?q140 ?y140 (trivial) ?r140
        case i140 => exact rfl
        case q140 => exact (fun _ _ _ h => h)
        case y140 =>
          refine Or.inl ⟨by rfl, ?_⟩
          intro w hSw
          go_simp
          first | done | rfl
        try simp only [Act.put, List.getElem_toArray, List.getElem_cons_zero, List.getElem_cons_succ, List.setIfInBounds_toArray, List.set_cons_zero, List.set_cons_succ]
        refine wpAnyH_take (i := 23) (oi := ?o141) (v := ?v141) ?i141 (by kernel_rfl) (by kernel_rfl) (by kernel_rfl) ?q141 ?y141 (trivial) ?r141
        case i141 => exact rfl
        case q141 => exact (fun _ _ _ h => h)
        case y141 =>
          refine Or.inl ⟨by rfl, ?_⟩
          intro w hSw
          go_simp
          first | done | rfl
        try simp only [Act.put, List.getElem_toArray, List.getElem_cons_zero, List.getElem_cons_succ, List.setIfInBounds_toArray, List.set_cons_zero, List.set_cons_succ]
        refine wpAnyH_take (i := 24) (oi := ?o142) (v := ?v142) ?i142 (by kernel_rfl) (by kernel_rfl) (by kernel_rfl) ?q142 ?y142 (trivial) ?r142
        case i142 => exact rfl
        case q142 => exact (fun _ _ _ h => h)
        case y142 =>
          refine Or.inl ⟨by rfl, ?_⟩
          intro w hSw
          go_simp
          first | done | rfl
        try simp only [Act.put, List.getElem_toArray, List.getElem_cons_zero, List.getElem_cons_succ, List.setIfInBounds_toArray, List.set_cons_zero, List.set_cons_succ]
        refine wpAnyH_take (i := 25) (oi := ?o143) (v := ?v143) ?i143 (by kernel_rfl) (by kernel_rfl) (by kernel_rfl) ?q143 ?y143 (trivial) ?r143
        case i143 => exact rfl
        case q143 => exact (fun _ _ _ h => h)
        case y143 =>
          refine Or.inl ⟨by rfl, ?_⟩
          intro w hSw
          go_simp
          first | done | rfl
        try simp only [Act.put, List.getElem_toArray, List.getElem_cons_zero, List.getElem_cons_succ, List.setIfInBounds_toArray, List.set_cons_zero, List.set_cons_succ]
        refine wpAnyH_take (i := 26) (oi := ?o144) (v := ?v144) ?i144 (by kernel_rfl) (by kernel_rfl) (by kernel_rfl) ?q144 ?y144 (trivial) ?r144
        case i144 => exact rfl
        case q144 => exact (fun _ _ _ h => h)
        case y144 =>
          refine Or.inl ⟨by rfl, ?_⟩
          intro w hSw
          go_simp
          first | done | rfl
        try simp only [Act.put, List.getElem_toArray, List.getElem_cons_zero, List.getElem_cons_succ, List.setIfInBounds_toArray, List.set_cons_zero, List.set_cons_succ]
        refine wpAnyH_take (i := 27) (oi := ?o145) (v := ?v145) ?i145 (by kernel_rfl) (by kernel_rfl) (by kernel_rfl) ?q145 ?y145 (trivial) ?r145
        case i145 => exact rfl
        case q145 => exact (fun _ _ _ h => h)
        case y145 =>
          refine Or.inl ⟨by rfl, ?_⟩
          intro w hSw
          go_simp
          first | done | rfl
        try simp only [Act.put, List.getElem_toArray, List.getElem_cons_zero, List.getElem_cons_succ, List.setIfInBounds_toArray, List.set_cons_zero, List.set_cons_succ]
        refine wpAnyH_take (i := 29) (oi := ?o146) (v := ?v146) ?i146 (by kernel_rfl) (by kernel_rfl) (by kernel_rfl) ?q146 ?y146 (trivial) ?r146
        case i146 => exact rfl
        case q146 => exact (fun _ _ _ h => h)
        case y146 =>
          refine Or.inl ⟨by rfl, ?_⟩
          intro w hSw
          go_simp
          first | done | rfl
        try simp only [Act.put, List.getElem_toArray, List.getElem_cons_zero, List.getElem_cons_succ, List.setIfInBounds_toArray, List.set_cons_zero, List.set_cons_succ]
        refine wpAnyH_ready (rs := [28]) (by kernel_rfl) (by simp) ?_
        refine AllReadyH.cons (i := 28) (o := ?o147) ?i147 (fun K hK => ?_) AllReadyH.nil
        case i147 => exact rfl
        go_simp
        (with_reducible refine (hsTR.out _ rTP.out).mono ?_)
        rintro e wq ⟨rfl, rfl⟩
        go_wp2_with fail
        refine hK.out _ _ (trivial) (fun hHeld => ?_)
        clear hK K
        try simp only [Act.put, List.getElem_toArray, List.getElem_cons_zero, List.getElem_cons_succ, List.setIfInBounds_toArray, List.set_cons_zero, List.set_cons_succ]
        refine wpAnyH_ready (rs := [30]) (by kernel_rfl) (by simp) ?_
        refine AllReadyH.cons (i := 30) (o := ?o148) ?i148 (fun K hK => ?_) AllReadyH.nil
        case i148 => exact rfl
        go_simp
        (with_reducible refine (hsUR.out _ rUP.out).mono ?_)
        rintro e wq ⟨rfl, rfl⟩
        go_wp2_with fail
        refine hK.out _ _ (trivial) (fun hHeld => ?_)
        clear hK K
        try simp only [Act.put, List.getElem_toArray, List.getElem_cons_zero, List.getElem_cons_succ, List.setIfInBounds_toArray, List.set_cons_zero, List.set_cons_succ]
        refine wpAnyH_take (i := 31) (oi := ?o149) (v := ?v149) ?i149 (by kernel_rfl) (by kernel_rfl) (by kernel_rfl) ?q149 ?y149 (trivial) ?r149
        case i149 => exact rfl
        case q149 => exact (fun _ _ _ h => h)
        case y149 =>
          refine Or.inl ⟨by rfl, ?_⟩
          intro w hSw
          go_simp
          first | done | rfl
        try simp only [Act.put, List.getElem_toArray, List.getElem_cons_zero, List.getElem_cons_succ, List.setIfInBounds_toArray, List.set_cons_zero, List.set_cons_succ]
        refine wpAnyH_take (i := 32) (oi := ?o150) (v := ?v150) ?i150 (by kernel_rfl) (by kernel_rfl) (by kernel_rfl) ?q150 ?y150 (trivial) ?r150
        case i150 => exact rfl
        case q150 => exact (fun _ _ _ h => h)
        case y150 =>
          refine Or.inl ⟨by rfl, ?_⟩
          intro w hSw
          go_simp
          first | done | rfl
        try simp only [Act.put, List.getElem_toArray, List.getElem_cons_zero, List.getElem_cons_succ, List.setIfInBounds_toArray, List.set_cons_zero, List.set_cons_succ]
        refine wpAnyH_take (i := 33) (oi := ?o151) (v := ?v151) ?i151 (by kernel_rfl) (by kernel_rfl) (by kernel_rfl) ?q151 ?y151 (trivial) ?r151
        case i151 => exact rfl
        case q151 => exact (fun _ _ _ h => h)
        case y151 =>
          refine Or.inl ⟨by rfl, ?_⟩
          intro w hSw
          go_simp
          first | done | rfl
        try simp only [Act.put, List.getElem_toArray, List.getElem_cons_zero, List.getElem_cons_succ, List.setIfInBounds_toArray, List.set_cons_zero, List.set_cons_succ]
        refine wpAnyH_take (i := 34) (oi := ?o152) (v := undef) ?i152 (by kernel_rfl) (by kernel_rfl) (by kernel_rfl) ?q152 ?y152 (trivial) ?r152
        case i152 => exact rfl
        case q152 => exact (fun _ _ _ h => h)
        case y152 => exact Or.inr ⟨by rfl, rfl⟩
        try simp only [Act.put, List.getElem_toArray, List.getElem_cons_zero, List.getElem_cons_succ, List.setIfInBounds_toArray, List.set_cons_zero, List.set_cons_succ]
        refine wpAnyH_take (i := 35) (oi := ?o153) (v := undef) ?i153 (by kernel_rfl) (by kernel_rfl) (by kernel_rfl) ?q153 ?y153 (trivial) ?r153
        case i153 => exact rfl
        case q153 => exact (fun _ _ _ h => h)
        case y153 => exact Or.inr ⟨by rfl, rfl⟩
        try simp only [Act.put, List.getElem_toArray, List.getElem_cons_zero, List.getElem_cons_succ, List.setIfInBounds_toArray, List.set_cons_zero, List.set_cons_succ]
        refine wpAnyH_take (i := 36) (oi := ?o154) (v := undef) ?i154 (by kernel_rfl) (by kernel_rfl) (by kernel_rfl) ?q154 ?y154 (trivial) ?r154
        case i154 => exact rfl
        case q154 => exact (fun _ _ _ h => h)
        case y154 => exact Or.inr ⟨by rfl, rfl⟩
        try simp only [Act.put, List.getElem_toArray, List.getElem_cons_zero, List.getElem_cons_succ, List.setIfInBounds_toArray, List.set_cons_zero, List.set_cons_succ]
        refine wpAnyH_take (i := 37) (oi := ?o155) (v := ?v155) ?i155 (by kernel_rfl) (by kernel_rfl) (by kernel_rfl) ?q155 ?y155 (trivial) ?r155
        case i155 => exact rfl
        case q155 => exact (fun _ _ _ h => h)
        case y155 =>
          refine Or.inl ⟨by rfl, ?_⟩
          intro w hSw
          go_simp
          first | done | rfl
        try simp only [Act.put, List.getElem_toArray, List.getElem_cons_zero, List.getElem_cons_succ, List.setIfInBounds_toArray, List.set_cons_zero, List.set_cons_succ]
        refine wpAnyH_take (i := 38) (oi := ?o156) (v := ?v156) ?i156 (by kernel_rfl) (by kernel_rfl) (by kernel_rfl) ?q156 ?y156 (trivial) ?r156
        case i156 => exact rfl
        case q156 => exact (fun _ _ _ h => h)
        case y156 =>
          refine Or.inl ⟨by rfl, ?_⟩
          intro w hSw
          go_simp
          first | done | rfl
        try simp only [Act.put, List.getElem_toArray, List.getElem_cons_zero, List.getElem_cons_succ, List.setIfInBounds_toArray, List.set_cons_zero, List.set_cons_succ]
        refine wpAnyH_done (by kernel_rfl) ?_ _
        go_wp2_with fail
        go_ret
        exact ⟨rfl, HBP.out⟩
    · have h41 : (40 : Int) < (nT : Int) := by omega
      clear HGT HLU HEN h40
      go_wp2_with fail
      refine (drawGetNumM _ _ _ code _ (hr.below hB7) hlen).mono ?_
      rintro e w8 ⟨aA, nA, cA, lA, fr, rfl, hnA, hfr, mA⟩
      have hB8 : Below w.heap.size w w8 := hB7.trans (mA.below.mono hB7.size)
      replace rT := rT.below mA.below
      replace rU := rU.below mA.below
      have rA := mA.row
      have kA := mA.cap
      have kA2 := mA.most
      clear mA hB7
      go_wp2_with fail
      refine (implGetM _ _ _ lA fr _ rA (by omega) kA kA2).mono ?_
      have hpg := put_get lA fr rA.2.1
      obtain ⟨k, hk⟩ : ∃ x, x = (getL lA fr).1 := ⟨_, rfl⟩
      obtain ⟨st, hst⟩ : ∃ x, x = (getL lA fr).2 := ⟨_, rfl⟩
      rw [← hk, ← hst] at hpg ⊢
      rintro e w9 ⟨rfl, b9⟩
      have HPG : Hid _ := hpg
      clear hk hst hpg
      have hB9 : Below w.heap.size w w9 := hB8.trans (b9.mono hB8.size)
      replace rT := rT.below b9
      replace rU := rU.below b9
      replace rA := rA.below b9
      clear b9 hB8
      unfold maxLen at kA2
      go_wp2_with fail
      refine (wrapM n _).mono ?_
      rintro e w9' ⟨rfl, rfl⟩
      have hwb := w32_bd n
      have hwm1 := w32_mod1 n
      have hwm2 := w32_mod2 n hfn
      have hwm3 := w32_mod3 n hfn
      have hww : Hid (∀ wx : World, Calls Try.prog 12 #[.int .i64 (w32 n)] wx fun e w' => e = .returned (.int .i64 (w32 n)) ∧ w' = wx) := by
        intro wx
        refine (wrapM (w32 n) wx).mono ?_
        rintro e w' ⟨rfl, rfl⟩
        exact ⟨ret_int (w32_w32 n), rfl⟩
      generalize w32 n = W at *
      have hsT : Hid (∀ wx : World, BRow wx aT nT lT → Calls Try.prog 13 #[.slice aT nT cT] wx fun e w' => e = .returned (.int .i64 (sumTo lT nT)) ∧ w' = wx) := by
        intro wx hx
        refine (implSum aT nT cT lT wx hx (by omega)).mono ?_
        rintro e w' ⟨rfl, rfl⟩
        exact ⟨rfl, rfl⟩
      have hsU : Hid (∀ wx : World, BRow wx aU nU lU → Calls Try.prog 13 #[.slice aU nU cU] wx fun e w' => e = .returned (.int .i64 (sumTo lU nU)) ∧ w' = wx) := by
        intro wx hx
        refine (implSum aU nU cU lU wx hx (by omega)).mono ?_
        rintro e w' ⟨rfl, rfl⟩
        exact ⟨rfl, rfl⟩
      have HRT : Hid (BRow w9' aT nT lT) := rT
      have HRU : Hid (BRow w9' aU nU lU) := rU
      generalize sumTo lT nT = S1 at *
      generalize sumTo lU nU = S2 at *
      clear rT rU
      cases dsum : (S1 == S2)
      ·
        by_cases hneg : st < 0
        · have dneg : decide (st < 0) = true := by simpa using hneg
          clear HPG rA
          go_wp2_with fail
          go_quiet ((first | (go_at_call 12; exact Calls.quiet_of_same (hww.out _)) | (go_at_call_of 13 (Value.slice aT nT cT); exact Calls.quiet_of_same (hsT.out _ HRT.out)) | (go_at_call_of 13 (Value.slice aU nU cU); exact Calls.quiet_of_same (hsU.out _ HRU.out))))
          go_wp2
          go_ret
          exact ⟨rfl, below_drewN hB9 _⟩
        · obtain ⟨p1, p2, p3, p4, p5, p6⟩ := HPG.out (by omega)
          obtain ⟨f, rfl⟩ := Int.eq_ofNat_of_zero_le p1
          obtain ⟨s, rfl⟩ := Int.eq_ofNat_of_zero_le (show 0 ≤ st by omega)
          have hlA := rA.1
          rw [hlA] at p2 p5
          rw [Int.toNat_natCast, Int.toNat_natCast] at p3
          obtain ⟨b, off, haA, _⟩ := rA.2.2 (by omega)
          subst haA
          obtain ⟨pk, hpk⟩ : ∃ x, x = putL k := ⟨_, rfl⟩
          have hpkl := putL_len k
          rw [← hpk] at p3 hpkl
          have hput : Hid (∀ wx : World, BRow wx (some ⟨b, off, none⟩) nA lA → Calls Try.prog 5 #[.slice (some ⟨b, off, none⟩) f cA, .int .i64 k] wx fun e w' => ∃ aP cP, e = .returned (.slice aP (f + pk.length) cP) ∧ BRow w' aP (f + pk.length) (lA.take f ++ pk) ∧ Below wx.heap.size wx w') := by
            intro wx hx
            refine (implPutM _ f cA (lA.take f) k wx (hx.head (by omega)) (by omega)).mono ?_
            rw [← hpk]
            rintro e w' ⟨aP, cP, rfl, mP⟩
            exact ⟨aP, cP, rfl, mP.row, mP.below⟩
          have hsm2 : Hid (∀ (wx : World) (aP : Option Addr) (cP : Nat), BRow wx aP (f + pk.length) (lA.take f ++ pk) → BRow wx (some ⟨b, off, none⟩) nA lA → Calls Try.prog 10 #[.slice aP (f + pk.length) cP, .slice (some ⟨b, off, none⟩) s cA] wx fun e w' => e = .returned (.bool true) ∧ wx = w') := by
            intro wx aP cP h1 h2
            refine (sameM _ _ _ _ _ _ _ (lA.take s) wx h1 (h2.head (by omega))).mono ?_
            rintro e w' ⟨rfl, rfl⟩
            exact ⟨by rw [decide_eq_true p3], rfl⟩
          have hwwR : Hid (∀ wx : World, Calls Try.prog 12 #[.int .i64 W] wx fun e w' => e = .returned (.int .i64 W) ∧ wx = w') := fun wx => (hww.out wx).mono (fun e w' h => ⟨h.1, h.2.symm⟩)
          have hsTR : Hid (∀ wx : World, BRow wx aT nT lT → Calls Try.prog 13 #[.slice aT nT cT] wx fun e w' => e = .returned (.int .i64 S1) ∧ wx = w') := fun wx hx => (hsT.out wx hx).mono (fun e w' h => ⟨h.1, h.2.symm⟩)
          have hsUR : Hid (∀ wx : World, BRow wx aU nU lU → Calls Try.prog 13 #[.slice aU nU cU] wx fun e w' => e = .returned (.int .i64 S2) ∧ wx = w') := fun wx hx => (hsU.out wx hx).mono (fun e w' h => ⟨h.1, h.2.symm⟩)
          have HRA : Hid (BRow w9' (some ⟨b, off, none⟩) nA lA) := rA
          have hfc : f ≤ cA := by omega
          have hsc : s ≤ cA := by omega
          have hs0 : ¬ (s : Int) < 0 := by omega
          clear hww hsT hsU HPG rA p3 hpk hpkl hneg hlA
          go_wp2_with fail
          have HRAd : Hid (BRow w9'.drew (some ⟨b, off, none⟩) nA lA) := HRA.out
          have HRTd : Hid (BRow w9'.drew aT nT lT) := HRT.out
          have HRUd : Hid (BRow w9'.drew aU nU lU) := HRU.out
          refine wp_region_held_drew (S := fun _ => True) (by kernel_rfl) trivial (fun hHeld => ?_)
          refine wpAnyH_take (i := 0) (oi := ?o157) (v := ?v157) ?i157 (by kernel_rfl) (by kernel_rfl) (by kernel_rfl) ?q157 ?y157 (trivial) ?r157
          case i157 => exact rfl
          case q157 => exact (fun _ _ _ h => h)
          case y157 =>
            refine Or.inl ⟨by rfl, ?_⟩
            intro w hSw
            go_simp
            first | done | rfl
          try simp only [Act.put, List.getElem_toArray, List.getElem_cons_zero, List.getElem_cons_succ, List.setIfInBounds_toArray, List.set_cons_zero, List.set_cons_succ]
          refine wpAnyH_take (i := 1) (oi := ?o158) (v := ?v158) ?i158 (by kernel_rfl) (by kernel_rfl) (by kernel_rfl) ?q158 ?y158 (trivial) ?r158
          case i158 => exact rfl
          case q158 => exact (fun _ _ _ h => h)
          case y158 =>
            refine Or.inl ⟨by rfl, ?_⟩
            intro w hSw
            go_simp
            first | done | rfl
          try simp only [Act.put, List.getElem_toArray, List.getElem_cons_zero, List.getElem_cons_succ, List.setIfInBounds_toArray, List.set_cons_zero, List.set_cons_succ]
          refine wpAnyH_take (i := 2) (oi := ?o159) (v := ?v159) ?i159 (by kernel_rfl) (by kernel_rfl) (by kernel_rfl) ?q159 ?y159 (trivial) ?r159
          case i159 => exact rfl
          case q159 => exact (fun _ _ _ h => h)
          case y159 =>
            refine Or.inl ⟨by rfl, ?_⟩
            intro w hSw
            go_simp
            first | done | rfl
          try simp only [Act.put, List.getElem_toArray, List.getElem_cons_zero, List.getElem_cons_succ, List.setIfInBounds_toArray, List.set_cons_zero, List.set_cons_succ]
          refine wpAnyH_take (i := 3) (oi := ?o160) (v := ?v160) ?i160 (by kernel_rfl) (by kernel_rfl) (by kernel_rfl) ?q160 ?y160 (trivial) ?r160
          case i160 => exact rfl
          case q160 => exact (fun _ _ _ h => h)
          case y160 =>
            refine Or.inl ⟨by rfl, ?_⟩
            intro w hSw
            go_simp
            first | done | rfl
          try simp only [Act.put, List.getElem_toArray, List.getElem_cons_zero, List.getElem_cons_succ, List.setIfInBounds_toArray, List.set_cons_zero, List.set_cons_succ]
          refine wpAnyH_take (i := 4) (oi := ?o161) (v := ?v161) ?i161 (by kernel_rfl) (by kernel_rfl) (by kernel_rfl) ?q161 ?y161 (trivial) ?r161
          case i161 => exact rfl
          case q161 => exact (fun _ _ _ h => h)
          case y161 =>
            refine Or.inl ⟨by rfl, ?_⟩
            intro w hSw
            go_simp
            first | done | rfl
          try simp only [Act.put, List.getElem_toArray, List.getElem_cons_zero, List.getElem_cons_succ, List.setIfInBounds_toArray, List.set_cons_zero, List.set_cons_succ]
          refine wpAnyH_take (i := 5) (oi := ?o162) (v := ?v162) ?i162 (by kernel_rfl) (by kernel_rfl) (by kernel_rfl) ?q162 ?y162 (trivial) ?r162
          case i162 => exact rfl
          case q162 => exact (fun _ _ _ h => h)
          case y162 =>
            refine Or.inl ⟨by rfl, ?_⟩
            intro w hSw
            go_simp
            first | done | rfl
          try simp only [Act.put, List.getElem_toArray, List.getElem_cons_zero, List.getElem_cons_succ, List.setIfInBounds_toArray, List.set_cons_zero, List.set_cons_succ]
          refine wpAnyH_take (i := 6) (oi := ?o163) (v := ?v163) ?i163 (by kernel_rfl) (by kernel_rfl) (by kernel_rfl) ?q163 ?y163 (trivial) ?r163
          case i163 => exact rfl
          case q163 => exact (fun _ _ _ h => h)
          case y163 =>
            refine Or.inl ⟨by rfl, ?_⟩
            intro w hSw
            go_simp
            first | done | rfl
          try simp only [Act.put, List.getElem_toArray, List.getElem_cons_zero, List.getElem_cons_succ, List.setIfInBounds_toArray, List.set_cons_zero, List.set_cons_succ]
          refine wpAnyH_take (i := 8) (oi := ?o164) (v := ?v164) ?i164 (by kernel_rfl) (by kernel_rfl) (by kernel_rfl) ?q164 ?y164 (trivial) ?r164
          case i164 => exact rfl
          case q164 => exact (fun _ _ _ h => h)
          case y164 =>
            refine Or.inl ⟨by rfl, ?_⟩
            intro w hSw
            go_simp
            first | done | rfl
          try simp only [Act.put, List.getElem_toArray, List.getElem_cons_zero, List.getElem_cons_succ, List.setIfInBounds_toArray, List.set_cons_zero, List.set_cons_succ]
          refine wpAnyH_take (i := 9) (oi := ?o165) (v := ?v165) ?i165 (by kernel_rfl) (by kernel_rfl) (by kernel_rfl) ?q165 ?y165 (trivial) ?r165
          case i165 => exact rfl
          case q165 => exact (fun _ _ _ h => h)
          case y165 =>
            refine Or.inl ⟨by rfl, ?_⟩
            intro w hSw
            go_simp
            first | done | rfl
          try simp only [Act.put, List.getElem_toArray, List.getElem_cons_zero, List.getElem_cons_succ, List.setIfInBounds_toArray, List.set_cons_zero, List.set_cons_succ]
          refine wpAnyH_take (i := 10) (oi := ?o166) (v := ?v166) ?i166 (by kernel_rfl) (by kernel_rfl) (by kernel_rfl) ?q166 ?y166 (trivial) ?r166
          case i166 => exact rfl
          case q166 => exact (fun _ _ _ h => h)
          case y166 =>
            refine Or.inl ⟨by rfl, ?_⟩
            intro w hSw
            go_simp
            first | done | rfl
          try simp only [Act.put, List.getElem_toArray, List.getElem_cons_zero, List.getElem_cons_succ, List.setIfInBounds_toArray, List.set_cons_zero, List.set_cons_succ]
          refine wpAnyH_ready (rs := [7]) (by kernel_rfl) (by simp) ?_
          refine AllReadyH.cons (i := 7) (o := ?o167) ?i167 (fun K hK => ?_) AllReadyH.nil
          case i167 => exact rfl
          go_simp
          (with_reducible refine (hput.out _ HRAd.out).mono ?_)
          rintro e wP ⟨aP, cP, rfl, rP, bP⟩
          have rTP : Hid (BRow wP aT nT lT) := BRow.below (w := w9'.drew) HRTd.out bP
          have rUP : Hid (BRow wP aU nU lU) := BRow.below (w := w9'.drew) HRUd.out bP
          have rAP : Hid (BRow wP (some ⟨b, off, none⟩) nA lA) := BRow.below (w := w9'.drew) HRAd.out bP
          have HRP : Hid (BRow wP aP (f + pk.length) (lA.take f ++ pk)) := rP
          have HBP : Hid (Below w.heap.size w wP) := hB9.drew.trans (bP.mono hB9.size)
          clear rP bP
          go_wp2_with fail
          refine hK.out _ _ (trivial) (fun hHeld => ?_)
          clear hK K
          try simp only [Act.put, List.getElem_toArray, List.getElem_cons_zero, List.getElem_cons_succ, List.setIfInBounds_toArray, List.set_cons_zero, List.set_cons_succ]
          refine wpAnyH_ready (rs := [11]) (by kernel_rfl) (by simp) ?_
          refine AllReadyH.cons (i := 11) (o := ?o168) ?i168 (fun K hK => ?_) AllReadyH.nil
          case i168 => exact rfl
          go_simp
          (with_reducible refine (hsm2.out _ _ _ HRP.out rAP.out).mono ?_)
          rintro e wq ⟨rfl, rfl⟩
          go_wp2_with fail
          refine hK.out _ _ (trivial) (fun hHeld => ?_)
          clear hK K
          try simp only [Act.put, List.getElem_toArray, List.getElem_cons_zero, List.getElem_cons_succ, List.setIfInBounds_toArray, List.set_cons_zero, List.set_cons_succ]
          refine wpAnyH_take (i := 12) (oi := ?o169) (v := ?v169) ?i169 (by kernel_rfl) (by kernel_rfl) (by kernel_rfl) ?q169 ?y169 (trivial) ?r169
          case i169 => exact rfl
          case q169 => exact (fun _ _ _ h => h)
          case y169 =>
            refine Or.inl ⟨by rfl, ?_⟩
            intro w hSw
            go_simp
            first | done | rfl
          try simp only [Act.put, List.getElem_toArray, List.getElem_cons_zero, List.getElem_cons_succ, List.setIfInBounds_toArray, List.set_cons_zero, List.set_cons_succ]
          refine wpAnyH_take (i := 13) (oi := ?o170) (v := ?v170) ?i170 (by kernel_rfl) (by kernel_rfl) (by kernel_rfl) ?q170 ?y170 (trivial) ?r170
          case i170 => exact rfl
          case q170 => exact (fun _ _ _ h => h)
          case y170 =>
            refine Or.inl ⟨by rfl, ?_⟩
            intro w hSw
            go_simp
            first | done | rfl
          try simp only [Act.put, List.getElem_toArray, List.getElem_cons_zero, List.getElem_cons_succ, List.setIfInBounds_toArray, List.set_cons_zero, List.set_cons_succ]
          refine wpAnyH_take (i := 14) (oi := ?o171) (v := ?v171) ?i171 (by kernel_rfl) (by kernel_rfl) (by kernel_rfl) ?q171 ?y171 (trivial) ?r171
          case i171 => exact rfl
          case q171 => exact (fun _ _ _ h => h)
          case y171 =>
            refine Or.inl ⟨by rfl, ?_⟩
            intro w hSw
            go_simp
            first | done | rfl
          try simp only [Act.put, List.getElem_toArray, List.getElem_cons_zero, List.getElem_cons_succ, List.setIfInBounds_toArray, List.set_cons_zero, List.set_cons_succ]
          refine wpAnyH_take (i := 16) (oi := ?o172) (v := ?v172) ?i172 (by kernel_rfl) (by kernel_rfl) (by kernel_rfl) ?q172 ?y172 (trivial) ?r172
          case i172 => exact rfl
          case q172 => exact (fun _ _ _ h => h)
          case y172 =>
            refine Or.inl ⟨by rfl, ?_⟩
            intro w hSw
            go_simp
            first | done | rfl
          try simp only [Act.put, List.getElem_toArray, List.getElem_cons_zero, List.getElem_cons_succ, List.setIfInBounds_toArray, List.set_cons_zero, List.set_cons_succ]
          refine wpAnyH_ready (rs := [15]) (by kernel_rfl) (by simp) ?_
          refine AllReadyH.cons (i := 15) (o := ?o173) ?i173 (fun K hK => ?_) AllReadyH.nil
          case i173 => exact rfl
          go_simp
          (with_reducible refine (hwwR.out _).mono ?_)
          rintro e wq ⟨rfl, rfl⟩
          go_wp2_with fail
          refine hK.out _ _ (trivial) (fun hHeld => ?_)
          clear hK K
          try simp only [Act.put, List.getElem_toArray, List.getElem_cons_zero, List.getElem_cons_succ, List.setIfInBounds_toArray, List.set_cons_zero, List.set_cons_succ]
          refine wpAnyH_take (i := 17) (oi := ?o174) (v := ?v174) ?i174 (by kernel_rfl) (by kernel_rfl) (by kernel_rfl) ?q174 ?y174 (trivial) ?r174
          case i174 => exact rfl
          case q174 => exact (fun _ _ _ h => h)
          case y174 =>
            refine Or.inl ⟨by rfl, ?_⟩
            intro w hSw
            go_simp
            first | done | rfl
          try simp only [Act.put, List.getElem_toArray, List.getElem_cons_zero, List.getElem_cons_succ, List.setIfInBounds_toArray, List.set_cons_zero, List.set_cons_succ]
          refine wpAnyH_take (i := 18) (oi := ?o175) (v := ?v175) ?i175 (by kernel_rfl) (by kernel_rfl) (by kernel_rfl) ?q175 ?y175 (trivial) ?r175
          case i175 => exact rfl
          case q175 => exact (fun _ _ _ h => h)
          case y175 =>
            refine Or.inl ⟨by rfl, ?_⟩
            intro w hSw
            go_simp
            first | done | rfl
          try simp only [Act.put, List.getElem_toArray, List.getElem_cons_zero, List.getElem_cons_succ, List.setIfInBounds_toArray, List.set_cons_zero, List.set_cons_succ]
          refine wpAnyH_take (i := 19) (oi := ?o176) (v := ?v176) ?i176 (by kernel_rfl) (by kernel_rfl) (by kernel_rfl) ?q176 ?y176 (trivial) ?r176
          case i176 => exact rfl
          case q176 => exact (fun _ _ _ h => h)
          case y176 =>
            refine Or.inl ⟨by rfl, ?_⟩
            intro w hSw
            go_simp
            first | done | rfl
          try simp only [Act.put, List.getElem_toArray, List.getElem_cons_zero, List.getElem_cons_succ, List.setIfInBounds_toArray, List.set_cons_zero, List.set_cons_succ]
          refine wpAnyH_take (i := 20) (oi := ?o177) (v := ?v177) ?i177 (by kernel_rfl) (by kernel_rfl) (by kernel_rfl) ?q177 ?y177 (trivial) ?r177
          case i177 => exact rfl
          case q177 => exact (fun _ _ _ h => h)
          case y177 =>
            refine Or.inl ⟨by rfl, ?_⟩
            intro w hSw
            go_simp
            first | done | rfl
          try simp only [Act.put, List.getElem_toArray, List.getElem_cons_zero, List.getElem_cons_succ, List.setIfInBounds_toArray, List.set_cons_zero, List.set_cons_succ]
          refine wpAnyH_take (i := 21) (oi := ?o178) (v := ?v178) ?i178 (by kernel_rfl) (by kernel_rfl) (by kernel_rfl) ?q178 ?y178 (trivial) ?r178
          case i178 => exact rfl
          case q178 => exact (fun _ _ _ h => h)
          case y178 =>
            refine Or.inl ⟨by rfl, ?_⟩
            intro w hSw
            go_simp
            first | done | rfl
          try simp only [Act.put, List.getElem_toArray, List.getElem_cons_zero, List.getElem_cons_succ, List.setIfInBounds_toArray, List.set_cons_zero, List.set_cons_succ]
          refine wpAnyH_take (i := 22) (oi := ?o179) (v := ?v179) ?i179 (by kernel_rfl) (by kernel_rfl) (by kernel_rfl) ?q179 ?y179 (trivial) ?r179
          case i179 => exact rfl
          case q179 => exact (fun _ _ _ h => h)
          case y179 =>
            refine Or.inl ⟨by rfl, ?_⟩
            intro w hSw
            go_simp
            first | done | rfl
          try simp only [Act.put, List.getElem_toArray, List.getElem_cons_zero, List.getElem_cons_succ, List.setIfInBounds_toArray, List.set_cons_zero, List.set_cons_succ]
          refine wpAnyH_take (i := 23) (oi := ?o180) (v := ?v180) ?i180 (by kernel_rfl) (by kernel_rfl) (by kernel_rfl) ?q180 ?y180 (trivial) ?r180
          case i180 => exact rfl
          case q180 => exact (fun _ _ _ h => h)
          case y180 =>
            refine Or.inl ⟨by rfl, ?_⟩
            intro w hSw
            go_simp
            first | done | rfl
          try simp only [Act.put, List.getElem_toArray, List.getElem_cons_zero, List.getElem_cons_succ, List.setIfInBounds_toArray, List.set_cons_zero, List.set_cons_succ]
          refine wpAnyH_take (i := 24) (oi := ?o181) (v := ?v181) ?i181 (by kernel_rfl) (by kernel_rfl) (by kernel_rfl) ?q181 ?y181 (trivial) ?r181
          case i181 => exact rfl
          case q181 => exact (fun _ _ _ h => h)
          case y181 =>
            refine Or.inl ⟨by rfl, ?_⟩
            intro w hSw
            go_simp
            first | done | rfl
          try simp only [Act.put, List.getElem_toArray, List.getElem_cons_zero, List.getElem_cons_succ, List.setIfInBounds_toArray, List.set_cons_zero, List.set_cons_succ]
          refine wpAnyH_take (i := 25) (oi := ?o182) (v := ?v182) ?i182 (by kernel_rfl) (by kernel_rfl) (by kernel_rfl) ?q182 ?y182 (trivial) ?r182
          case i182 => exact rfl
          case q182 => exact (fun _ _ _ h => h)
          case y182 =>
            refine Or.inl ⟨by rfl, ?_⟩
            intro w hSw
            go_simp
            first | done | rfl
          try simp only [Act.put, List.getElem_toArray, List.getElem_cons_zero, List.getElem_cons_succ, List.setIfInBounds_toArray, List.set_cons_zero, List.set_cons_succ]
          refine wpAnyH_take (i := 26) (oi := ?o183) (v := ?v183) ?i183 (by kernel_rfl) (by kernel_rfl) (by kernel_rfl) ?q183 ?y183 (trivial) ?r183
          case i183 => exact rfl
          case q183 => exact (fun _ _ _ h => h)
          case y183 =>
            refine Or.inl ⟨by rfl, ?_⟩
            intro w hSw
            go_simp
            first | done | rfl
          try simp only [Act.put, List.getElem_toArray, List.getElem_cons_zero, List.getElem_cons_succ, List.setIfInBounds_toArray, List.set_cons_zero, List.set_cons_succ]
          refine wpAnyH_take (i := 27) (oi := ?o184) (v := ?v184) ?i184 (by kernel_rfl) (by kernel_rfl) (by kernel_rfl) ?q184 ?y184 (trivial) ?r184
          case i184 => exact rfl
          case q184 => exact (fun _ _ _ h => h)
          case y184 =>
            refine Or.inl ⟨by rfl, ?_⟩
            intro w hSw
            go_simp
            first | done | rfl
          try simp only [Act.put, List.getElem_toArray, List.getElem_cons_zero, List.getElem_cons_succ, List.setIfInBounds_toArray, List.set_cons_zero, List.set_cons_succ]
          refine wpAnyH_take (i := 29) (oi := ?o185) (v := ?v185) ?i185 (by kernel_rfl) (by kernel_rfl) (by kernel_rfl) ?q185 ?y185 (trivial) ?r185
          case i185 => exact rfl
          case q185 => exact (fun _ _ _ h => h)
          case y185 =>
            refine Or.inl ⟨by rfl, ?_⟩
            intro w hSw
            go_simp
            first | done | rfl
          try simp only [Act.put, List.getElem_toArray, List.getElem_cons_zero, List.getElem_cons_succ, List.setIfInBounds_toArray, List.set_cons_zero, List.set_cons_succ]
          refine wpAnyH_ready (rs := [28]) (by kernel_rfl) (by simp) ?_
          refine AllReadyH.cons (i := 28) (o := ?o186) ?i186 (fun K hK => ?_) AllReadyH.nil
          case i186 => exact rfl
          go_simp
          (with_reducible refine (hsTR.out _ rTP.out).mono ?_)
          rintro e wq ⟨rfl, rfl⟩
          go_wp2_with fail
          refine hK.out _ _ (trivial) (fun hHeld => ?_)
          clear hK K
          try simp only [Act.put, List.getElem_toArray, List.getElem_cons_zero, List.getElem_cons_succ, List.setIfInBounds_toArray, List.set_cons_zero, List.set_cons_succ]
          refine wpAnyH_ready (rs := [30]) (by kernel_rfl) (by simp) ?_
          refine AllReadyH.cons (i := 30) (o := ?o187) ?i187 (fun K hK => ?_) AllReadyH.nil
          case i187 => exact rfl
          go_simp
          (with_reducible refine (hsUR.out _ rUP.out).mono ?_)
          rintro e wq ⟨rfl, rfl⟩
          go_wp2_with fail
          refine hK.out _ _ (trivial) (fun hHeld => ?_)
          clear hK K
          try simp only [Act.put, List.getElem_toArray, List.getElem_cons_zero, List.getElem_cons_succ, List.setIfInBounds_toArray, List.set_cons_zero, List.set_cons_succ]
          refine wpAnyH_take (i := 31) (oi := ?o188) (v := ?v188) ?i188 (by kernel_rfl) (by kernel_rfl) (by kernel_rfl) ?q188 ?y188 (trivial) ?r188
          case i188 => exact rfl
          case q188 => exact (fun _ _ _ h => h)
          case y188 =>
            refine Or.inl ⟨by rfl, ?_⟩
            intro w hSw
            go_simp
            first | done | rfl
          try simp only [Act.put, List.getElem_toArray, List.getElem_cons_zero, List.getElem_cons_succ, List.setIfInBounds_toArray, List.set_cons_zero, List.set_cons_succ]
          refine wpAnyH_take (i := 32) (oi := ?o189) (v := ?v189) ?i189 (by kernel_rfl) (by kernel_rfl) (by kernel_rfl) ?q189 ?y189 (trivial) ?r189
          case i189 => exact rfl
          case q189 => exact (fun _ _ _ h => h)
          case y189 =>
            refine Or.inl ⟨by rfl, ?_⟩
            intro w hSw
            go_simp
            first | done | rfl
          try simp only [Act.put, List.getElem_toArray, List.getElem_cons_zero, List.getElem_cons_succ, List.setIfInBounds_toArray, List.set_cons_zero, List.set_cons_succ]
          refine wpAnyH_take (i := 33) (oi := ?o190) (v := ?v190) ?i190 (by kernel_rfl) (by kernel_rfl) (by kernel_rfl) ?q190 ?y190 (trivial) ?r190
          case i190 => exact rfl
          case q190 => exact (fun _ _ _ h => h)
          case y190 =>
            refine Or.inl ⟨by rfl, ?_⟩
            intro w hSw
            go_simp
            first | done | rfl
          try simp only [Act.put, List.getElem_toArray, List.getElem_cons_zero, List.getElem_cons_succ, List.setIfInBounds_toArray, List.set_cons_zero, List.set_cons_succ]
          refine wpAnyH_take (i := 34) (oi := ?o191) (v := ?v191) ?i191 (by kernel_rfl) (by kernel_rfl) (by kernel_rfl) ?q191 ?y191 (trivial) ?r191
          case i191 => exact rfl
          case q191 => exact (fun _ _ _ h => h)
          case y191 =>
            refine Or.inl ⟨by rfl, ?_⟩
            intro w hSw
            go_simp
            first | done | rfl
          try simp only [Act.put, List.getElem_toArray, List.getElem_cons_zero, List.getElem_cons_succ, List.setIfInBounds_toArray, List.set_cons_zero, List.set_cons_succ]
          refine wpAnyH_take (i := 35) (oi := ?o192) (v := ?v192) ?i192 (by kernel_rfl) (by kernel_rfl) (by kernel_rfl) ?q192 ?y192 (trivial) ?r192
          case i192 => exact rfl
          case q192 => exact (fun _ _ _ h => h)
          case y192 =>
            refine Or.inl ⟨by rfl, ?_⟩
            intro w hSw
            go_simp
            first | done | rfl
          try simp only [Act.put, List.getElem_toArray, List.getElem_cons_zero, List.getElem_cons_succ, List.setIfInBounds_toArray, List.set_cons_zero, List.set_cons_succ]
          refine wpAnyH_take (i := 36) (oi := ?o193) (v := ?v193) ?i193 (by kernel_rfl) (by kernel_rfl) (by kernel_rfl) ?q193 ?y193 (trivial) ?r193
          case i193 => exact rfl
          case q193 => exact (fun _ _ _ h => h)
          case y193 =>
            refine Or.inl ⟨by rfl, ?_⟩
            intro w hSw
            go_simp
            first | done | rfl
          try simp only [Act.put, List.getElem_toArray, List.getElem_cons_zero, List.getElem_cons_succ, List.setIfInBounds_toArray, List.set_cons_zero, List.set_cons_succ]
          refine wpAnyH_take (i := 37) (oi := ?o194) (v := ?v194) ?i194 (by kernel_rfl) (by kernel_rfl) (by kernel_rfl) ?q194 ?y194 (trivial) ?r194
          case i194 => exact rfl
          case q194 => exact (fun _ _ _ h => h)
          case y194 =>
            refine Or.inl ⟨by rfl, ?_⟩
            intro w hSw
            go_simp
            first | done | rfl
          try simp only [Act.put, List.getElem_toArray, List.getElem_cons_zero, List.getElem_cons_succ, List.setIfInBounds_toArray, List.set_cons_zero, List.set_cons_succ]
          refine wpAnyH_take (i := 38) (oi := ?o195) (v := ?v195) ?i195 (by kernel_rfl) (by kernel_rfl) (by kernel_rfl) ?q195 ?y195 (trivial) ?r195
          case i195 => exact rfl
          case q195 => exact (fun _ _ _ h => h)
          case y195 =>
            refine Or.inl ⟨by rfl, ?_⟩
            intro w hSw
            go_simp
            first | done | rfl
          try simp only [Act.put, List.getElem_toArray, List.getElem_cons_zero, List.getElem_cons_succ, List.setIfInBounds_toArray, List.set_cons_zero, List.set_cons_succ]
          refine wpAnyH_done (by kernel_rfl) ?_ _
          go_wp2_with fail
          go_ret
          exact ⟨rfl, HBP.out⟩
      ·
        by_cases hneg : st < 0
        · have dneg : decide (st < 0) = true := by simpa using hneg
          clear HPG rA
          go_wp2_with fail
          go_quiet ((first | (go_at_call 12; exact Calls.quiet_of_same (hww.out _)) | (go_at_call_of 13 (Value.slice aT nT cT); exact Calls.quiet_of_same (hsT.out _ HRT.out)) | (go_at_call_of 13 (Value.slice aU nU cU); exact Calls.quiet_of_same (hsU.out _ HRU.out))))
          go_wp2
          go_ret
          exact ⟨rfl, below_drewN hB9 _⟩
        · obtain ⟨p1, p2, p3, p4, p5, p6⟩ := HPG.out (by omega)
          obtain ⟨f, rfl⟩ := Int.eq_ofNat_of_zero_le p1
          obtain ⟨s, rfl⟩ := Int.eq_ofNat_of_zero_le (show 0 ≤ st by omega)
          have hlA := rA.1
          rw [hlA] at p2 p5
          rw [Int.toNat_natCast, Int.toNat_natCast] at p3
          obtain ⟨b, off, haA, _⟩ := rA.2.2 (by omega)
          subst haA
          obtain ⟨pk, hpk⟩ : ∃ x, x = putL k := ⟨_, rfl⟩
          have hpkl := putL_len k
          rw [← hpk] at p3 hpkl
          have hput : Hid (∀ wx : World, BRow wx (some ⟨b, off, none⟩) nA lA → Calls Try.prog 5 #[.slice (some ⟨b, off, none⟩) f cA, .int .i64 k] wx fun e w' => ∃ aP cP, e = .returned (.slice aP (f + pk.length) cP) ∧ BRow w' aP (f + pk.length) (lA.take f ++ pk) ∧ Below wx.heap.size wx w') := by
            intro wx hx
            refine (implPutM _ f cA (lA.take f) k wx (hx.head (by omega)) (by omega)).mono ?_
            rw [← hpk]
            rintro e w' ⟨aP, cP, rfl, mP⟩
            exact ⟨aP, cP, rfl, mP.row, mP.below⟩
          have hsm2 : Hid (∀ (wx : World) (aP : Option Addr) (cP : Nat), BRow wx aP (f + pk.length) (lA.take f ++ pk) → BRow wx (some ⟨b, off, none⟩) nA lA → Calls Try.prog 10 #[.slice aP (f + pk.length) cP, .slice (some ⟨b, off, none⟩) s cA] wx fun e w' => e = .returned (.bool true) ∧ wx = w') := by
            intro wx aP cP h1 h2
            refine (sameM _ _ _ _ _ _ _ (lA.take s) wx h1 (h2.head (by omega))).mono ?_
            rintro e w' ⟨rfl, rfl⟩
            exact ⟨by rw [decide_eq_true p3], rfl⟩
          have hwwR : Hid (∀ wx : World, Calls Try.prog 12 #[.int .i64 W] wx fun e w' => e = .returned (.int .i64 W) ∧ wx = w') := fun wx => (hww.out wx).mono (fun e w' h => ⟨h.1, h.2.symm⟩)
          have hsTR : Hid (∀ wx : World, BRow wx aT nT lT → Calls Try.prog 13 #[.slice aT nT cT] wx fun e w' => e = .returned (.int .i64 S1) ∧ wx = w') := fun wx hx => (hsT.out wx hx).mono (fun e w' h => ⟨h.1, h.2.symm⟩)
          have hsUR : Hid (∀ wx : World, BRow wx aU nU lU → Calls Try.prog 13 #[.slice aU nU cU] wx fun e w' => e = .returned (.int .i64 S2) ∧ wx = w') := fun wx hx => (hsU.out wx hx).mono (fun e w' h => ⟨h.1, h.2.symm⟩)
          have HRA : Hid (BRow w9' (some ⟨b, off, none⟩) nA lA) := rA
          have hfc : f ≤ cA := by omega
          have hsc : s ≤ cA := by omega
          have hs0 : ¬ (s : Int) < 0 := by omega
          clear hww hsT hsU HPG rA p3 hpk hpkl hneg hlA
          go_wp2_with fail
          have HRAd : Hid (BRow w9'.drew (some ⟨b, off, none⟩) nA lA) := HRA.out
          have HRTd : Hid (BRow w9'.drew aT nT lT) := HRT.out
          have HRUd : Hid (BRow w9'.drew aU nU lU) := HRU.out
          refine wp_region_held_drew (S := fun _ => True) (by kernel_rfl) trivial (fun hHeld => ?_)
          refine wpAnyH_take (i := 0) (oi := ?o196) (v := ?v196) ?i196 (by kernel_rfl) (by kernel_rfl) (by kernel_rfl) ?q196 ?y196 (trivial) ?r196
          case i196 => exact rfl
          case q196 => exact (fun _ _ _ h => h)
          case y196 =>
            refine Or.inl ⟨by rfl, ?_⟩
            intro w hSw
            go_simp
            first | done | rfl
          try simp only [Act.put, List.getElem_toArray, List.getElem_cons_zero, List.getElem_cons_succ, List.setIfInBounds_toArray, List.set_cons_zero, List.set_cons_succ]
          refine wpAnyH_take (i := 1) (oi := ?o197) (v := ?v197) ?i197 (by kernel_rfl) (by kernel_rfl) (by kernel_rfl) ?q197 ?y197 (trivial) ?r197
          case i197 => exact rfl
          case q197 => exact (fun _ _ _ h => h)
          case y197 =>
            refine Or.inl ⟨by rfl, ?_⟩
            intro w hSw
            go_simp
            first | done | rfl
          try simp only [Act.put, List.getElem_toArray, List.getElem_cons_zero, List.getElem_cons_succ, List.setIfInBounds_toArray, List.set_cons_zero, List.set_cons_succ]
          refine wpAnyH_take (i := 2) (oi := ?o198) (v := ?v198) ?i198 (by kernel_rfl) (by kernel_rfl) (by kernel_rfl) ?q198 ?y198 (trivial) ?r198
          case i198 => exact rfl
          case q198 => exact (fun _ _ _ h => h)
          case y198 =>
            refine Or.inl ⟨by rfl, ?_⟩
            intro w hSw
            go_simp
            first | done | rfl
          try simp only [Act.put, List.getElem_toArray, List.getElem_cons_zero, List.getElem_cons_succ, List.setIfInBounds_toArray, List.set_cons_zero, List.set_cons_succ]
          refine wpAnyH_take (i := 3) (oi := ?o199) (v := ?v199) ?i199 (by kernel_rfl) (by kernel_rfl) (by kernel_rfl) ?q199 ?y199 (trivial) ?r199
          case i199 => exact rfl
          case q199 => exact (fun _ _ _ h => h)
          case y199 =>
            refine Or.inl ⟨by rfl, ?_⟩
            intro w hSw
            go_simp
            first | done | rfl
          try simp only [Act.put, List.getElem_toArray, List.getElem_cons_zero, List.getElem_cons_succ, List.setIfInBounds_toArray, List.set_cons_zero, List.set_cons_succ]
          refine wpAnyH_take (i := 4) (oi := ?o200) (v := ?v200) ?i200 (by kernel_rfl) (by kernel_rfl) (by kernel_rfl) ?q200 ?y200 (trivial) ?r200
          case i200 => exact rfl
          case q200 => exact (fun _ _ _ h => h)
          case y200 =>
            refine Or.inl ⟨by rfl, ?_⟩
            intro w hSw
            go_simp
            first | done | rfl
          try simp only [Act.put, List.getElem_toArray, List.getElem_cons_zero, List.getElem_cons_succ, List.setIfInBounds_toArray, List.set_cons_zero, List.set_cons_succ]
          refine wpAnyH_take (i := 5) (oi := ?o201) (v := ?v201) ?i201 (by kernel_rfl) (by kernel_rfl) (by kernel_rfl) ?q201 ?y201 (trivial) ?r201
          case i201 => exact rfl
          case q201 => exact (fun _ _ _ h => h)
          case y201 =>
            refine Or.inl ⟨by rfl, ?_⟩
            intro w hSw
            go_simp
            first | done | rfl
          try simp only [Act.put, List.getElem_toArray, List.getElem_cons_zero, List.getElem_cons_succ, List.setIfInBounds_toArray, List.set_cons_zero, List.set_cons_succ]
          refine wpAnyH_take (i := 6) (oi := ?o202) (v := ?v202) ?i202 (by kernel_rfl) (by kernel_rfl) (by kernel_rfl) ?q202 ?y202 (trivial) ?r202
          case i202 => exact rfl
          case q202 => exact (fun _ _ _ h => h)
          case y202 =>
            refine Or.inl ⟨by rfl, ?_⟩
            intro w hSw
            go_simp
            first | done | rfl
          try simp only [Act.put, List.getElem_toArray, List.getElem_cons_zero, List.getElem_cons_succ, List.setIfInBounds_toArray, List.set_cons_zero, List.set_cons_succ]
          refine wpAnyH_take (i := 8) (oi := ?o203) (v := ?v203) ?i203 (by kernel_rfl) (by kernel_rfl) (by kernel_rfl) ?q203 ?y203 (trivial) ?r203
          case i203 => exact rfl
          case q203 => exact (fun _ _ _ h => h)
          case y203 =>
            refine Or.inl ⟨by rfl, ?_⟩
            intro w hSw
            go_simp
            first | done | rfl
          try simp only [Act.put, List.getElem_toArray, List.getElem_cons_zero, List.getElem_cons_succ, List.setIfInBounds_toArray, List.set_cons_zero, List.set_cons_succ]
          refine wpAnyH_take (i := 9) (oi := ?o204) (v := ?v204) ?i204 (by kernel_rfl) (by kernel_rfl) (by kernel_rfl) ?q204 ?y204 (trivial) ?r204
          case i204 => exact rfl
          case q204 => exact (fun _ _ _ h => h)
          case y204 =>
            refine Or.inl ⟨by rfl, ?_⟩
            intro w hSw
            go_simp
            first | done | rfl
          try simp only [Act.put, List.getElem_toArray, List.getElem_cons_zero, List.getElem_cons_succ, List.setIfInBounds_toArray, List.set_cons_zero, List.set_cons_succ]
          refine wpAnyH_take (i := 10) (oi := ?o205) (v := ?v205) ?i205 (by kernel_rfl) (by kernel_rfl) (by kernel_rfl) ?q205 ?y205 (trivial) ?r205
          case i205 => exact rfl
          case q205 => exact (fun _ _ _ h => h)
          case y205 =>
            refine Or.inl ⟨by rfl, ?_⟩
            intro w hSw
            go_simp
            first | done | rfl
          try simp only [Act.put, List.getElem_toArray, List.getElem_cons_zero, List.getElem_cons_succ, List.setIfInBounds_toArray, List.set_cons_zero, List.set_cons_succ]
          refine wpAnyH_ready (rs := [7]) (by kernel_rfl) (by simp) ?_
          refine AllReadyH.cons (i := 7) (o := ?o206) ?i206 (fun K hK => ?_) AllReadyH.nil
          case i206 => exact rfl
          go_simp
          (with_reducible refine (hput.out _ HRAd.out).mono ?_)
          rintro e wP ⟨aP, cP, rfl, rP, bP⟩
          have rTP : Hid (BRow wP aT nT lT) := BRow.below (w := w9'.drew) HRTd.out bP
          have rUP : Hid (BRow wP aU nU lU) := BRow.below (w := w9'.drew) HRUd.out bP
          have rAP : Hid (BRow wP (some ⟨b, off, none⟩) nA lA) := BRow.below (w := w9'.drew) HRAd.out bP
          have HRP : Hid (BRow wP aP (f + pk.length) (lA.take f ++ pk)) := rP
          have HBP : Hid (Below w.heap.size w wP) := hB9.drew.trans (bP.mono hB9.size)
          clear rP bP
          go_wp2_with fail
          refine hK.out _ _ (trivial) (fun hHeld => ?_)
          clear hK K
          try simp only [Act.put, List.getElem_toArray, List.getElem_cons_zero, List.getElem_cons_succ, List.setIfInBounds_toArray, List.set_cons_zero, List.set_cons_succ]
          refine wpAnyH_ready (rs := [11]) (by kernel_rfl) (by simp) ?_
          refine AllReadyH.cons (i := 11) (o := ?o207) ?i207 (fun K hK => ?_) AllReadyH.nil
          case i207 => exact rfl
          go_simp
          (with_reducible refine (hsm2.out _ _ _ HRP.out rAP.out).mono ?_)
          rintro e wq ⟨rfl, rfl⟩
          go_wp2_with fail
          refine hK.out _ _ (trivial) (fun hHeld => ?_)
          clear hK K
          try simp only [Act.put, List.getElem_toArray, List.getElem_cons_zero, List.getElem_cons_succ, List.setIfInBounds_toArray, List.set_cons_zero, List.set_cons_succ]
          refine wpAnyH_take (i := 12) (oi := ?o208) (v := ?v208) ?i208 (by kernel_rfl) (by kernel_rfl) (by kernel_rfl) ?q208 ?y208 (trivial) ?r208
          case i208 => exact rfl
          case q208 => exact (fun _ _ _ h => h)
          case y208 =>
            refine Or.inl ⟨by rfl, ?_⟩
            intro w hSw
            go_simp
            first | done | rfl
          try simp only [Act.put, List.getElem_toArray, List.getElem_cons_zero, List.getElem_cons_succ, List.setIfInBounds_toArray, List.set_cons_zero, List.set_cons_succ]
          refine wpAnyH_take (i := 13) (oi := ?o209) (v := ?v209) ?i209 (by kernel_rfl) (by kernel_rfl) (by kernel_rfl) ?q209 ?y209 (trivial) ?r209
          case i209 => exact rfl
          case q209 => exact (fun _ _ _ h => h)
          case y209 =>
            refine Or.inl ⟨by rfl, ?_⟩
            intro w hSw
            go_simp
            first | done | rfl
          try simp only [Act.put, List.getElem_toArray, List.getElem_cons_zero, List.getElem_cons_succ, List.setIfInBounds_toArray, List.set_cons_zero, List.set_cons_succ]
          refine wpAnyH_take (i := 14) (oi := ?o210) (v := ?v210) ?i210 (by kernel_rfl) (by kernel_rfl) (by kernel_rfl) ?q210 ?y210 (trivial) ?r210
          case i210 => exact rfl
          case q210 => exact (fun _ _ _ h => h)
          case y210 =>
            refine Or.inl ⟨by rfl, ?_⟩
            intro w hSw
            go_simp
            first | done | rfl
          try simp only [Act.put, List.getElem_toArray, List.getElem_cons_zero, List.getElem_cons_succ, List.setIfInBounds_toArray, List.set_cons_zero, List.set_cons_succ]
          refine wpAnyH_take (i := 16) (oi := ?o211) (v := ?v211) ?i211 (by kernel_rfl) (by kernel_rfl) (by kernel_rfl) ?q211 ?y211 (trivial) ?r211
          case i211 => exact rfl
          case q211 => exact (fun _ _ _ h => h)
          case y211 =>
            refine Or.inl ⟨by rfl, ?_⟩
            intro w hSw
            go_simp
            first | done | rfl
          try simp only [Act.put, List.getElem_toArray, List.getElem_cons_zero, List.getElem_cons_succ, List.setIfInBounds_toArray, List.set_cons_zero, List.set_cons_succ]
          refine wpAnyH_ready (rs := [15]) (by kernel_rfl) (by simp) ?_
          refine AllReadyH.cons (i := 15) (o := ?o212) ?i212 (fun K hK => ?_) AllReadyH.nil
          case i212 => exact rfl
          go_simp
          (with_reducible refine (hwwR.out _).mono ?_)
          rintro e wq ⟨rfl, rfl⟩
          go_wp2_with fail
          refine hK.out _ _ (trivial) (fun hHeld => ?_)
          clear hK K
          try simp only [Act.put, List.getElem_toArray, List.getElem_cons_zero, List.getElem_cons_succ, List.setIfInBounds_toArray, List.set_cons_zero, List.set_cons_succ]
          refine wpAnyH_take (i := 17) (oi := ?o213) (v := ?v213) ?i213 (by kernel_rfl) (by kernel_rfl) (by kernel_rfl) ?q213 ?y213 (trivial) ?r213
          case i213 => exact rfl
          case q213 => exact (fun _ _ _ h => h)
          case y213 =>
            refine Or.inl ⟨by rfl, ?_⟩
            intro w hSw
            go_simp
            first | done | rfl
          try simp only [Act.put, List.getElem_toArray, List.getElem_cons_zero, List.getElem_cons_succ, List.setIfInBounds_toArray, List.set_cons_zero, List.set_cons_succ]
          refine wpAnyH_take (i := 18) (oi := ?o214) (v := ?v214) ?i214 (by kernel_rfl) (by kernel_rfl) (by kernel_rfl) ?q214 ?y214 (trivial) ?r214
          case i214 => exact rfl
          case q214 => exact (fun _ _ _ h => h)
          case y214 =>
            refine Or.inl ⟨by rfl, ?_⟩
            intro w hSw
            go_simp
            first | done | rfl
          try simp only [Act.put, List.getElem_toArray, List.getElem_cons_zero, List.getElem_cons_succ, List.setIfInBounds_toArray, List.set_cons_zero, List.set_cons_succ]
          refine wpAnyH_take (i := 19) (oi := ?o215) (v := ?v215) ?i215 (by kernel_rfl) (by kernel_rfl) (by kernel_rfl) ?q215 ?y215 (trivial) ?r215
          case i215 => exact rfl
          case q215 => exact (fun _ _ _ h => h)
          case y215 =>
            refine Or.inl ⟨by rfl, ?_⟩
            intro w hSw
            go_simp
            first | done | rfl
          try simp only [Act.put, List.getElem_toArray, List.getElem_cons_zero, List.getElem_cons_succ, List.setIfInBounds_toArray, List.set_cons_zero, List.set_cons_succ]
          refine wpAnyH_take (i := 20) (oi := ?o216) (v := ?v216) ?i216 (by kernel_rfl) (by kernel_rfl) (by kernel_rfl) ?q216 ?y216 (trivial) ?r216
          case i216 => exact rfl
          case q216 => exact (fun _ _ _ h => h)
          case y216 =>
            refine Or.inl ⟨by rfl, ?_⟩
            intro w hSw
            go_simp
            first | done | rfl
          try simp only [Act.put, List.getElem_toArray, List.getElem_cons_zero, List.getElem_cons_succ, List.setIfInBounds_toArray, List.set_cons_zero, List.set_cons_succ]
          refine wpAnyH_take (i := 21) (oi := ?o217) (v := ?v217) ?i217 (by kernel_rfl) (by kernel_rfl) (by kernel_rfl) ?q217 ?y217 (trivial) ?r217
          case i217 => exact rfl
          case q217 => exact (fun _ _ _ h => h)
          case y217 =>
            refine Or.inl ⟨by rfl, ?_⟩
            intro w hSw
            go_simp
            first | done | rfl
          try simp only [Act.put, List.getElem_toArray, List.getElem_cons_zero, List.getElem_cons_succ, List.setIfInBounds_toArray, List.set_cons_zero, List.set_cons_succ]
          refine wpAnyH_take (i := 22) (oi := ?o218) (v := ?v218) ?i218 (by kernel_rfl) (by kernel_rfl) (by kernel_rfl) ?q218 ?y218 (trivial) ?r218
          case i218 => exact rfl
          case q218 => exact (fun _ _ _ h => h)
          case y218 =>
            refine Or.inl ⟨by rfl, ?_⟩
            intro w hSw
            go_simp
            first | done | rfl
          try simp only [Act.put, List.getElem_toArray, List.getElem_cons_zero, List.getElem_cons_succ, List.setIfInBounds_toArray, List.set_cons_zero, List.set_cons_succ]
          refine wpAnyH_take (i := 23) (oi := ?o219) (v := ?v219) ?i219 (by kernel_rfl) (by kernel_rfl) (by kernel_rfl) ?q219 ?y219 (trivial) ?r219
          case i219 => exact rfl
          case q219 => exact (fun _ _ _ h => h)
          case y219 =>
            refine Or.inl ⟨by rfl, ?_⟩
            intro w hSw
            go_simp
            first | done | rfl
          try simp only [Act.put, List.getElem_toArray, List.getElem_cons_zero, List.getElem_cons_succ, List.setIfInBounds_toArray, List.set_cons_zero, List.set_cons_succ]
          refine wpAnyH_take (i := 24) (oi := ?o220) (v := ?v220) ?i220 (by kernel_rfl) (by kernel_rfl) (by kernel_rfl) ?q220 ?y220 (trivial) ?r220
          case i220 => exact rfl
          case q220 => exact (fun _ _ _ h => h)
          case y220 =>
            refine Or.inl ⟨by rfl, ?_⟩
            intro w hSw
            go_simp
            first | done | rfl
          try simp only [Act.put, List.getElem_toArray, List.getElem_cons_zero, List.getElem_cons_succ, List.setIfInBounds_toArray, List.set_cons_zero, List.set_cons_succ]
          refine wpAnyH_take (i := 25) (oi := ?o221) (v := ?v221) ?i221 (by kernel_rfl) (by kernel_rfl) (by kernel_rfl) ?q221 ?y221 (trivial) ?r221
          case i221 => exact rfl
          case q221 => exact (fun _ _ _ h => h)
          case y221 =>
            refine Or.inl ⟨by rfl, ?_⟩
            intro w hSw
            go_simp
            first | done | rfl
          try simp only [Act.put, List.getElem_toArray, List.getElem_cons_zero, List.getElem_cons_succ, List.setIfInBounds_toArray, List.set_cons_zero, List.set_cons_succ]
          refine wpAnyH_take (i := 26) (oi := ?o222) (v := ?v222) ?i222 (by kernel_rfl) (by kernel_rfl) (by kernel_rfl) ?q222 ?y222 (trivial) ?r222
          case i222 => exact rfl
          case q222 => exact (fun _ _ _ h => h)
          case y222 =>
            refine Or.inl ⟨by rfl, ?_⟩
            intro w hSw
            go_simp
            first | done | rfl
          try simp only [Act.put, List.getElem_toArray, List.getElem_cons_zero, List.getElem_cons_succ, List.setIfInBounds_toArray, List.set_cons_zero, List.set_cons_succ]
          refine wpAnyH_take (i := 27) (oi := ?o223) (v := ?v223) ?i223 (by kernel_rfl) (by kernel_rfl) (by kernel_rfl) ?q223 ?y223 (trivial) ?r223
          case i223 => exact rfl
          case q223 => exact (fun _ _ _ h => h)
          case y223 =>
            refine Or.inl ⟨by rfl, ?_⟩
            intro w hSw
            go_simp
            first | done | rfl
          try simp only [Act.put, List.getElem_toArray, List.getElem_cons_zero, List.getElem_cons_succ, List.setIfInBounds_toArray, List.set_cons_zero, List.set_cons_succ]
          refine wpAnyH_take (i := 29) (oi := ?o224) (v := ?v224) ?i224 (by kernel_rfl) (by kernel_rfl) (by kernel_rfl) ?q224 ?y224 (trivial) ?r224
          case i224 => exact rfl
          case q224 => exact (fun _ _ _ h => h)
          case y224 =>
            refine Or.inl ⟨by rfl, ?_⟩
            intro w hSw
            go_simp
            first | done | rfl
          try simp only [Act.put, List.getElem_toArray, List.getElem_cons_zero, List.getElem_cons_succ, List.setIfInBounds_toArray, List.set_cons_zero, List.set_cons_succ]
          refine wpAnyH_ready (rs := [28]) (by kernel_rfl) (by simp) ?_
          refine AllReadyH.cons (i := 28) (o := ?o225) ?i225 (fun K hK => ?_) AllReadyH.nil
          case i225 => exact rfl
          go_simp
          (with_reducible refine (hsTR.out _ rTP.out).mono ?_)
          rintro e wq ⟨rfl, rfl⟩
          go_wp2_with fail
          refine hK.out _ _ (trivial) (fun hHeld => ?_)
          clear hK K
          try simp only [Act.put, List.getElem_toArray, List.getElem_cons_zero, List.getElem_cons_succ, List.setIfInBounds_toArray, List.set_cons_zero, List.set_cons_succ]
          refine wpAnyH_ready (rs := [30]) (by kernel_rfl) (by simp) ?_
          refine AllReadyH.cons (i := 30) (o := ?o226) ?i226 (fun K hK => ?_) AllReadyH.nil
          case i226 => exact rfl
          go_simp
          (with_reducible refine (hsUR.out _ rUP.out).mono ?_)
          rintro e wq ⟨rfl, rfl⟩
          go_wp2_with fail
          refine hK.out _ _ (trivial) (fun hHeld => ?_)
          clear hK K
          try simp only [Act.put, List.getElem_toArray, List.getElem_cons_zero, List.getElem_cons_succ, List.setIfInBounds_toArray, List.set_cons_zero, List.set_cons_succ]
          refine wpAnyH_take (i := 31) (oi := ?o227) (v := ?v227) ?i227 (by kernel_rfl) (by kernel_rfl) (by kernel_rfl) ?q227 ?y227 (trivial) ?r227
          case i227 => exact rfl
          case q227 => exact (fun _ _ _ h => h)
          case y227 =>
            refine Or.inl ⟨by rfl, ?_⟩
            intro w hSw
            go_simp
            first | done | rfl
          try simp only [Act.put, List.getElem_toArray, List.getElem_cons_zero, List.getElem_cons_succ, List.setIfInBounds_toArray, List.set_cons_zero, List.set_cons_succ]
          refine wpAnyH_take (i := 32) (oi := ?o228) (v := ?v228) ?i228 (by kernel_rfl) (by kernel_rfl) (by kernel_rfl) ?q228 ?y228 (trivial) ?r228
          case i228 => exact rfl
          case q228 => exact (fun _ _ _ h => h)
          case y228 =>
            refine Or.inl ⟨by rfl, ?_⟩
            intro w hSw
            go_simp
            first | done | rfl
          try simp only [Act.put, List.getElem_toArray, List.getElem_cons_zero, List.getElem_cons_succ, List.setIfInBounds_toArray, List.set_cons_zero, List.set_cons_succ]
          refine wpAnyH_take (i := 33) (oi := ?o229) (v := ?v229) ?i229 (by kernel_rfl) (by kernel_rfl) (by kernel_rfl) ?q229 ?y229 (trivial) ?r229
          case i229 => exact rfl
          case q229 => exact (fun _ _ _ h => h)
          case y229 =>
            refine Or.inl ⟨by rfl, ?_⟩
            intro w hSw
            go_simp
            first | done | rfl
          try simp only [Act.put, List.getElem_toArray, List.getElem_cons_zero, List.getElem_cons_succ, List.setIfInBounds_toArray, List.set_cons_zero, List.set_cons_succ]
          refine wpAnyH_take (i := 34) (oi := ?o230) (v := undef) ?i230 (by kernel_rfl) (by kernel_rfl) (by kernel_rfl) ?q230 ?y230 (trivial) ?r230
          case i230 => exact rfl
          case q230 => exact (fun _ _ _ h => h)
          case y230 => exact Or.inr ⟨by rfl, rfl⟩
          try simp only [Act.put, List.getElem_toArray, List.getElem_cons_zero, List.getElem_cons_succ, List.setIfInBounds_toArray, List.set_cons_zero, List.set_cons_succ]
          refine wpAnyH_take (i := 35) (oi := ?o231) (v := undef) ?i231 (by kernel_rfl) (by kernel_rfl) (by kernel_rfl) ?q231 ?y231 (trivial) ?r231
          case i231 => exact rfl
          case q231 => exact (fun _ _ _ h => h)
          case y231 => exact Or.inr ⟨by rfl, rfl⟩
          try simp only [Act.put, List.getElem_toArray, List.getElem_cons_zero, List.getElem_cons_succ, List.setIfInBounds_toArray, List.set_cons_zero, List.set_cons_succ]
          refine wpAnyH_take (i := 36) (oi := ?o232) (v := undef) ?i232 (by kernel_rfl) (by kernel_rfl) (by kernel_rfl) ?q232 ?y232 (trivial) ?r232
          case i232 => exact rfl
          case q232 => exact (fun _ _ _ h => h)
          case y232 => exact Or.inr ⟨by rfl, rfl⟩
          try simp only [Act.put, List.getElem_toArray, List.getElem_cons_zero, List.getElem_cons_succ, List.setIfInBounds_toArray, List.set_cons_zero, List.set_cons_succ]
          refine wpAnyH_take (i := 37) (oi := ?o233) (v := ?v233) ?i233 (by kernel_rfl) (by kernel_rfl) (by kernel_rfl) ?q233 ?y233 (trivial) ?r233
          case i233 => exact rfl
          case q233 => exact (fun _ _ _ h => h)
          case y233 =>
            refine Or.inl ⟨by rfl, ?_⟩
            intro w hSw
            go_simp
            first | done | rfl
          try simp only [Act.put, List.getElem_toArray, List.getElem_cons_zero, List.getElem_cons_succ, List.setIfInBounds_toArray, List.set_cons_zero, List.set_cons_succ]
          refine wpAnyH_take (i := 38) (oi := ?o234) (v := ?v234) ?i234 (by kernel_rfl) (by kernel_rfl) (by kernel_rfl) ?q234 ?y234 (trivial) ?r234
          case i234 => exact rfl
          case q234 => exact (fun _ _ _ h => h)
          case y234 =>
            refine Or.inl ⟨by rfl, ?_⟩
            intro w hSw
            go_simp
            first | done | rfl
          try simp only [Act.put, List.getElem_toArray, List.getElem_cons_zero, List.getElem_cons_succ, List.setIfInBounds_toArray, List.set_cons_zero, List.set_cons_succ]
          refine wpAnyH_done (by kernel_rfl) ?_ _
          go_wp2_with fail
          go_ret
          exact ⟨rfl, HBP.out⟩
  · clear HG HM HX
    go_wp2_with fail
    refine (drawPutTextM _ _ _ code _ (hr.below hB4) hlen).mono ?_
    rintro e w5 ⟨aC, nC, cC, lC, aT, nT, cT, lT, rfl, hnC, hnT, mC, mT⟩
    have hB5 : Below w.heap.size w w5 := hB4.trans (mC.below.mono hB4.size)
    have rC := mC.row
    have rT := mT.row
    have HLC : Hid _ := mC.row.1
    have HLT : Hid _ := mT.row.1
    clear mC mT hB4
    go_wp2_with fail
    refine (implTextM _ _ _ lC _ _ _ lT _ rC rT (by omega) (by omega)).mono ?_
    rintro e w6 ⟨aY, cY, rfl, mY⟩
    have hB6 : Below w.heap.size w w6 := hB5.trans (mY.below.mono hB5.size)
    replace rT := rT.below mY.below
    have rY := mY.row
    have kY := mY.cap
    have kY2 := mY.most
    have hle := textL_le lT
    clear mY hB5 rC
    obtain ⟨tx, htx⟩ : ∃ x, x = textL lT := ⟨_, rfl⟩
    rw [← htx] at rY kY hle ⊢
    have HTX : Hid _ := htx
    clear htx
    go_wp2_with fail
    refine (implTextGetM _ _ _ (lC ++ tx) (nC : Int) _ rY (by omega) kY kY2).mono ?_
    have hgt : nT ≤ 40 → getT (lC ++ tx) (nC : Int) = (lT, (nC : Int) + (tx.length : Int)) := by
      intro h40
      rw [HTX.out, ← HLC.out]
      exact getT_put lC lT (by rw [HLT.out]; exact h40)
    have HGT : Hid _ := hgt
    clear hgt
    obtain ⟨lU, hlU⟩ : ∃ x, x = (getT (lC ++ tx) (nC : Int)).1 := ⟨_, rfl⟩
    obtain ⟨en, hen⟩ : ∃ x, x = (getT (lC ++ tx) (nC : Int)).2 := ⟨_, rfl⟩
    rw [← hlU, ← hen]
    rintro e w7 ⟨aU, nU, cU, rfl, mU⟩
    have HLU : Hid _ := hlU
    have HEN : Hid _ := hen
    clear hlU hen
    have hB7 : Below w.heap.size w w7 := hB6.trans (mU.below.mono hB6.size)
    replace rT := rT.below mU.below
    have rU := mU.row
    have hnU : nU ≤ 40 := by
      have h1 := mU.row.1
      have h2 := getT_len (lC ++ tx) (nC : Int) rY.2.1
      rw [← HLU.out] at h2
      omega
    clear mU hB6 rY kY kY2
    by_cases h40 : nT ≤ 40
    · have e1 : lU = lT := by rw [HLU.out, HGT.out h40]
      have e2 : en = (nC : Int) + (tx.length : Int) := by rw [HEN.out, HGT.out h40]
      have t3 : (en != (nC : Int) + (tx.length : Int)) = false := by simp [e2]
      have hsame : decide (lU = lT) = true := by simp [e1]
      have HS : Hid _ := e1
      clear e1 e2 HGT HLU HEN
      go_wp2_with fail
      refine (sameM _ _ _ lU _ _ _ lT _ rU rT).mono ?_
      rintro e w7' ⟨rfl, rfl⟩
      rw [hsame]
      clear hsame
      go_wp2_with fail
      refine (drawGetNumM _ _ _ code _ (hr.below hB7) hlen).mono ?_
      rintro e w8 ⟨aA, nA, cA, lA, fr, rfl, hnA, hfr, mA⟩
      have hB8 : Below w.heap.size w w8 := hB7.trans (mA.below.mono hB7.size)
      replace rT := rT.below mA.below
      replace rU := rU.below mA.below
      have rA := mA.row
      have kA := mA.cap
      have kA2 := mA.most
      clear mA hB7
      go_wp2_with fail
      refine (implGetM _ _ _ lA fr _ rA (by omega) kA kA2).mono ?_
      have hpg := put_get lA fr rA.2.1
      obtain ⟨k, hk⟩ : ∃ x, x = (getL lA fr).1 := ⟨_, rfl⟩
      obtain ⟨st, hst⟩ : ∃ x, x = (getL lA fr).2 := ⟨_, rfl⟩
      rw [← hk, ← hst] at hpg ⊢
      rintro e w9 ⟨rfl, b9⟩
      have HPG : Hid _ := hpg
      clear hk hst hpg
      have hB9 : Below w.heap.size w w9 := hB8.trans (b9.mono hB8.size)
      replace rT := rT.below b9
      replace rU := rU.below b9
      replace rA := rA.below b9
      clear b9 hB8
      unfold maxLen at kA2
      go_wp2_with fail
      refine (wrapM n _).mono ?_
      rintro e w9' ⟨rfl, rfl⟩
      have hwb := w32_bd n
      have hwm1 := w32_mod1 n
      have hwm2 := w32_mod2 n hfn
      have hwm3 := w32_mod3 n hfn
      have hww : Hid (∀ wx : World, Calls Try.prog 12 #[.int .i64 (w32 n)] wx fun e w' => e = .returned (.int .i64 (w32 n)) ∧ w' = wx) := by
        intro wx
        refine (wrapM (w32 n) wx).mono ?_
        rintro e w' ⟨rfl, rfl⟩
        exact ⟨ret_int (w32_w32 n), rfl⟩
      generalize w32 n = W at *
      have hsT : Hid (∀ wx : World, BRow wx aT nT lT → Calls Try.prog 13 #[.slice aT nT cT] wx fun e w' => e = .returned (.int .i64 (sumTo lT nT)) ∧ w' = wx) := by
        intro wx hx
        refine (implSum aT nT cT lT wx hx (by omega)).mono ?_
        rintro e w' ⟨rfl, rfl⟩
        exact ⟨rfl, rfl⟩
      have hsU : Hid (∀ wx : World, BRow wx aU nU lU → Calls Try.prog 13 #[.slice aU nU cU] wx fun e w' => e = .returned (.int .i64 (sumTo lU nU)) ∧ w' = wx) := by
        intro wx hx
        refine (implSum aU nU cU lU wx hx (by omega)).mono ?_
        rintro e w' ⟨rfl, rfl⟩
        exact ⟨rfl, rfl⟩
      have HRT : Hid (BRow w9' aT nT lT) := rT
      have HRU : Hid (BRow w9' aU nU lU) := rU
      have hsum : sumTo lT nT = sumTo lU nU := by
        have h1 := rT.1
        have h2 := rU.1
        rw [HS.out] at h2
        rw [HS.out, ← h1, ← h2]
      generalize sumTo lT nT = S1 at *
      generalize sumTo lU nU = S2 at *
      have dsum : (S1 == S2) = true := by simpa using hsum
      clear hsum rT rU
      by_cases hneg : st < 0
      · have dneg : decide (st < 0) = true := by simpa using hneg
        clear HPG rA
        go_wp2_with fail
        go_quiet ((first | (go_at_call 12; exact Calls.quiet_of_same (hww.out _)) | (go_at_call_of 13 (Value.slice aT nT cT); exact Calls.quiet_of_same (hsT.out _ HRT.out)) | (go_at_call_of 13 (Value.slice aU nU cU); exact Calls.quiet_of_same (hsU.out _ HRU.out))))
        go_wp2
        go_ret
        exact ⟨rfl, below_drewN hB9 _⟩
      · obtain ⟨p1, p2, p3, p4, p5, p6⟩ := HPG.out (by omega)
        obtain ⟨f, rfl⟩ := Int.eq_ofNat_of_zero_le p1
        obtain ⟨s, rfl⟩ := Int.eq_ofNat_of_zero_le (show 0 ≤ st by omega)
        have hlA := rA.1
        rw [hlA] at p2 p5
        rw [Int.toNat_natCast, Int.toNat_natCast] at p3
        obtain ⟨b, off, haA, _⟩ := rA.2.2 (by omega)
        subst haA
        obtain ⟨pk, hpk⟩ : ∃ x, x = putL k := ⟨_, rfl⟩
        have hpkl := putL_len k
        rw [← hpk] at p3 hpkl
        have hput : Hid (∀ wx : World, BRow wx (some ⟨b, off, none⟩) nA lA → Calls Try.prog 5 #[.slice (some ⟨b, off, none⟩) f cA, .int .i64 k] wx fun e w' => ∃ aP cP, e = .returned (.slice aP (f + pk.length) cP) ∧ BRow w' aP (f + pk.length) (lA.take f ++ pk) ∧ Below wx.heap.size wx w') := by
          intro wx hx
          refine (implPutM _ f cA (lA.take f) k wx (hx.head (by omega)) (by omega)).mono ?_
          rw [← hpk]
          rintro e w' ⟨aP, cP, rfl, mP⟩
          exact ⟨aP, cP, rfl, mP.row, mP.below⟩
        have hsm2 : Hid (∀ (wx : World) (aP : Option Addr) (cP : Nat), BRow wx aP (f + pk.length) (lA.take f ++ pk) → BRow wx (some ⟨b, off, none⟩) nA lA → Calls Try.prog 10 #[.slice aP (f + pk.length) cP, .slice (some ⟨b, off, none⟩) s cA] wx fun e w' => e = .returned (.bool true) ∧ wx = w') := by
          intro wx aP cP h1 h2
          refine (sameM _ _ _ _ _ _ _ (lA.take s) wx h1 (h2.head (by omega))).mono ?_
          rintro e w' ⟨rfl, rfl⟩
          exact ⟨by rw [decide_eq_true p3], rfl⟩
        have hwwR : Hid (∀ wx : World, Calls Try.prog 12 #[.int .i64 W] wx fun e w' => e = .returned (.int .i64 W) ∧ wx = w') := fun wx => (hww.out wx).mono (fun e w' h => ⟨h.1, h.2.symm⟩)
        have hsTR : Hid (∀ wx : World, BRow wx aT nT lT → Calls Try.prog 13 #[.slice aT nT cT] wx fun e w' => e = .returned (.int .i64 S1) ∧ wx = w') := fun wx hx => (hsT.out wx hx).mono (fun e w' h => ⟨h.1, h.2.symm⟩)
        have hsUR : Hid (∀ wx : World, BRow wx aU nU lU → Calls Try.prog 13 #[.slice aU nU cU] wx fun e w' => e = .returned (.int .i64 S2) ∧ wx = w') := fun wx hx => (hsU.out wx hx).mono (fun e w' h => ⟨h.1, h.2.symm⟩)
        have HRA : Hid (BRow w9' (some ⟨b, off, none⟩) nA lA) := rA
        have hfc : f ≤ cA := by omega
        have hsc : s ≤ cA := by omega
        have hs0 : ¬ (s : Int) < 0 := by omega
        clear hww hsT hsU HPG rA p3 hpk hpkl hneg hlA
        go_wp2_with fail
        have HRAd : Hid (BRow w9'.drew (some ⟨b, off, none⟩) nA lA) := HRA.out
        have HRTd : Hid (BRow w9'.drew aT nT lT) := HRT.out
        have HRUd : Hid (BRow w9'.drew aU nU lU) := HRU.out
        refine wp_region_held_drew (S := fun _ => True) (by kernel_rfl) trivial (fun hHeld => ?_)
        refine wpAnyH_take (i := 0) (oi := ?o235) (v := ?v235) ?i235 (by kernel_rfl) (by kernel_rfl) (by kernel_rfl) ?q235 ?y235 (trivial) ?r235
        case i235 => exact rfl
        case q235 => exact (fun _ _ _ h => h)
        case y235 =>
          refine Or.inl ⟨by rfl, ?_⟩
          intro w hSw
          go_simp
          first | done | rfl
        try simp only [Act.put, List.getElem_toArray, List.getElem_cons_zero, List.getElem_cons_succ, List.setIfInBounds_toArray, List.set_cons_zero, List.set_cons_succ]
        refine wpAnyH_take (i := 1) (oi := ?o236) (v := ?v236) ?i236 (by kernel_rfl) (by kernel_rfl) (by kernel_rfl) ?q236 ?y236 (trivial) ?r236
        case i236 => exact rfl
        case q236 => exact (fun _ _ _ h => h)
        case y236 =>
          refine Or.inl ⟨by rfl, ?_⟩
          intro w hSw
          go_simp
          first | done | rfl
        try simp only [Act.put, List.getElem_toArray, List.getElem_cons_zero, List.getElem_cons_succ, List.setIfInBounds_toArray, List.set_cons_zero, List.set_cons_succ]
        refine wpAnyH_take (i := 2) (oi := ?o237) (v := ?v237) ?i237 (by kernel_rfl) (by kernel_rfl) (by kernel_rfl) ?q237 ?y237 (trivial) ?r237
        case i237 => exact rfl
        case q237 => exact (fun _ _ _ h => h)
        case y237 =>
          refine Or.inl ⟨by rfl, ?_⟩
          intro w hSw
          go_simp
          first | done | rfl
        try simp only [Act.put, List.getElem_toArray, List.getElem_cons_zero, List.getElem_cons_succ, List.setIfInBounds_toArray, List.set_cons_zero, List.set_cons_succ]
        refine wpAnyH_take (i := 3) (oi := ?o238) (v := ?v238) ?i238 (by kernel_rfl) (by kernel_rfl) (by kernel_rfl) ?q238 ?y238 (trivial) ?r238
        case i238 => exact rfl
        case q238 => exact (fun _ _ _ h => h)
        case y238 =>
          refine Or.inl ⟨by rfl, ?_⟩
          intro w hSw
          go_simp
          first | done | rfl
        try simp only [Act.put, List.getElem_toArray, List.getElem_cons_zero, List.getElem_cons_succ, List.setIfInBounds_toArray, List.set_cons_zero, List.set_cons_succ]
        refine wpAnyH_take (i := 4) (oi := ?o239) (v := ?v239) ?i239 (by kernel_rfl) (by kernel_rfl) (by kernel_rfl) ?q239 ?y239 (trivial) ?r239
        case i239 => exact rfl
        case q239 => exact (fun _ _ _ h => h)
        case y239 =>
          refine Or.inl ⟨by rfl, ?_⟩
          intro w hSw
          go_simp
          first | done | rfl
        try simp only [Act.put, List.getElem_toArray, List.getElem_cons_zero, List.getElem_cons_succ, List.setIfInBounds_toArray, List.set_cons_zero, List.set_cons_succ]
        refine wpAnyH_take (i := 5) (oi := ?o240) (v := ?v240) ?i240 (by kernel_rfl) (by kernel_rfl) (by kernel_rfl) ?q240 ?y240 (trivial) ?r240
        case i240 => exact rfl
        case q240 => exact (fun _ _ _ h => h)
        case y240 =>
          refine Or.inl ⟨by rfl, ?_⟩
          intro w hSw
          go_simp
          first | done | rfl
        try simp only [Act.put, List.getElem_toArray, List.getElem_cons_zero, List.getElem_cons_succ, List.setIfInBounds_toArray, List.set_cons_zero, List.set_cons_succ]
        refine wpAnyH_take (i := 6) (oi := ?o241) (v := ?v241) ?i241 (by kernel_rfl) (by kernel_rfl) (by kernel_rfl) ?q241 ?y241 (trivial) ?r241
        case i241 => exact rfl
        case q241 => exact (fun _ _ _ h => h)
        case y241 =>
          refine Or.inl ⟨by rfl, ?_⟩
          intro w hSw
          go_simp
          first | done | rfl
        try simp only [Act.put, List.getElem_toArray, List.getElem_cons_zero, List.getElem_cons_succ, List.setIfInBounds_toArray, List.set_cons_zero, List.set_cons_succ]
        refine wpAnyH_take (i := 8) (oi := ?o242) (v := ?v242) ?i242 (by kernel_rfl) (by kernel_rfl) (by kernel_rfl) ?q242 ?y242 (trivial) ?r242
        case i242 => exact rfl
        case q242 => exact (fun _ _ _ h => h)
        case y242 =>
          refine Or.inl ⟨by rfl, ?_⟩
          intro w hSw
          go_simp
          first | done | rfl
        try simp only [Act.put, List.getElem_toArray, List.getElem_cons_zero, List.getElem_cons_succ, List.setIfInBounds_toArray, List.set_cons_zero, List.set_cons_succ]
        refine wpAnyH_take (i := 9) (oi := ?o243) (v := ?v243) ?i243 (by kernel_rfl) (by kernel_rfl) (by kernel_rfl) ?q243 ?y243 (trivial) ?r243
        case i243 => exact rfl
        case q243 => exact (fun _ _ _ h => h)
        case y243 =>
          refine Or.inl ⟨by rfl, ?_⟩
          intro w hSw
          go_simp
          first | done | rfl
        try simp only [Act.put, List.getElem_toArray, List.getElem_cons_zero, List.getElem_cons_succ, List.setIfInBounds_toArray, List.set_cons_zero, List.set_cons_succ]
        refine wpAnyH_take (i := 10) (oi := ?o244) (v := ?v244) ?i244 (by kernel_rfl) (by kernel_rfl) (by kernel_rfl) ?q244 ?y244 (trivial) ?r244
        case i244 => exact rfl
        case q244 => exact (fun _ _ _ h => h)
        case y244 =>
          refine Or.inl ⟨by rfl, ?_⟩
          intro w hSw
          go_simp
          first | done | rfl
        try simp only [Act.put, List.getElem_toArray, List.getElem_cons_zero, List.getElem_cons_succ, List.setIfInBounds_toArray, List.set_cons_zero, List.set_cons_succ]
        refine wpAnyH_ready (rs := [7]) (by kernel_rfl) (by simp) ?_
        refine AllReadyH.cons (i := 7) (o := ?o245) ?i245 (fun K hK => ?_) AllReadyH.nil
        case i245 => exact rfl
        go_simp
        (with_reducible refine (hput.out _ HRAd.out).mono ?_)
        rintro e wP ⟨aP, cP, rfl, rP, bP⟩
        have rTP : Hid (BRow wP aT nT lT) := BRow.below (w := w9'.drew) HRTd.out bP
        have rUP : Hid (BRow wP aU nU lU) := BRow.below (w := w9'.drew) HRUd.out bP
        have rAP : Hid (BRow wP (some ⟨b, off, none⟩) nA lA) := BRow.below (w := w9'.drew) HRAd.out bP
        have HRP : Hid (BRow wP aP (f + pk.length) (lA.take f ++ pk)) := rP
        have HBP : Hid (Below w.heap.size w wP) := hB9.drew.trans (bP.mono hB9.size)
        clear rP bP
        go_wp2_with fail
        refine hK.out _ _ (trivial) (fun hHeld => ?_)
        clear hK K
        try simp only [Act.put, List.getElem_toArray, List.getElem_cons_zero, List.getElem_cons_succ, List.setIfInBounds_toArray, List.set_cons_zero, List.set_cons_succ]
        refine wpAnyH_ready (rs := [11]) (by kernel_rfl) (by simp) ?_
        refine AllReadyH.cons (i := 11) (o := ?o246) ?i246 (fun K hK => ?_) AllReadyH.nil
        case i246 => exact rfl
        go_simp
        (with_reducible refine (hsm2.out _ _ _ HRP.out rAP.out).mono ?_)
        rintro e wq ⟨rfl, rfl⟩
        go_wp2_with fail
        refine hK.out _ _ (trivial) (fun hHeld => ?_)
        clear hK K
        try simp only [Act.put, List.getElem_toArray, List.getElem_cons_zero, List.getElem_cons_succ, List.setIfInBounds_toArray, List.set_cons_zero, List.set_cons_succ]
        refine wpAnyH_take (i := 12) (oi := ?o247) (v := ?v247) ?i247 (by kernel_rfl) (by kernel_rfl) (by kernel_rfl) ?q247 ?y247 (trivial) ?r247
        case i247 => exact rfl
        case q247 => exact (fun _ _ _ h => h)
        case y247 =>
          refine Or.inl ⟨by rfl, ?_⟩
          intro w hSw
          go_simp
          first | done | rfl
        try simp only [Act.put, List.getElem_toArray, List.getElem_cons_zero, List.getElem_cons_succ, List.setIfInBounds_toArray, List.set_cons_zero, List.set_cons_succ]
        refine wpAnyH_take (i := 13) (oi := ?o248) (v := ?v248) ?i248 (by kernel_rfl) (by kernel_rfl) (by kernel_rfl) ?q248 ?y248 (trivial) ?r248
        case i248 => exact rfl
        case q248 => exact (fun _ _ _ h => h)
        case y248 =>
          refine Or.inl ⟨by rfl, ?_⟩
          intro w hSw
          go_simp
          first | done | rfl
        try simp only [Act.put, List.getElem_toArray, List.getElem_cons_zero, List.getElem_cons_succ, List.setIfInBounds_toArray, List.set_cons_zero, List.set_cons_succ]
        refine wpAnyH_take (i := 14) (oi := ?o249) (v := ?v249) ?i249 (by kernel_rfl) (by kernel_rfl) (by kernel_rfl) ?q249 ?y249 (trivial) ?r249
        case i249 => exact rfl
        case q249 => exact (fun _ _ _ h => h)
        case y249 =>
          refine Or.inl ⟨by rfl, ?_⟩
          intro w hSw
          go_simp
          first | done | rfl
        try simp only [Act.put, List.getElem_toArray, List.getElem_cons_zero, List.getElem_cons_succ, List.setIfInBounds_toArray, List.set_cons_zero, List.set_cons_succ]
        refine wpAnyH_take (i := 16) (oi := ?o250) (v := ?v250) ?i250 (by kernel_rfl) (by kernel_rfl) (by kernel_rfl) ?q250 ?y250 (trivial) ?r250
        case i250 => exact rfl
        case q250 => exact (fun _ _ _ h => h)
        case y250 =>
          refine Or.inl ⟨by rfl, ?_⟩
          intro w hSw
          go_simp
          first | done | rfl
        try simp only [Act.put, List.getElem_toArray, List.getElem_cons_zero, List.getElem_cons_succ, List.setIfInBounds_toArray, List.set_cons_zero, List.set_cons_succ]
        refine wpAnyH_ready (rs := [15]) (by kernel_rfl) (by simp) ?_
        refine AllReadyH.cons (i := 15) (o := ?o251) ?i251 (fun K hK => ?_) AllReadyH.nil
        case i251 => exact rfl
        go_simp
        (with_reducible refine (hwwR.out _).mono ?_)
        rintro e wq ⟨rfl, rfl⟩
        go_wp2_with fail
        refine hK.out _ _ (trivial) (fun hHeld => ?_)
        clear hK K
        try simp only [Act.put, List.getElem_toArray, List.getElem_cons_zero, List.getElem_cons_succ, List.setIfInBounds_toArray, List.set_cons_zero, List.set_cons_succ]
        refine wpAnyH_take (i := 17) (oi := ?o252) (v := ?v252) ?i252 (by kernel_rfl) (by kernel_rfl) (by kernel_rfl) ?q252 ?y252 (trivial) ?r252
        case i252 => exact rfl
        case q252 => exact (fun _ _ _ h => h)
        case y252 =>
          refine Or.inl ⟨by rfl, ?_⟩
          intro w hSw
          go_simp
          first | done | rfl
        try simp only [Act.put, List.getElem_toArray, List.getElem_cons_zero, List.getElem_cons_succ, List.setIfInBounds_toArray, List.set_cons_zero, List.set_cons_succ]
        refine wpAnyH_take (i := 18) (oi := ?o253) (v := ?v253) ?i253 (by kernel_rfl) (by kernel_rfl) (by kernel_rfl) ?q253 ?y253 (trivial) ?r253
        case i253 => exact rfl
        case q253 => exact (fun _ _ _ h => h)
        case y253 =>
          refine Or.inl ⟨by rfl, ?_⟩
          intro w hSw
          go_simp
          first | done | rfl
        try simp only [Act.put, List.getElem_toArray, List.getElem_cons_zero, List.getElem_cons_succ, List.setIfInBounds_toArray, List.set_cons_zero, List.set_cons_succ]
        refine wpAnyH_take (i := 19) (oi := ?o254) (v := ?v254) ?i254 (by kernel_rfl) (by kernel_rfl) (by kernel_rfl) ?q254 ?y254 (trivial) ?r254
        case i254 => exact rfl
        case q254 => exact (fun _ _ _ h => h)
        case y254 =>
          refine Or.inl ⟨by rfl, ?_⟩
          intro w hSw
          go_simp
          first | done | rfl
        try simp only [Act.put, List.getElem_toArray, List.getElem_cons_zero, List.getElem_cons_succ, List.setIfInBounds_toArray, List.set_cons_zero, List.set_cons_succ]
        refine wpAnyH_take (i := 20) (oi := ?o255) (v := ?v255) ?i255 (by kernel_rfl) (by kernel_rfl) (by kernel_rfl) ?q255 ?y255 (trivial) ?r255
        case i255 => exact rfl
        case q255 => exact (fun _ _ _ h => h)
        case y255 =>
          refine Or.inl ⟨by rfl, ?_⟩
          intro w hSw
          go_simp
          first | done | rfl
        try simp only [Act.put, List.getElem_toArray, List.getElem_cons_zero, List.getElem_cons_succ, List.setIfInBounds_toArray, List.set_cons_zero, List.set_cons_succ]
        refine wpAnyH_take (i := 21) (oi := ?o256) (v := ?v256) ?i256 (by kernel_rfl) (by kernel_rfl) (by kernel_rfl) ?q256 ?y256 (trivial) ?r256
        case i256 => exact rfl
        case q256 => exact (fun _ _ _ h => h)
        case y256 =>
          refine Or.inl ⟨by rfl, ?_⟩
          intro w hSw
          go_simp
          first | done | rfl
        try simp only [Act.put, List.getElem_toArray, List.getElem_cons_zero, List.getElem_cons_succ, List.setIfInBounds_toArray, List.set_cons_zero, List.set_cons_succ]
        refine wpAnyH_take (i := 22) (oi := ?o257) (v := ?v257) ?i257 (by kernel_rfl) (by kernel_rfl) (by kernel_rfl) ?q257 ?y257 (trivial) ?r257
        case i257 => exact rfl
        case q257 => exact (fun _ _ _ h => h)
        case y257 =>
          refine Or.inl ⟨by rfl, ?_⟩
          intro w hSw
          go_simp
          first | done | rfl
        try simp only [Act.put, List.getElem_toArray, List.getElem_cons_zero, List.getElem_cons_succ, List.setIfInBounds_toArray, List.set_cons_zero, List.set_cons_succ]
        refine wpAnyH_take (i := 23) (oi := ?o258) (v := ?v258) ?i258 (by kernel_rfl) (by kernel_rfl) (by kernel_rfl) ?q258 ?y258 (trivial) ?r258
        case i258 => exact rfl
        case q258 => exact (fun _ _ _ h => h)
        case y258 =>
          refine Or.inl ⟨by rfl, ?_⟩
          intro w hSw
          go_simp
          first | done | rfl
        try simp only [Act.put, List.getElem_toArray, List.getElem_cons_zero, List.getElem_cons_succ, List.setIfInBounds_toArray, List.set_cons_zero, List.set_cons_succ]
        refine wpAnyH_take (i := 24) (oi := ?o259) (v := ?v259) ?i259 (by kernel_rfl) (by kernel_rfl) (by kernel_rfl) ?q259 ?y259 (trivial) ?r259
        case i259 => exact rfl
        case q259 => exact (fun _ _ _ h => h)
        case y259 =>
          refine Or.inl ⟨by rfl, ?_⟩
          intro w hSw
          go_simp
          first | done | rfl
        try simp only [Act.put, List.getElem_toArray, List.getElem_cons_zero, List.getElem_cons_succ, List.setIfInBounds_toArray, List.set_cons_zero, List.set_cons_succ]
        refine wpAnyH_take (i := 25) (oi := ?o260) (v := ?v260) ?i260 (by kernel_rfl) (by kernel_rfl) (by kernel_rfl) ?q260 ?y260 (trivial) ?r260
        case i260 => exact rfl
        case q260 => exact (fun _ _ _ h => h)
        case y260 =>
          refine Or.inl ⟨by rfl, ?_⟩
          intro w hSw
          go_simp
          first | done | rfl
        try simp only [Act.put, List.getElem_toArray, List.getElem_cons_zero, List.getElem_cons_succ, List.setIfInBounds_toArray, List.set_cons_zero, List.set_cons_succ]
        refine wpAnyH_take (i := 26) (oi := ?o261) (v := ?v261) ?i261 (by kernel_rfl) (by kernel_rfl) (by kernel_rfl) ?q261 ?y261 (trivial) ?r261
        case i261 => exact rfl
        case q261 => exact (fun _ _ _ h => h)
        case y261 =>
          refine Or.inl ⟨by rfl, ?_⟩
          intro w hSw
          go_simp
          first | done | rfl
        try simp only [Act.put, List.getElem_toArray, List.getElem_cons_zero, List.getElem_cons_succ, List.setIfInBounds_toArray, List.set_cons_zero, List.set_cons_succ]
        refine wpAnyH_take (i := 27) (oi := ?o262) (v := ?v262) ?i262 (by kernel_rfl) (by kernel_rfl) (by kernel_rfl) ?q262 ?y262 (trivial) ?r262
        case i262 => exact rfl
        case q262 => exact (fun _ _ _ h => h)
        case y262 =>
          refine Or.inl ⟨by rfl, ?_⟩
          intro w hSw
          go_simp
          first | done | rfl
        try simp only [Act.put, List.getElem_toArray, List.getElem_cons_zero, List.getElem_cons_succ, List.setIfInBounds_toArray, List.set_cons_zero, List.set_cons_succ]
        refine wpAnyH_take (i := 29) (oi := ?o263) (v := ?v263) ?i263 (by kernel_rfl) (by kernel_rfl) (by kernel_rfl) ?q263 ?y263 (trivial) ?r263
        case i263 => exact rfl
        case q263 => exact (fun _ _ _ h => h)
        case y263 =>
          refine Or.inl ⟨by rfl, ?_⟩
          intro w hSw
          go_simp
          first | done | rfl
        try simp only [Act.put, List.getElem_toArray, List.getElem_cons_zero, List.getElem_cons_succ, List.setIfInBounds_toArray, List.set_cons_zero, List.set_cons_succ]
        refine wpAnyH_ready (rs := [28]) (by kernel_rfl) (by simp) ?_
        refine AllReadyH.cons (i := 28) (o := ?o264) ?i264 (fun K hK => ?_) AllReadyH.nil
        case i264 => exact rfl
        go_simp
        (with_reducible refine (hsTR.out _ rTP.out).mono ?_)
        rintro e wq ⟨rfl, rfl⟩
        go_wp2_with fail
        refine hK.out _ _ (trivial) (fun hHeld => ?_)
        clear hK K
        try simp only [Act.put, List.getElem_toArray, List.getElem_cons_zero, List.getElem_cons_succ, List.setIfInBounds_toArray, List.set_cons_zero, List.set_cons_succ]
        refine wpAnyH_ready (rs := [30]) (by kernel_rfl) (by simp) ?_
        refine AllReadyH.cons (i := 30) (o := ?o265) ?i265 (fun K hK => ?_) AllReadyH.nil
        case i265 => exact rfl
        go_simp
        (with_reducible refine (hsUR.out _ rUP.out).mono ?_)
        rintro e wq ⟨rfl, rfl⟩
        go_wp2_with fail
        refine hK.out _ _ (trivial) (fun hHeld => ?_)
        clear hK K
        try simp only [Act.put, List.getElem_toArray, List.getElem_cons_zero, List.getElem_cons_succ, List.setIfInBounds_toArray, List.set_cons_zero, List.set_cons_succ]
        refine wpAnyH_take (i := 31) (oi := ?o266) (v := ?v266) ?i266 (by kernel_rfl) (by kernel_rfl) (by kernel_rfl) ?q266 ?y266 (trivial) ?r266
        case i266 => exact rfl
        case q266 => exact (fun _ _ _ h => h)
        case y266 =>
          refine Or.inl ⟨by rfl, ?_⟩
          intro w hSw
          go_simp
          first | done | rfl
        try simp only [Act.put, List.getElem_toArray, List.getElem_cons_zero, List.getElem_cons_succ, List.setIfInBounds_toArray, List.set_cons_zero, List.set_cons_succ]
        refine wpAnyH_take (i := 32) (oi := ?o267) (v := ?v267) ?i267 (by kernel_rfl) (by kernel_rfl) (by kernel_rfl) ?q267 ?y267 (trivial) ?r267
        case i267 => exact rfl
        case q267 => exact (fun _ _ _ h => h)
        case y267 =>
          refine Or.inl ⟨by rfl, ?_⟩
          intro w hSw
          go_simp
          first | done | rfl
        try simp only [Act.put, List.getElem_toArray, List.getElem_cons_zero, List.getElem_cons_succ, List.setIfInBounds_toArray, List.set_cons_zero, List.set_cons_succ]
        refine wpAnyH_take (i := 33) (oi := ?o268) (v := ?v268) ?i268 (by kernel_rfl) (by kernel_rfl) (by kernel_rfl) ?q268 ?y268 (trivial) ?r268
        case i268 => exact rfl
        case q268 => exact (fun _ _ _ h => h)
        case y268 =>
          refine Or.inl ⟨by rfl, ?_⟩
          intro w hSw
          go_simp
          first | done | rfl
        try simp only [Act.put, List.getElem_toArray, List.getElem_cons_zero, List.getElem_cons_succ, List.setIfInBounds_toArray, List.set_cons_zero, List.set_cons_succ]
        refine wpAnyH_take (i := 34) (oi := ?o269) (v := undef) ?i269 (by kernel_rfl) (by kernel_rfl) (by kernel_rfl) ?q269 ?y269 (trivial) ?r269
        case i269 => exact rfl
        case q269 => exact (fun _ _ _ h => h)
        case y269 => exact Or.inr ⟨by rfl, rfl⟩
        try simp only [Act.put, List.getElem_toArray, List.getElem_cons_zero, List.getElem_cons_succ, List.setIfInBounds_toArray, List.set_cons_zero, List.set_cons_succ]
        refine wpAnyH_take (i := 35) (oi := ?o270) (v := undef) ?i270 (by kernel_rfl) (by kernel_rfl) (by kernel_rfl) ?q270 ?y270 (trivial) ?r270
        case i270 => exact rfl
        case q270 => exact (fun _ _ _ h => h)
        case y270 => exact Or.inr ⟨by rfl, rfl⟩
        try simp only [Act.put, List.getElem_toArray, List.getElem_cons_zero, List.getElem_cons_succ, List.setIfInBounds_toArray, List.set_cons_zero, List.set_cons_succ]
        refine wpAnyH_take (i := 36) (oi := ?o271) (v := undef) ?i271 (by kernel_rfl) (by kernel_rfl) (by kernel_rfl) ?q271 ?y271 (trivial) ?r271
        case i271 => exact rfl
        case q271 => exact (fun _ _ _ h => h)
        case y271 => exact Or.inr ⟨by rfl, rfl⟩
        try simp only [Act.put, List.getElem_toArray, List.getElem_cons_zero, List.getElem_cons_succ, List.setIfInBounds_toArray, List.set_cons_zero, List.set_cons_succ]
        refine wpAnyH_take (i := 37) (oi := ?o272) (v := ?v272) ?i272 (by kernel_rfl) (by kernel_rfl) (by kernel_rfl) ?q272 ?y272 (trivial) ?r272
        case i272 => exact rfl
        case q272 => exact (fun _ _ _ h => h)
        case y272 =>
          refine Or.inl ⟨by rfl, ?_⟩
          intro w hSw
          go_simp
          first | done | rfl
        try simp only [Act.put, List.getElem_toArray, List.getElem_cons_zero, List.getElem_cons_succ, List.setIfInBounds_toArray, List.set_cons_zero, List.set_cons_succ]
        refine wpAnyH_take (i := 38) (oi := ?o273) (v := ?v273) ?i273 (by kernel_rfl) (by kernel_rfl) (by kernel_rfl) ?q273 ?y273 (trivial) ?r273
        case i273 => exact rfl
        case q273 => exact (fun _ _ _ h => h)
        case y273 =>
          refine Or.inl ⟨by rfl, ?_⟩
          intro w hSw
          go_simp
          first | done | rfl
        try simp only [Act.put, List.getElem_toArray, List.getElem_cons_zero, List.getElem_cons_succ, List.setIfInBounds_toArray, List.set_cons_zero, List.set_cons_succ]
        refine wpAnyH_done (by kernel_rfl) ?_ _
        go_wp2_with fail
        go_ret
        exact ⟨rfl, HBP.out⟩
    · have h41 : (40 : Int) < (nT : Int) := by omega
      clear HGT HLU HEN h40
      go_wp2_with fail
      refine (drawGetNumM _ _ _ code _ (hr.below hB7) hlen).mono ?_
      rintro e w8 ⟨aA, nA, cA, lA, fr, rfl, hnA, hfr, mA⟩
      have hB8 : Below w.heap.size w w8 := hB7.trans (mA.below.mono hB7.size)
      replace rT := rT.below mA.below
      replace rU := rU.below mA.below
      have rA := mA.row
      have kA := mA.cap
      have kA2 := mA.most
      clear mA hB7
      go_wp2_with fail
      refine (implGetM _ _ _ lA fr _ rA (by omega) kA kA2).mono ?_
      have hpg := put_get lA fr rA.2.1
      obtain ⟨k, hk⟩ : ∃ x, x = (getL lA fr).1 := ⟨_, rfl⟩
      obtain ⟨st, hst⟩ : ∃ x, x = (getL lA fr).2 := ⟨_, rfl⟩
      rw [← hk, ← hst] at hpg ⊢
      rintro e w9 ⟨rfl, b9⟩
      have HPG : Hid _ := hpg
      clear hk hst hpg
      have hB9 : Below w.heap.size w w9 := hB8.trans (b9.mono hB8.size)
      replace rT := rT.below b9
      replace rU := rU.below b9
      replace rA := rA.below b9
      clear b9 hB8
      unfold maxLen at kA2
      go_wp2_with fail
      refine (wrapM n _).mono ?_
      rintro e w9' ⟨rfl, rfl⟩
      have hwb := w32_bd n
      have hwm1 := w32_mod1 n
      have hwm2 := w32_mod2 n hfn
      have hwm3 := w32_mod3 n hfn
      have hww : Hid (∀ wx : World, Calls Try.prog 12 #[.int .i64 (w32 n)] wx fun e w' => e = .returned (.int .i64 (w32 n)) ∧ w' = wx) := by
        intro wx
        refine (wrapM (w32 n) wx).mono ?_
        rintro e w' ⟨rfl, rfl⟩
        exact ⟨ret_int (w32_w32 n), rfl⟩
      generalize w32 n = W at *
      have hsT : Hid (∀ wx : World, BRow wx aT nT lT → Calls Try.prog 13 #[.slice aT nT cT] wx fun e w' => e = .returned (.int .i64 (sumTo lT nT)) ∧ w' = wx) := by
        intro wx hx
        refine (implSum aT nT cT lT wx hx (by omega)).mono ?_
        rintro e w' ⟨rfl, rfl⟩
        exact ⟨rfl, rfl⟩
      have hsU : Hid (∀ wx : World, BRow wx aU nU lU → Calls Try.prog 13 #[.slice aU nU cU] wx fun e w' => e = .returned (.int .i64 (sumTo lU nU)) ∧ w' = wx) := by
        intro wx hx
        refine (implSum aU nU cU lU wx hx (by omega)).mono ?_
        rintro e w' ⟨rfl, rfl⟩
        exact ⟨rfl, rfl⟩
      have HRT : Hid (BRow w9' aT nT lT) := rT
      have HRU : Hid (BRow w9' aU nU lU) := rU
      generalize sumTo lT nT = S1 at *
      generalize sumTo lU nU = S2 at *
      clear rT rU
      cases dsum : (S1 == S2)
      ·
        by_cases hneg : st < 0
        · have dneg : decide (st < 0) = true := by simpa using hneg
          clear HPG rA
          go_wp2_with fail
          go_quiet ((first | (go_at_call 12; exact Calls.quiet_of_same (hww.out _)) | (go_at_call_of 13 (Value.slice aT nT cT); exact Calls.quiet_of_same (hsT.out _ HRT.out)) | (go_at_call_of 13 (Value.slice aU nU cU); exact Calls.quiet_of_same (hsU.out _ HRU.out))))
          go_wp2
          go_ret
          exact ⟨rfl, below_drewN hB9 _⟩
        · obtain ⟨p1, p2, p3, p4, p5, p6⟩ := HPG.out (by omega)
          obtain ⟨f, rfl⟩ := Int.eq_ofNat_of_zero_le p1
          obtain ⟨s, rfl⟩ := Int.eq_ofNat_of_zero_le (show 0 ≤ st by omega)
          have hlA := rA.1
          rw [hlA] at p2 p5
          rw [Int.toNat_natCast, Int.toNat_natCast] at p3
          obtain ⟨b, off, haA, _⟩ := rA.2.2 (by omega)
          subst haA
          obtain ⟨pk, hpk⟩ : ∃ x, x = putL k := ⟨_, rfl⟩
          have hpkl := putL_len k
          rw [← hpk] at p3 hpkl
          have hput : Hid (∀ wx : World, BRow wx (some ⟨b, off, none⟩) nA lA → Calls Try.prog 5 #[.slice (some ⟨b, off, none⟩) f cA, .int .i64 k] wx fun e w' => ∃ aP cP, e = .returned (.slice aP (f + pk.length) cP) ∧ BRow w' aP (f + pk.length) (lA.take f ++ pk) ∧ Below wx.heap.size wx w') := by
            intro wx hx
            refine (implPutM _ f cA (lA.take f) k wx (hx.head (by omega)) (by omega)).mono ?_
            rw [← hpk]
            rintro e w' ⟨aP, cP, rfl, mP⟩
            exact ⟨aP, cP, rfl, mP.row, mP.below⟩
          have hsm2 : Hid (∀ (wx : World) (aP : Option Addr) (cP : Nat), BRow wx aP (f + pk.length) (lA.take f ++ pk) → BRow wx (some ⟨b, off, none⟩) nA lA → Calls Try.prog 10 #[.slice aP (f + pk.length) cP, .slice (some ⟨b, off, none⟩) s cA] wx fun e w' => e = .returned (.bool true) ∧ wx = w') := by
            intro wx aP cP h1 h2
            refine (sameM _ _ _ _ _ _ _ (lA.take s) wx h1 (h2.head (by omega))).mono ?_
            rintro e w' ⟨rfl, rfl⟩
            exact ⟨by rw [decide_eq_true p3], rfl⟩
          have hwwR : Hid (∀ wx : World, Calls Try.prog 12 #[.int .i64 W] wx fun e w' => e = .returned (.int .i64 W) ∧ wx = w') := fun wx => (hww.out wx).mono (fun e w' h => ⟨h.1, h.2.symm⟩)
          have hsTR : Hid (∀ wx : World, BRow wx aT nT lT → Calls Try.prog 13 #[.slice aT nT cT] wx fun e w' => e = .returned (.int .i64 S1) ∧ wx = w') := fun wx hx => (hsT.out wx hx).mono (fun e w' h => ⟨h.1, h.2.symm⟩)
          have hsUR : Hid (∀ wx : World, BRow wx aU nU lU → Calls Try.prog 13 #[.slice aU nU cU] wx fun e w' => e = .returned (.int .i64 S2) ∧ wx = w') := fun wx hx => (hsU.out wx hx).mono (fun e w' h => ⟨h.1, h.2.symm⟩)
          have HRA : Hid (BRow w9' (some ⟨b, off, none⟩) nA lA) := rA
          have hfc : f ≤ cA := by omega
          have hsc : s ≤ cA := by omega
          have hs0 : ¬ (s : Int) < 0 := by omega
          clear hww hsT hsU HPG rA p3 hpk hpkl hneg hlA
          go_wp2_with fail
          have HRAd : Hid (BRow w9'.drew (some ⟨b, off, none⟩) nA lA) := HRA.out
          have HRTd : Hid (BRow w9'.drew aT nT lT) := HRT.out
          have HRUd : Hid (BRow w9'.drew aU nU lU) := HRU.out
          refine wp_region_held_drew (S := fun _ => True) (by kernel_rfl) trivial (fun hHeld => ?_)
          refine wpAnyH_take (i := 0) (oi := ?o274) (v := ?v274) ?i274 (by kernel_rfl) (by kernel_rfl) (by kernel_rfl) ?q274 ?y274 (trivial) ?r274
          case i274 => exact rfl
          case q274 => exact (fun _ _ _ h => h)
          case y274 =>
            refine Or.inl ⟨by rfl, ?_⟩
            intro w hSw
            go_simp
            first | done | rfl
          try simp only [Act.put, List.getElem_toArray, List.getElem_cons_zero, List.getElem_cons_succ, List.setIfInBounds_toArray, List.set_cons_zero, List.set_cons_succ]
          refine wpAnyH_take (i := 1) (oi := ?o275) (v := ?v275) ?i275 (by kernel_rfl) (by kernel_rfl) (by kernel_rfl) ?q275 ?y275 (trivial) ?r275
          case i275 => exact rfl
          case q275 => exact (fun _ _ _ h => h)
          case y275 =>
            refine Or.inl ⟨by rfl, ?_⟩
            intro w hSw
            go_simp
            first | done | rfl
          try simp only [Act.put, List.getElem_toArray, List.getElem_cons_zero, List.getElem_cons_succ, List.setIfInBounds_toArray, List.set_cons_zero, List.set_cons_succ]
          refine wpAnyH_take (i := 2) (oi := ?o276) (v := ?v276) ?i276 (by kernel_rfl) (by kernel_rfl) (by kernel_rfl) ?q276 ?y276 (trivial) ?r276
          case i276 => exact rfl
          case q276 => exact (fun _ _ _ h => h)
          case y276 =>
            refine Or.inl ⟨by rfl, ?_⟩
            intro w hSw
            go_simp
            first | done | rfl
          try simp only [Act.put, List.getElem_toArray, List.getElem_cons_zero, List.getElem_cons_succ, List.setIfInBounds_toArray, List.set_cons_zero, List.set_cons_succ]
          refine wpAnyH_take (i := 3) (oi := ?o277) (v := ?v277) ?i277 (by kernel_rfl) (by kernel_rfl) (by kernel_rfl) ?q277 ?y277 (trivial) ?r277
          case i277 => exact rfl
          case q277 => exact (fun _ _ _ h => h)
          case y277 =>
            refine Or.inl ⟨by rfl, ?_⟩
            intro w hSw
            go_simp
            first | done | rfl
          try simp only [Act.put, List.getElem_toArray, List.getElem_cons_zero, List.getElem_cons_succ, List.setIfInBounds_toArray, List.set_cons_zero, List.set_cons_succ]
          refine wpAnyH_take (i := 4) (oi := ?o278) (v := ?v278) ?i278 (by kernel_rfl) (by kernel_rfl) (by kernel_rfl) ?q278 ?y278 (trivial) ?r278
          case i278 => exact rfl
          case q278 => exact (fun _ _ _ h => h)
          case y278 =>
            refine Or.inl ⟨by rfl, ?_⟩
            intro w hSw
            go_simp
            first | done | rfl
          try simp only [Act.put, List.getElem_toArray, List.getElem_cons_zero, List.getElem_cons_succ, List.setIfInBounds_toArray, List.set_cons_zero, List.set_cons_succ]
          refine wpAnyH_take (i := 5) (oi := ?o279) (v := ?v279) ?i279 (by kernel_rfl) (by kernel_rfl) (by kernel_rfl) ?q279 ?y279 (trivial) ?r279
          case i279 => exact rfl
          case q279 => exact (fun _ _ _ h => h)
          case y279 =>
            refine Or.inl ⟨by rfl, ?_⟩
            intro w hSw
            go_simp
            first | done | rfl
          try simp only [Act.put, List.getElem_toArray, List.getElem_cons_zero, List.getElem_cons_succ, List.setIfInBounds_toArray, List.set_cons_zero, List.set_cons_succ]
          refine wpAnyH_take (i := 6) (oi := ?o280) (v := ?v280) ?i280 (by kernel_rfl) (by kernel_rfl) (by kernel_rfl) ?q280 ?y280 (trivial) ?r280
          case i280 => exact rfl
          case q280 => exact (fun _ _ _ h => h)
          case y280 =>
            refine Or.inl ⟨by rfl, ?_⟩
            intro w hSw
            go_simp
            first | done | rfl
          try simp only [Act.put, List.getElem_toArray, List.getElem_cons_zero, List.getElem_cons_succ, List.setIfInBounds_toArray, List.set_cons_zero, List.set_cons_succ]
          refine wpAnyH_take (i := 8) (oi := ?o281) (v := ?v281) ?i281 (by kernel_rfl) (by kernel_rfl) (by kernel_rfl) ?q281 ?y281 (trivial) ?r281
          case i281 => exact rfl
          case q281 => exact (fun _ _ _ h => h)
          case y281 =>
            refine Or.inl ⟨by rfl, ?_⟩
            intro w hSw
            go_simp
            first | done | rfl
          try simp only [Act.put, List.getElem_toArray, List.getElem_cons_zero, List.getElem_cons_succ, List.setIfInBounds_toArray, List.set_cons_zero, List.set_cons_succ]
          refine wpAnyH_take (i := 9) (oi := ?o282) (v := ?v282) ?i282 (by kernel_rfl) (by kernel_rfl) (by kernel_rfl) ?q282 ?y282 (trivial) ?r282
          case i282 => exact rfl
          case q282 => exact (fun _ _ _ h => h)
          case y282 =>
            refine Or.inl ⟨by rfl, ?_⟩
            intro w hSw
            go_simp
            first | done | rfl
          try simp only [Act.put, List.getElem_toArray, List.getElem_cons_zero, List.getElem_cons_succ, List.setIfInBounds_toArray, List.set_cons_zero, List.set_cons_succ]
          refine wpAnyH_take (i := 10) (oi := ?o283) (v := ?v283) ?i283 (by kernel_rfl) (by kernel_rfl) (by kernel_rfl) ?q283 ?y283 (trivial) ?r283
          case i283 => exact rfl
          case q283 => exact (fun _ _ _ h => h)
          case y283 =>
            refine Or.inl ⟨by rfl, ?_⟩
            intro w hSw
            go_simp
            first | done | rfl
          try simp only [Act.put, List.getElem_toArray, List.getElem_cons_zero, List.getElem_cons_succ, List.setIfInBounds_toArray, List.set_cons_zero, List.set_cons_succ]
          refine wpAnyH_ready (rs := [7]) (by kernel_rfl) (by simp) ?_
          refine AllReadyH.cons (i := 7) (o := ?o284) ?i284 (fun K hK => ?_) AllReadyH.nil
          case i284 => exact rfl
          go_simp
          (with_reducible refine (hput.out _ HRAd.out).mono ?_)
          rintro e wP ⟨aP, cP, rfl, rP, bP⟩
          have rTP : Hid (BRow wP aT nT lT) := BRow.below (w := w9'.drew) HRTd.out bP
          have rUP : Hid (BRow wP aU nU lU) := BRow.below (w := w9'.drew) HRUd.out bP
          have rAP : Hid (BRow wP (some ⟨b, off, none⟩) nA lA) := BRow.below (w := w9'.drew) HRAd.out bP
          have HRP : Hid (BRow wP aP (f + pk.length) (lA.take f ++ pk)) := rP
          have HBP : Hid (Below w.heap.size w wP) := hB9.drew.trans (bP.mono hB9.size)
          clear rP bP
          go_wp2_with fail
          refine hK.out _ _ (trivial) (fun hHeld => ?_)
          clear hK K
          try simp only [Act.put, List.getElem_toArray, List.getElem_cons_zero, List.getElem_cons_succ, List.setIfInBounds_toArray, List.set_cons_zero, List.set_cons_succ]
          refine wpAnyH_ready (rs := [11]) (by kernel_rfl) (by simp) ?_
          refine AllReadyH.cons (i := 11) (o := ?o285) ?i285 (fun K hK => ?_) AllReadyH.nil
          case i285 => exact rfl
          go_simp
          (with_reducible refine (hsm2.out _ _ _ HRP.out rAP.out).mono ?_)
          rintro e wq ⟨rfl, rfl⟩
          go_wp2_with fail
          refine hK.out _ _ (trivial) (fun hHeld => ?_)
          clear hK K
          try simp only [Act.put, List.getElem_toArray, List.getElem_cons_zero, List.getElem_cons_succ, List.setIfInBounds_toArray, List.set_cons_zero, List.set_cons_succ]
          refine wpAnyH_take (i := 12) (oi := ?o286) (v := ?v286) ?i286 (by kernel_rfl) (by kernel_rfl) (by kernel_rfl) ?q286 ?y286 (trivial) ?r286
          case i286 => exact rfl
          case q286 => exact (fun _ _ _ h => h)
          case y286 =>
            refine Or.inl ⟨by rfl, ?_⟩
            intro w hSw
            go_simp
            first | done | rfl
          try simp only [Act.put, List.getElem_toArray, List.getElem_cons_zero, List.getElem_cons_succ, List.setIfInBounds_toArray, List.set_cons_zero, List.set_cons_succ]
          refine wpAnyH_take (i := 13) (oi := ?o287) (v := ?v287) ?i287 (by kernel_rfl) (by kernel_rfl) (by kernel_rfl) ?q287 ?y287 (trivial) ?r287
          case i287 => exact rfl
          case q287 => exact (fun _ _ _ h => h)
          case y287 =>
            refine Or.inl ⟨by rfl, ?_⟩
            intro w hSw
            go_simp
            first | done | rfl
          try simp only [Act.put, List.getElem_toArray, List.getElem_cons_zero, List.getElem_cons_succ, List.setIfInBounds_toArray, List.set_cons_zero, List.set_cons_succ]
          refine wpAnyH_take (i := 14) (oi := ?o288) (v := ?v288) ?i288 (by kernel_rfl) (by kernel_rfl) (by kernel_rfl) ?q288 ?y288 (trivial) ?r288
          case i288 => exact rfl
          case q288 => exact (fun _ _ _ h => h)
          case y288 =>
            refine Or.inl ⟨by rfl, ?_⟩
            intro w hSw
            go_simp
            first | done | rfl
          try simp only [Act.put, List.getElem_toArray, List.getElem_cons_zero, List.getElem_cons_succ, List.setIfInBounds_toArray, List.set_cons_zero, List.set_cons_succ]
          refine wpAnyH_take (i := 16) (oi := ?o289) (v := ?v289) ?i289 (by kernel_rfl) (by kernel_rfl) (by kernel_rfl) ?q289 ?y289 (trivial) ?r289
          case i289 => exact rfl
          case q289 => exact (fun _ _ _ h => h)
          case y289 =>
            refine Or.inl ⟨by rfl, ?_⟩
            intro w hSw
            go_simp
            first | done | rfl
          try simp only [Act.put, List.getElem_toArray, List.getElem_cons_zero, List.getElem_cons_succ, List.setIfInBounds_toArray, List.set_cons_zero, List.set_cons_succ]
          refine wpAnyH_ready (rs := [15]) (by kernel_rfl) (by simp) ?_
          refine AllReadyH.cons (i := 15) (o := ?o290) ?i290 (fun K hK => ?_) AllReadyH.nil
          case i290 => exact rfl
          go_simp
          (with_reducible refine (hwwR.out _).mono ?_)
          rintro e wq ⟨rfl, rfl⟩
          go_wp2_with fail
          refine hK.out _ _ (trivial) (fun hHeld => ?_)
          clear hK K
          try simp only [Act.put, List.getElem_toArray, List.getElem_cons_zero, List.getElem_cons_succ, List.setIfInBounds_toArray, List.set_cons_zero, List.set_cons_succ]
          refine wpAnyH_take (i := 17) (oi := ?o291) (v := ?v291) ?i291 (by kernel_rfl) (by kernel_rfl) (by kernel_rfl) ?q291 ?y291 (trivial) ?r291
          case i291 => exact rfl
          case q291 => exact (fun _ _ _ h => h)
          case y291 =>
            refine Or.inl ⟨by rfl, ?_⟩
            intro w hSw
            go_simp
            first | done | rfl
          try simp only [Act.put, List.getElem_toArray, List.getElem_cons_zero, List.getElem_cons_succ, List.setIfInBounds_toArray, List.set_cons_zero, List.set_cons_succ]
          refine wpAnyH_take (i := 18) (oi := ?o292) (v := ?v292) ?i292 (by kernel_rfl) (by kernel_rfl) (by kernel_rfl) ?q292 ?y292 (trivial) ?r292
          case i292 => exact rfl
          case q292 => exact (fun _ _ _ h => h)
          case y292 =>
            refine Or.inl ⟨by rfl, ?_⟩
            intro w hSw
            go_simp
            first | done | rfl
          try simp only [Act.put, List.getElem_toArray, List.getElem_cons_zero, List.getElem_cons_succ, List.setIfInBounds_toArray, List.set_cons_zero, List.set_cons_succ]
          refine wpAnyH_take (i := 19) (oi := ?o293) (v := ?v293) ?i293 (by kernel_rfl) (by kernel_rfl) (by kernel_rfl) ?q293 ?y293 (trivial) ?r293
          case i293 => exact rfl
          case q293 => exact (fun _ _ _ h => h)
          case y293 =>
            refine Or.inl ⟨by rfl, ?_⟩
            intro w hSw
            go_simp
            first | done | rfl
          try simp only [Act.put, List.getElem_toArray, List.getElem_cons_zero, List.getElem_cons_succ, List.setIfInBounds_toArray, List.set_cons_zero, List.set_cons_succ]
          refine wpAnyH_take (i := 20) (oi := ?o294) (v := ?v294) ?i294 (by kernel_rfl) (by kernel_rfl) (by kernel_rfl) ?q294 ?y294 (trivial) ?r294
          case i294 => exact rfl
          case q294 => exact (fun _ _ _ h => h)
          case y294 =>
            refine Or.inl ⟨by rfl, ?_⟩
            intro w hSw
            go_simp
            first | done | rfl
          try simp only [Act.put, List.getElem_toArray, List.getElem_cons_zero, List.getElem_cons_succ, List.setIfInBounds_toArray, List.set_cons_zero, List.set_cons_succ]
          refine wpAnyH_take (i := 21) (oi := ?o295) (v := ?v295) ?i295 (by kernel_rfl) (by kernel_rfl) (by kernel_rfl) ?q295 ?y295 (trivial) ?r295
          case i295 => exact rfl
          case q295 => exact (fun _ _ _ h => h)
          case y295 =>
            refine Or.inl ⟨by rfl, ?_⟩
            intro w hSw
            go_simp
            first | done | rfl
          try simp only [Act.put, List.getElem_toArray, List.getElem_cons_zero, List.getElem_cons_succ, List.setIfInBounds_toArray, List.set_cons_zero, List.set_cons_succ]
          refine wpAnyH_take (i := 22) (oi := ?o296) (v := ?v296) ?i296 (by kernel_rfl) (by kernel_rfl) (by kernel_rfl) ?q296 ?y296 (trivial) ?r296
          case i296 => exact rfl
          case q296 => exact (fun _ _ _ h => h)
          case y296 =>
            refine Or.inl ⟨by rfl, ?_⟩
            intro w hSw
            go_simp
            first | done | rfl
          try simp only [Act.put, List.getElem_toArray, List.getElem_cons_zero, List.getElem_cons_succ, List.setIfInBounds_toArray, List.set_cons_zero, List.set_cons_succ]
          refine wpAnyH_take (i := 23) (oi := ?o297) (v := ?v297) ?i297 (by kernel_rfl) (by kernel_rfl) (by kernel_rfl) ?q297 ?y297 (trivial) ?r297
          case i297 => exact rfl
          case q297 => exact (fun _ _ _ h => h)
          case y297 =>
            refine Or.inl ⟨by rfl, ?_⟩
            intro w hSw
            go_simp
            first | done | rfl
          try simp only [Act.put, List.getElem_toArray, List.getElem_cons_zero, List.getElem_cons_succ, List.setIfInBounds_toArray, List.set_cons_zero, List.set_cons_succ]
          refine wpAnyH_take (i := 24) (oi := ?o298) (v := ?v298) ?i298 (by kernel_rfl) (by kernel_rfl) (by kernel_rfl) ?q298 ?y298 (trivial) ?r298
          case i298 => exact rfl
          case q298 => exact (fun _ _ _ h => h)
          case y298 =>
            refine Or.inl ⟨by rfl, ?_⟩
            intro w hSw
            go_simp
            first | done | rfl
          try simp only [Act.put, List.getElem_toArray, List.getElem_cons_zero, List.getElem_cons_succ, List.setIfInBounds_toArray, List.set_cons_zero, List.set_cons_succ]
          refine wpAnyH_take (i := 25) (oi := ?o299) (v := ?v299) ?i299 (by kernel_rfl) (by kernel_rfl) (by kernel_rfl) ?q299 ?y299 (trivial) ?r299
          case i299 => exact rfl
          case q299 => exact (fun _ _ _ h => h)
          case y299 =>
            refine Or.inl ⟨by rfl, ?_⟩
            intro w hSw
            go_simp
            first | done | rfl
          try simp only [Act.put, List.getElem_toArray, List.getElem_cons_zero, List.getElem_cons_succ, List.setIfInBounds_toArray, List.set_cons_zero, List.set_cons_succ]
          refine wpAnyH_take (i := 26) (oi := ?o300) (v := ?v300) ?i300 (by kernel_rfl) (by kernel_rfl) (by kernel_rfl) ?q300 ?y300 (trivial) ?r300
          case i300 => exact rfl
          case q300 => exact (fun _ _ _ h => h)
          case y300 =>
            refine Or.inl ⟨by rfl, ?_⟩
            intro w hSw
            go_simp
            first | done | rfl
          try simp only [Act.put, List.getElem_toArray, List.getElem_cons_zero, List.getElem_cons_succ, List.setIfInBounds_toArray, List.set_cons_zero, List.set_cons_succ]
          refine wpAnyH_take (i := 27) (oi := ?o301) (v := ?v301) ?i301 (by kernel_rfl) (by kernel_rfl) (by kernel_rfl) ?q301 ?y301 (trivial) ?r301
          case i301 => exact rfl
          case q301 => exact (fun _ _ _ h => h)
          case y301 =>
            refine Or.inl ⟨by rfl, ?_⟩
            intro w hSw
            go_simp
            first | done | rfl
          try simp only [Act.put, List.getElem_toArray, List.getElem_cons_zero, List.getElem_cons_succ, List.setIfInBounds_toArray, List.set_cons_zero, List.set_cons_succ]
          refine wpAnyH_take (i := 29) (oi := ?o302) (v := ?v302) ?i302 (by kernel_rfl) (by kernel_rfl) (by kernel_rfl) ?q302 ?y302 (trivial) ?r302
          case i302 => exact rfl
          case q302 => exact (fun _ _ _ h => h)
          case y302 =>
            refine Or.inl ⟨by rfl, ?_⟩
            intro w hSw
            go_simp
            first | done | rfl
          try simp only [Act.put, List.getElem_toArray, List.getElem_cons_zero, List.getElem_cons_succ, List.setIfInBounds_toArray, List.set_cons_zero, List.set_cons_succ]
          refine wpAnyH_ready (rs := [28]) (by kernel_rfl) (by simp) ?_
          refine AllReadyH.cons (i := 28) (o := ?o303) ?i303 (fun K hK => ?_) AllReadyH.nil
          case i303 => exact rfl
          go_simp
          (with_reducible refine (hsTR.out _ rTP.out).mono ?_)
          rintro e wq ⟨rfl, rfl⟩
          go_wp2_with fail
          refine hK.out _ _ (trivial) (fun hHeld => ?_)
          clear hK K
          try simp only [Act.put, List.getElem_toArray, List.getElem_cons_zero, List.getElem_cons_succ, List.setIfInBounds_toArray, List.set_cons_zero, List.set_cons_succ]
          refine wpAnyH_ready (rs := [30]) (by kernel_rfl) (by simp) ?_
          refine AllReadyH.cons (i := 30) (o := ?o304) ?i304 (fun K hK => ?_) AllReadyH.nil
          case i304 => exact rfl
          go_simp
          (with_reducible refine (hsUR.out _ rUP.out).mono ?_)
          rintro e wq ⟨rfl, rfl⟩
          go_wp2_with fail
          refine hK.out _ _ (trivial) (fun hHeld => ?_)
          clear hK K
          try simp only [Act.put, List.getElem_toArray, List.getElem_cons_zero, List.getElem_cons_succ, List.setIfInBounds_toArray, List.set_cons_zero, List.set_cons_succ]
          refine wpAnyH_take (i := 31) (oi := ?o305) (v := ?v305) ?i305 (by kernel_rfl) (by kernel_rfl) (by kernel_rfl) ?q305 ?y305 (trivial) ?r305
          case i305 => exact rfl
          case q305 => exact (fun _ _ _ h => h)
          case y305 =>
            refine Or.inl ⟨by rfl, ?_⟩
            intro w hSw
            go_simp
            first | done | rfl
          try simp only [Act.put, List.getElem_toArray, List.getElem_cons_zero, List.getElem_cons_succ, List.setIfInBounds_toArray, List.set_cons_zero, List.set_cons_succ]
          refine wpAnyH_take (i := 32) (oi := ?o306) (v := ?v306) ?i306 (by kernel_rfl) (by kernel_rfl) (by kernel_rfl) ?q306 ?y306 (trivial) ?r306
          case i306 => exact rfl
          case q306 => exact (fun _ _ _ h => h)
          case y306 =>
            refine Or.inl ⟨by rfl, ?_⟩
            intro w hSw
            go_simp
            first | done | rfl
          try simp only [Act.put, List.getElem_toArray, List.getElem_cons_zero, List.getElem_cons_succ, List.setIfInBounds_toArray, List.set_cons_zero, List.set_cons_succ]
          refine wpAnyH_take (i := 33) (oi := ?o307) (v := ?v307) ?i307 (by kernel_rfl) (by kernel_rfl) (by kernel_rfl) ?q307 ?y307 (trivial) ?r307
          case i307 => exact rfl
          case q307 => exact (fun _ _ _ h => h)
          case y307 =>
            refine Or.inl ⟨by rfl, ?_⟩
            intro w hSw
            go_simp
            first | done | rfl
          try simp only [Act.put, List.getElem_toArray, List.getElem_cons_zero, List.getElem_cons_succ, List.setIfInBounds_toArray, List.set_cons_zero, List.set_cons_succ]
          refine wpAnyH_take (i := 34) (oi := ?o308) (v := ?v308) ?i308 (by kernel_rfl) (by kernel_rfl) (by kernel_rfl) ?q308 ?y308 (trivial) ?r308
          case i308 => exact rfl
          case q308 => exact (fun _ _ _ h => h)
          case y308 =>
            refine Or.inl ⟨by rfl, ?_⟩
            intro w hSw
            go_simp
            first | done | rfl
          try simp only [Act.put, List.getElem_toArray, List.getElem_cons_zero, List.getElem_cons_succ, List.setIfInBounds_toArray, List.set_cons_zero, List.set_cons_succ]
          refine wpAnyH_take (i := 35) (oi := ?o309) (v := ?v309) ?i309 (by kernel_rfl) (by kernel_rfl) (by kernel_rfl) ?q309 ?y309 (trivial) ?r309
          case i309 => exact rfl
          case q309 => exact (fun _ _ _ h => h)
          case y309 =>
            refine Or.inl ⟨by rfl, ?_⟩
            intro w hSw
            go_simp
            first | done | rfl
          try simp only [Act.put, List.getElem_toArray, List.getElem_cons_zero, List.getElem_cons_succ, List.setIfInBounds_toArray, List.set_cons_zero, List.set_cons_succ]
          refine wpAnyH_take (i := 36) (oi := ?o310) (v := ?v310) ?i310 (by kernel_rfl) (by kernel_rfl) (by kernel_rfl) ?q310 ?y310 (trivial) ?r310
          case i310 => exact rfl
          case q310 => exact (fun _ _ _ h => h)
          case y310 =>
            refine Or.inl ⟨by rfl, ?_⟩
            intro w hSw
            go_simp
            first | done | rfl
          try simp only [Act.put, List.getElem_toArray, List.getElem_cons_zero, List.getElem_cons_succ, List.setIfInBounds_toArray, List.set_cons_zero, List.set_cons_succ]
          refine wpAnyH_take (i := 37) (oi := ?o311) (v := ?v311) ?i311 (by kernel_rfl) (by kernel_rfl) (by kernel_rfl) ?q311 ?y311 (trivial) ?r311
          case i311 => exact rfl
          case q311 => exact (fun _ _ _ h => h)
          case y311 =>
            refine Or.inl ⟨by rfl, ?_⟩
            intro w hSw
            go_simp
            first | done | rfl
          try simp only [Act.put, List.getElem_toArray, List.getElem_cons_zero, List.getElem_cons_succ, List.setIfInBounds_toArray, List.set_cons_zero, List.set_cons_succ]
          refine wpAnyH_take (i := 38) (oi := ?o312) (v := ?v312) ?i312 (by kernel_rfl) (by kernel_rfl) (by kernel_rfl) ?q312 ?y312 (trivial) ?r312
          case i312 => exact rfl
          case q312 => exact (fun _ _ _ h => h)
          case y312 =>
            refine Or.inl ⟨by rfl, ?_⟩
            intro w hSw
            go_simp
            first | done | rfl
          try simp only [Act.put, List.getElem_toArray, List.getElem_cons_zero, List.getElem_cons_succ, List.setIfInBounds_toArray, List.set_cons_zero, List.set_cons_succ]
          refine wpAnyH_done (by kernel_rfl) ?_ _
          go_wp2_with fail
          go_ret
          exact ⟨rfl, HBP.out⟩
      ·
        by_cases hneg : st < 0
        · have dneg : decide (st < 0) = true := by simpa using hneg
          clear HPG rA
          go_wp2_with fail
          go_quiet ((first | (go_at_call 12; exact Calls.quiet_of_same (hww.out _)) | (go_at_call_of 13 (Value.slice aT nT cT); exact Calls.quiet_of_same (hsT.out _ HRT.out)) | (go_at_call_of 13 (Value.slice aU nU cU); exact Calls.quiet_of_same (hsU.out _ HRU.out))))
          go_wp2
          go_ret
          exact ⟨rfl, below_drewN hB9 _⟩
        · obtain ⟨p1, p2, p3, p4, p5, p6⟩ := HPG.out (by omega)
          obtain ⟨f, rfl⟩ := Int.eq_ofNat_of_zero_le p1
          obtain ⟨s, rfl⟩ := Int.eq_ofNat_of_zero_le (show 0 ≤ st by omega)
          have hlA := rA.1
          rw [hlA] at p2 p5
          rw [Int.toNat_natCast, Int.toNat_natCast] at p3
          obtain ⟨b, off, haA, _⟩ := rA.2.2 (by omega)
          subst haA
          obtain ⟨pk, hpk⟩ : ∃ x, x = putL k := ⟨_, rfl⟩
          have hpkl := putL_len k
          rw [← hpk] at p3 hpkl
          have hput : Hid (∀ wx : World, BRow wx (some ⟨b, off, none⟩) nA lA → Calls Try.prog 5 #[.slice (some ⟨b, off, none⟩) f cA, .int .i64 k] wx fun e w' => ∃ aP cP, e = .returned (.slice aP (f + pk.length) cP) ∧ BRow w' aP (f + pk.length) (lA.take f ++ pk) ∧ Below wx.heap.size wx w') := by
            intro wx hx
            refine (implPutM _ f cA (lA.take f) k wx (hx.head (by omega)) (by omega)).mono ?_
            rw [← hpk]
            rintro e w' ⟨aP, cP, rfl, mP⟩
            exact ⟨aP, cP, rfl, mP.row, mP.below⟩
          have hsm2 : Hid (∀ (wx : World) (aP : Option Addr) (cP : Nat), BRow wx aP (f + pk.length) (lA.take f ++ pk) → BRow wx (some ⟨b, off, none⟩) nA lA → Calls Try.prog 10 #[.slice aP (f + pk.length) cP, .slice (some ⟨b, off, none⟩) s cA] wx fun e w' => e = .returned (.bool true) ∧ wx = w') := by
            intro wx aP cP h1 h2
            refine (sameM _ _ _ _ _ _ _ (lA.take s) wx h1 (h2.head (by omega))).mono ?_
            rintro e w' ⟨rfl, rfl⟩
            exact ⟨by rw [decide_eq_true p3], rfl⟩
          have hwwR : Hid (∀ wx : World, Calls Try.prog 12 #[.int .i64 W] wx fun e w' => e = .returned (.int .i64 W) ∧ wx = w') := fun wx => (hww.out wx).mono (fun e w' h => ⟨h.1, h.2.symm⟩)
          have hsTR : Hid (∀ wx : World, BRow wx aT nT lT → Calls Try.prog 13 #[.slice aT nT cT] wx fun e w' => e = .returned (.int .i64 S1) ∧ wx = w') := fun wx hx => (hsT.out wx hx).mono (fun e w' h => ⟨h.1, h.2.symm⟩)
          have hsUR : Hid (∀ wx : World, BRow wx aU nU lU → Calls Try.prog 13 #[.slice aU nU cU] wx fun e w' => e = .returned (.int .i64 S2) ∧ wx = w') := fun wx hx => (hsU.out wx hx).mono (fun e w' h => ⟨h.1, h.2.symm⟩)
          have HRA : Hid (BRow w9' (some ⟨b, off, none⟩) nA lA) := rA
          have hfc : f ≤ cA := by omega
          have hsc : s ≤ cA := by omega
          have hs0 : ¬ (s : Int) < 0 := by omega
          clear hww hsT hsU HPG rA p3 hpk hpkl hneg hlA
          go_wp2_with fail
          have HRAd : Hid (BRow w9'.drew (some ⟨b, off, none⟩) nA lA) := HRA.out
          have HRTd : Hid (BRow w9'.drew aT nT lT) := HRT.out
          have HRUd : Hid (BRow w9'.drew aU nU lU) := HRU.out
          refine wp_region_held_drew (S := fun _ => True) (by kernel_rfl) trivial (fun hHeld => ?_)
          refine wpAnyH_take (i := 0) (oi := ?o313) (v := ?v313) ?i313 (by kernel_rfl) (by kernel_rfl) (by kernel_rfl) ?q313 ?y313 (trivial) ?r313
          case i313 => exact rfl
          case q313 => exact (fun _ _ _ h => h)
          case y313 =>
            refine Or.inl ⟨by rfl, ?_⟩
            intro w hSw
            go_simp
            first | done | rfl
          try simp only [Act.put, List.getElem_toArray, List.getElem_cons_zero, List.getElem_cons_succ, List.setIfInBounds_toArray, List.set_cons_zero, List.set_cons_succ]
          refine wpAnyH_take (i := 1) (oi := ?o314) (v := ?v314) ?i314 (by kernel_rfl) (by kernel_rfl) (by kernel_rfl) ?q314 ?y314 (trivial) ?r314
          case i314 => exact rfl
          case q314 => exact (fun _ _ _ h => h)
          case y314 =>
            refine Or.inl ⟨by rfl, ?_⟩
            intro w hSw
            go_simp
            first | done | rfl
          try simp only [Act.put, List.getElem_toArray, List.getElem_cons_zero, List.getElem_cons_succ, List.setIfInBounds_toArray, List.set_cons_zero, List.set_cons_succ]
          refine wpAnyH_take (i := 2) (oi := ?o315) (v := ?v315) ?i315 (by kernel_rfl) (by kernel_rfl) (by kernel_rfl) ?q315 ?y315 (trivial) ?r315
          case i315 => exact rfl
          case q315 => exact (fun _ _ _ h => h)
          case y315 =>
            refine Or.inl ⟨by rfl, ?_⟩
            intro w hSw
            go_simp
            first | done | rfl
          try simp only [Act.put, List.getElem_toArray, List.getElem_cons_zero, List.getElem_cons_succ, List.setIfInBounds_toArray, List.set_cons_zero, List.set_cons_succ]
          refine wpAnyH_take (i := 3) (oi := ?o316) (v := ?v316) ?i316 (by kernel_rfl) (by kernel_rfl) (by kernel_rfl) ?q316 ?y316 (trivial) ?r316
          case i316 => exact rfl
          case q316 => exact (fun _ _ _ h => h)
          case y316 =>
            refine Or.inl ⟨by rfl, ?_⟩
            intro w hSw
            go_simp
            first | done | rfl
          try simp only [Act.put, List.getElem_toArray, List.getElem_cons_zero, List.getElem_cons_succ, List.setIfInBounds_toArray, List.set_cons_zero, List.set_cons_succ]
          refine wpAnyH_take (i := 4) (oi := ?o317) (v := ?v317) ?i317 (by kernel_rfl) (by kernel_rfl) (by kernel_rfl) ?q317 ?y317 (trivial) ?r317
          case i317 => exact rfl
          case q317 => exact (fun _ _ _ h => h)
          case y317 =>
            refine Or.inl ⟨by rfl, ?_⟩
            intro w hSw
            go_simp
            first | done | rfl
          try simp only [Act.put, List.getElem_toArray, List.getElem_cons_zero, List.getElem_cons_succ, List.setIfInBounds_toArray, List.set_cons_zero, List.set_cons_succ]
          refine wpAnyH_take (i := 5) (oi := ?o318) (v := ?v318) ?i318 (by kernel_rfl) (by kernel_rfl) (by kernel_rfl) ?q318 ?y318 (trivial) ?r318
          case i318 => exact rfl
          case q318 => exact (fun _ _ _ h => h)
          case y318 =>
            refine Or.inl ⟨by rfl, ?_⟩
            intro w hSw
            go_simp
            first | done | rfl
          try simp only [Act.put, List.getElem_toArray, List.getElem_cons_zero, List.getElem_cons_succ, List.setIfInBounds_toArray, List.set_cons_zero, List.set_cons_succ]
          refine wpAnyH_take (i := 6) (oi := ?o319) (v := ?v319) ?i319 (by kernel_rfl) (by kernel_rfl) (by kernel_rfl) ?q319 ?y319 (trivial) ?r319
          case i319 => exact rfl
          case q319 => exact (fun _ _ _ h => h)
          case y319 =>
            refine Or.inl ⟨by rfl, ?_⟩
            intro w hSw
            go_simp
            first | done | rfl
          try simp only [Act.put, List.getElem_toArray, List.getElem_cons_zero, List.getElem_cons_succ, List.setIfInBounds_toArray, List.set_cons_zero, List.set_cons_succ]
          refine wpAnyH_take (i := 8) (oi := ?o320) (v := ?v320) ?i320 (by kernel_rfl) (by kernel_rfl) (by kernel_rfl) ?q320 ?y320 (trivial) ?r320
          case i320 => exact rfl
          case q320 => exact (fun _ _ _ h => h)
          case y320 =>
            refine Or.inl ⟨by rfl, ?_⟩
            intro w hSw
            go_simp
            first | done | rfl
          try simp only [Act.put, List.getElem_toArray, List.getElem_cons_zero, List.getElem_cons_succ, List.setIfInBounds_toArray, List.set_cons_zero, List.set_cons_succ]
          refine wpAnyH_take (i := 9) (oi := ?o321) (v := ?v321) ?i321 (by kernel_rfl) (by kernel_rfl) (by kernel_rfl) ?q321 ?y321 (trivial) ?r321
          case i321 => exact rfl
          case q321 => exact (fun _ _ _ h => h)
          case y321 =>
            refine Or.inl ⟨by rfl, ?_⟩
            intro w hSw
            go_simp
            first | done | rfl
          try simp only [Act.put, List.getElem_toArray, List.getElem_cons_zero, List.getElem_cons_succ, List.setIfInBounds_toArray, List.set_cons_zero, List.set_cons_succ]
          refine wpAnyH_take (i := 10) (oi := ?o322) (v := ?v322) ?i322 (by kernel_rfl) (by kernel_rfl) (by kernel_rfl) ?q322 ?y322 (trivial) ?r322
          case i322 => exact rfl
          case q322 => exact (fun _ _ _ h => h)
          case y322 =>
            refine Or.inl ⟨by rfl, ?_⟩
            intro w hSw
            go_simp
            first | done | rfl
          try simp only [Act.put, List.getElem_toArray, List.getElem_cons_zero, List.getElem_cons_succ, List.setIfInBounds_toArray, List.set_cons_zero, List.set_cons_succ]
          refine wpAnyH_ready (rs := [7]) (by kernel_rfl) (by simp) ?_
          refine AllReadyH.cons (i := 7) (o := ?o323) ?i323 (fun K hK => ?_) AllReadyH.nil
          case i323 => exact rfl
          go_simp
          (with_reducible refine (hput.out _ HRAd.out).mono ?_)
          rintro e wP ⟨aP, cP, rfl, rP, bP⟩
          have rTP : Hid (BRow wP aT nT lT) := BRow.below (w := w9'.drew) HRTd.out bP
          have rUP : Hid (BRow wP aU nU lU) := BRow.below (w := w9'.drew) HRUd.out bP
          have rAP : Hid (BRow wP (some ⟨b, off, none⟩) nA lA) := BRow.below (w := w9'.drew) HRAd.out bP
          have HRP : Hid (BRow wP aP (f + pk.length) (lA.take f ++ pk)) := rP
          have HBP : Hid (Below w.heap.size w wP) := hB9.drew.trans (bP.mono hB9.size)
          clear rP bP
          go_wp2_with fail
          refine hK.out _ _ (trivial) (fun hHeld => ?_)
          clear hK K
          try simp only [Act.put, List.getElem_toArray, List.getElem_cons_zero, List.getElem_cons_succ, List.setIfInBounds_toArray, List.set_cons_zero, List.set_cons_succ]
          refine wpAnyH_ready (rs := [11]) (by kernel_rfl) (by simp) ?_
          refine AllReadyH.cons (i := 11) (o := ?o324) ?i324 (fun K hK => ?_) AllReadyH.nil
          case i324 => exact rfl
          go_simp
          (with_reducible refine (hsm2.out _ _ _ HRP.out rAP.out).mono ?_)
          rintro e wq ⟨rfl, rfl⟩
          go_wp2_with fail
          refine hK.out _ _ (trivial) (fun hHeld => ?_)
          clear hK K
          try simp only [Act.put, List.getElem_toArray, List.getElem_cons_zero, List.getElem_cons_succ, List.setIfInBounds_toArray, List.set_cons_zero, List.set_cons_succ]
          refine wpAnyH_take (i := 12) (oi := ?o325) (v := ?v325) ?i325 (by kernel_rfl) (by kernel_rfl) (by kernel_rfl) ?q325 ?y325 (trivial) ?r325
          case i325 => exact rfl
          case q325 => exact (fun _ _ _ h => h)
          case y325 =>
            refine Or.inl ⟨by rfl, ?_⟩
            intro w hSw
            go_simp
            first | done | rfl
          try simp only [Act.put, List.getElem_toArray, List.getElem_cons_zero, List.getElem_cons_succ, List.setIfInBounds_toArray, List.set_cons_zero, List.set_cons_succ]
          refine wpAnyH_take (i := 13) (oi := ?o326) (v := ?v326) ?i326 (by kernel_rfl) (by kernel_rfl) (by kernel_rfl) ?q326 ?y326 (trivial) ?r326
          case i326 => exact rfl
          case q326 => exact (fun _ _ _ h => h)
          case y326 =>
            refine Or.inl ⟨by rfl, ?_⟩
            intro w hSw
            go_simp
            first | done | rfl
          try simp only [Act.put, List.getElem_toArray, List.getElem_cons_zero, List.getElem_cons_succ, List.setIfInBounds_toArray, List.set_cons_zero, List.set_cons_succ]
          refine wpAnyH_take (i := 14) (oi := ?o327) (v := ?v327) ?i327 (by kernel_rfl) (by kernel_rfl) (by kernel_rfl) ?q327 ?y327 (trivial) ?r327
          case i327 => exact rfl
          case q327 => exact (fun _ _ _ h => h)
          case y327 =>
            refine Or.inl ⟨by rfl, ?_⟩
            intro w hSw
            go_simp
            first | done | rfl
          try simp only [Act.put, List.getElem_toArray, List.getElem_cons_zero, List.getElem_cons_succ, List.setIfInBounds_toArray, List.set_cons_zero, List.set_cons_succ]
          refine wpAnyH_take (i := 16) (oi := ?o328) (v := ?v328) ?i328 (by kernel_rfl) (by kernel_rfl) (by kernel_rfl) ?q328 ?y328 (trivial) ?r328
          case i328 => exact rfl
          case q328 => exact (fun _ _ _ h => h)
          case y328 =>
            refine Or.inl ⟨by rfl, ?_⟩
            intro w hSw
            go_simp
            first | done | rfl
          try simp only [Act.put, List.getElem_toArray, List.getElem_cons_zero, List.getElem_cons_succ, List.setIfInBounds_toArray, List.set_cons_zero, List.set_cons_succ]
          refine wpAnyH_ready (rs := [15]) (by kernel_rfl) (by simp) ?_
          refine AllReadyH.cons (i := 15) (o := ?o329) ?i329 (fun K hK => ?_) AllReadyH.nil
          case i329 => exact rfl
          go_simp
          (with_reducible refine (hwwR.out _).mono ?_)
          rintro e wq ⟨rfl, rfl⟩
          go_wp2_with fail
          refine hK.out _ _ (trivial) (fun hHeld => ?_)
          clear hK K
          try simp only [Act.put, List.getElem_toArray, List.getElem_cons_zero, List.getElem_cons_succ, List.setIfInBounds_toArray, List.set_cons_zero, List.set_cons_succ]
          refine wpAnyH_take (i := 17) (oi := ?o330) (v := ?v330) ?i330 (by kernel_rfl) (by kernel_rfl) (by kernel_rfl) ?q330 ?y330 (trivial) ?r330
          case i330 => exact rfl
          case q330 => exact (fun _ _ _ h => h)
          case y330 =>
            refine Or.inl ⟨by rfl, ?_⟩
            intro w hSw
            go_simp
            first | done | rfl
          try simp only [Act.put, List.getElem_toArray, List.getElem_cons_zero, List.getElem_cons_succ, List.setIfInBounds_toArray, List.set_cons_zero, List.set_cons_succ]
          refine wpAnyH_take (i := 18) (oi := ?o331) (v := ?v331) ?i331 (by kernel_rfl) (by kernel_rfl) (by kernel_rfl) ?q331 ?y331 (trivial) ?r331
          case i331 => exact rfl
          case q331 => exact (fun _ _ _ h => h)
          case y331 =>
            refine Or.inl ⟨by rfl, ?_⟩
            intro w hSw
            go_simp
            first | done | rfl
          try simp only [Act.put, List.getElem_toArray, List.getElem_cons_zero, List.getElem_cons_succ, List.setIfInBounds_toArray, List.set_cons_zero, List.set_cons_succ]
          refine wpAnyH_take (i := 19) (oi := ?o332) (v := ?v332) ?i332 (by kernel_rfl) (by kernel_rfl) (by kernel_rfl) ?q332 ?y332 (trivial) ?r332
          case i332 => exact rfl
          case q332 => exact (fun _ _ _ h => h)
          case y332 =>
            refine Or.inl ⟨by rfl, ?_⟩
            intro w hSw
            go_simp
            first | done | rfl
          try simp only [Act.put, List.getElem_toArray, List.getElem_cons_zero, List.getElem_cons_succ, List.setIfInBounds_toArray, List.set_cons_zero, List.set_cons_succ]
          refine wpAnyH_take (i := 20) (oi := ?o333) (v := ?v333) ?i333 (by kernel_rfl) (by kernel_rfl) (by kernel_rfl) ?q333 ?y333 (trivial) ?r333
          case i333 => exact rfl
          case q333 => exact (fun _ _ _ h => h)
          case y333 =>
            refine Or.inl ⟨by rfl, ?_⟩
            intro w hSw
            go_simp
            first | done | rfl
          try simp only [Act.put, List.getElem_toArray, List.getElem_cons_zero, List.getElem_cons_succ, List.setIfInBounds_toArray, List.set_cons_zero, List.set_cons_succ]
          refine wpAnyH_take (i := 21) (oi := ?o334) (v := ?v334) ?i334 (by kernel_rfl) (by kernel_rfl) (by kernel_rfl) ?q334 ?y334 (trivial) ?r334
          case i334 => exact rfl
          case q334 => exact (fun _ _ _ h => h)
          case y334 =>
            refine Or.inl ⟨by rfl, ?_⟩
            intro w hSw
            go_simp
            first | done | rfl
          try simp only [Act.put, List.getElem_toArray, List.getElem_cons_zero, List.getElem_cons_succ, List.setIfInBounds_toArray, List.set_cons_zero, List.set_cons_succ]
          refine wpAnyH_take (i := 22) (oi := ?o335) (v := ?v335) ?i335 (by kernel_rfl) (by kernel_rfl) (by kernel_rfl) ?q335 ?y335 (trivial) ?r335
          case i335 => exact rfl
          case q335 => exact (fun _ _ _ h => h)
          case y335 =>
            refine Or.inl ⟨by rfl, ?_⟩
            intro w hSw
            go_simp
            first | done | rfl
          try simp only [Act.put, List.getElem_toArray, List.getElem_cons_zero, List.getElem_cons_succ, List.setIfInBounds_toArray, List.set_cons_zero, List.set_cons_succ]
          refine wpAnyH_take (i := 23) (oi := ?o336) (v := ?v336) ?i336 (by kernel_rfl) (by kernel_rfl) (by kernel_rfl) ?q336 ?y336 (trivial) ?r336
          case i336 => exact rfl
          case q336 => exact (fun _ _ _ h => h)
          case y336 =>
            refine Or.inl ⟨by rfl, ?_⟩
            intro w hSw
            go_simp
            first | done | rfl
          try simp only [Act.put, List.getElem_toArray, List.getElem_cons_zero, List.getElem_cons_succ, List.setIfInBounds_toArray, List.set_cons_zero, List.set_cons_succ]
          refine wpAnyH_take (i := 24) (oi := ?o337) (v := ?v337) ?i337 (by kernel_rfl) (by kernel_rfl) (by kernel_rfl) ?q337 ?y337 (trivial) ?r337
          case i337 => exact rfl
          case q337 => exact (fun _ _ _ h => h)
          case y337 =>
            refine Or.inl ⟨by rfl, ?_⟩
            intro w hSw
            go_simp
            first | done | rfl
          try simp only [Act.put, List.getElem_toArray, List.getElem_cons_zero, List.getElem_cons_succ, List.setIfInBounds_toArray, List.set_cons_zero, List.set_cons_succ]
          refine wpAnyH_take (i := 25) (oi := ?o338) (v := ?v338) ?i338 (by kernel_rfl) (by kernel_rfl) (by kernel_rfl) ?q338 ?y338 (trivial) ?r338
          case i338 => exact rfl
          case q338 => exact (fun _ _ _ h => h)
          case y338 =>
            refine Or.inl ⟨by rfl, ?_⟩
            intro w hSw
            go_simp
            first | done | rfl
          try simp only [Act.put, List.getElem_toArray, List.getElem_cons_zero, List.getElem_cons_succ, List.setIfInBounds_toArray, List.set_cons_zero, List.set_cons_succ]
          refine wpAnyH_take (i := 26) (oi := ?o339) (v := ?v339) ?i339 (by kernel_rfl) (by kernel_rfl) (by kernel_rfl) ?q339 ?y339 (trivial) ?r339
          case i339 => exact rfl
          case q339 => exact (fun _ _ _ h => h)
          case y339 =>
            refine Or.inl ⟨by rfl, ?_⟩
            intro w hSw
            go_simp
            first | done | rfl
          try simp only [Act.put, List.getElem_toArray, List.getElem_cons_zero, List.getElem_cons_succ, List.setIfInBounds_toArray, List.set_cons_zero, List.set_cons_succ]
          refine wpAnyH_take (i := 27) (oi := ?o340) (v := ?v340) ?i340 (by kernel_rfl) (by kernel_rfl) (by kernel_rfl) ?q340 ?y340 (trivial) ?r340
          case i340 => exact rfl
          case q340 => exact (fun _ _ _ h => h)
          case y340 =>
            refine Or.inl ⟨by rfl, ?_⟩
            intro w hSw
            go_simp
            first | done | rfl
          try simp only [Act.put, List.getElem_toArray, List.getElem_cons_zero, List.getElem_cons_succ, List.setIfInBounds_toArray, List.set_cons_zero, List.set_cons_succ]
          refine wpAnyH_take (i := 29) (oi := ?o341) (v := ?v341) ?i341 (by kernel_rfl) (by kernel_rfl) (by kernel_rfl) ?q341 ?y341 (trivial) ?r341
          case i341 => exact rfl
          case q341 => exact (fun _ _ _ h => h)
          case y341 =>
            refine Or.inl ⟨by rfl, ?_⟩
            intro w hSw
            go_simp
            first | done | rfl
          try simp only [Act.put, List.getElem_toArray, List.getElem_cons_zero, List.getElem_cons_succ, List.setIfInBounds_toArray, List.set_cons_zero, List.set_cons_succ]
          refine wpAnyH_ready (rs := [28]) (by kernel_rfl) (by simp) ?_
          refine AllReadyH.cons (i := 28) (o := ?o342) ?i342 (fun K hK => ?_) AllReadyH.nil
          case i342 => exact rfl
          go_simp
          (with_reducible refine (hsTR.out _ rTP.out).mono ?_)
          rintro e wq ⟨rfl, rfl⟩
          go_wp2_with fail
          refine hK.out _ _ (trivial) (fun hHeld => ?_)
          clear hK K
          try simp only [Act.put, List.getElem_toArray, List.getElem_cons_zero, List.getElem_cons_succ, List.setIfInBounds_toArray, List.set_cons_zero, List.set_cons_succ]
          refine wpAnyH_ready (rs := [30]) (by kernel_rfl) (by simp) ?_
          refine AllReadyH.cons (i := 30) (o := ?o343) ?i343 (fun K hK => ?_) AllReadyH.nil
          case i343 => exact rfl
          go_simp
          (with_reducible refine (hsUR.out _ rUP.out).mono ?_)
          rintro e wq ⟨rfl, rfl⟩
          go_wp2_with fail
          refine hK.out _ _ (trivial) (fun hHeld => ?_)
          clear hK K
          try simp only [Act.put, List.getElem_toArray, List.getElem_cons_zero, List.getElem_cons_succ, List.setIfInBounds_toArray, List.set_cons_zero, List.set_cons_succ]
          refine wpAnyH_take (i := 31) (oi := ?o344) (v := ?v344) ?i344 (by kernel_rfl) (by kernel_rfl) (by kernel_rfl) ?q344 ?y344 (trivial) ?r344
          case i344 => exact rfl
          case q344 => exact (fun _ _ _ h => h)
          case y344 =>
            refine Or.inl ⟨by rfl, ?_⟩
            intro w hSw
            go_simp
            first | done | rfl
          try simp only [Act.put, List.getElem_toArray, List.getElem_cons_zero, List.getElem_cons_succ, List.setIfInBounds_toArray, List.set_cons_zero, List.set_cons_succ]
          refine wpAnyH_take (i := 32) (oi := ?o345) (v := ?v345) ?i345 (by kernel_rfl) (by kernel_rfl) (by kernel_rfl) ?q345 ?y345 (trivial) ?r345
          case i345 => exact rfl
          case q345 => exact (fun _ _ _ h => h)
          case y345 =>
            refine Or.inl ⟨by rfl, ?_⟩
            intro w hSw
            go_simp
            first | done | rfl
          try simp only [Act.put, List.getElem_toArray, List.getElem_cons_zero, List.getElem_cons_succ, List.setIfInBounds_toArray, List.set_cons_zero, List.set_cons_succ]
          refine wpAnyH_take (i := 33) (oi := ?o346) (v := ?v346) ?i346 (by kernel_rfl) (by kernel_rfl) (by kernel_rfl) ?q346 ?y346 (trivial) ?r346
          case i346 => exact rfl
          case q346 => exact (fun _ _ _ h => h)
          case y346 =>
            refine Or.inl ⟨by rfl, ?_⟩
            intro w hSw
            go_simp
            first | done | rfl
          try simp only [Act.put, List.getElem_toArray, List.getElem_cons_zero, List.getElem_cons_succ, List.setIfInBounds_toArray, List.set_cons_zero, List.set_cons_succ]
          refine wpAnyH_take (i := 34) (oi := ?o347) (v := undef) ?i347 (by kernel_rfl) (by kernel_rfl) (by kernel_rfl) ?q347 ?y347 (trivial) ?r347
          case i347 => exact rfl
          case q347 => exact (fun _ _ _ h => h)
          case y347 => exact Or.inr ⟨by rfl, rfl⟩
          try simp only [Act.put, List.getElem_toArray, List.getElem_cons_zero, List.getElem_cons_succ, List.setIfInBounds_toArray, List.set_cons_zero, List.set_cons_succ]
          refine wpAnyH_take (i := 35) (oi := ?o348) (v := undef) ?i348 (by kernel_rfl) (by kernel_rfl) (by kernel_rfl) ?q348 ?y348 (trivial) ?r348
          case i348 => exact rfl
          case q348 => exact (fun _ _ _ h => h)
          case y348 => exact Or.inr ⟨by rfl, rfl⟩
          try simp only [Act.put, List.getElem_toArray, List.getElem_cons_zero, List.getElem_cons_succ, List.setIfInBounds_toArray, List.set_cons_zero, List.set_cons_succ]
          refine wpAnyH_take (i := 36) (oi := ?o349) (v := undef) ?i349 (by kernel_rfl) (by kernel_rfl) (by kernel_rfl) ?q349 ?y349 (trivial) ?r349
          case i349 => exact rfl
          case q349 => exact (fun _ _ _ h => h)
          case y349 => exact Or.inr ⟨by rfl, rfl⟩
          try simp only [Act.put, List.getElem_toArray, List.getElem_cons_zero, List.getElem_cons_succ, List.setIfInBounds_toArray, List.set_cons_zero, List.set_cons_succ]
          refine wpAnyH_take (i := 37) (oi := ?o350) (v := ?v350) ?i350 (by kernel_rfl) (by kernel_rfl) (by kernel_rfl) ?q350 ?y350 (trivial) ?r350
          case i350 => exact rfl
          case q350 => exact (fun _ _ _ h => h)
          case y350 =>
            refine Or.inl ⟨by rfl, ?_⟩
            intro w hSw
            go_simp
            first | done | rfl
          try simp only [Act.put, List.getElem_toArray, List.getElem_cons_zero, List.getElem_cons_succ, List.setIfInBounds_toArray, List.set_cons_zero, List.set_cons_succ]
          refine wpAnyH_take (i := 38) (oi := ?o351) (v := ?v351) ?i351 (by kernel_rfl) (by kernel_rfl) (by kernel_rfl) ?q351 ?y351 (trivial) ?r351
          case i351 => exact rfl
          case q351 => exact (fun _ _ _ h => h)
          case y351 =>
            refine Or.inl ⟨by rfl, ?_⟩
            intro w hSw
            go_simp
            first | done | rfl
          try simp only [Act.put, List.getElem_toArray, List.getElem_cons_zero, List.getElem_cons_succ, List.setIfInBounds_toArray, List.set_cons_zero, List.set_cons_succ]
          refine wpAnyH_done (by kernel_rfl) ?_ _
          go_wp2_with fail
          go_ret
          exact ⟨rfl, HBP.out⟩
end Go.Proofs.Ytbmnplfdlkbpgaa

/- The law of Decode returns true at every slice of bytes and every place, and writes nothing that was there. -/
import Derived.Test.YtjhnfmapjpfjcaaDoorDecImpl
import Derived.Test.YtjhnfmapjpfjcaaDoorInsLaw
import Derived.Test.YtjhnfmapjpfjcaaDoorBytes
namespace Go.Proofs.YtjhnfmapjpfjcaaDoor
open Go.RowKit Go.WideShapes Go.ChangeShapes
set_option linter.unusedVariables false
set_option linter.unusedSimpArgs false
set_option maxRecDepth 100000

theorem open_bytes {H : Type} {enc : TypeId × Value → H} {w : World} {b0 : Nat} {v : Value} {d : DataW H} {ps : List MemPlace}
    (hv : Value.okWide Tryd.prog w .any b0 30 v) (h : DataW.Trod enc Tryd.prog w 0 (fun _ => true) true 30 v d ps) : ∃ a n c zs, v = .slice a n c ∧ RowIn .u8 w a n c zs := by
  obtain ⟨a, n, c, rfl⟩ := okWide_slice Tryd.underlying30 hv
  obtain ⟨fuel, hf⟩ := h
  rcases open_ints Tryd.underlying30 Tryd.underlying5 (by kernel_rfl) hf with ⟨hcs, _⟩ | ⟨x, l, c, zs, hcs, _, hl, hm, hz, _, hcell, hwz⟩
  · simp [Value.cells] at hcs
    obtain ⟨rfl, rfl, rfl⟩ := hcs
    exact ⟨_, _, _, [], rfl, .inl ⟨rfl, rfl, rfl, rfl⟩⟩
  · simp [Value.cells] at hcs
    obtain ⟨rfl, rfl, rfl⟩ := hcs
    exact ⟨_, _, _, zs, rfl, .inr ⟨_, rfl, hl, hm, by simpa using hz, hcell, hwz⟩⟩

def bt (l : List Int) (k : Int) (i : Nat) : Int := l[12 * k.toNat + i]?.getD 0
def decOk (l : List Int) (n : Nat) (k : Int) : Bool := (decide (0 ≤ k) && decide (k < (n : Int) / 12)) && insB (bt l k 0) (bt l k 1) (bt l k 2) (bt l k 3) (num4 (bt l k 4) (bt l k 5) (bt l k 6) (bt l k 7)) (num4 (bt l k 8) (bt l k 9) (bt l k 10) (bt l k 11))
def decN (l : List Int) (n : Nat) (k : Int) : Int := sel (decOk l n k) (num4 (bt l k 4) (bt l k 5) (bt l k 6) (bt l k 7))
def decM (l : List Int) (n : Nat) (k : Int) : Int := sel (decOk l n k) (num4 (bt l k 8) (bt l k 9) (bt l k 10) (bt l k 11))

theorem bytes_at {l : List Int} (h : ∀ x ∈ l, 0 ≤ x ∧ x ≤ 255) (k : Int) : Bytes12 (bt l k 0) (bt l k 1) (bt l k 2) (bt l k 3) (bt l k 4) (bt l k 5) (bt l k 6) (bt l k 7) (bt l k 8) (bt l k 9) (bt l k 10) (bt l k 11) :=
  ⟨byte_at h _, byte_at h _, byte_at h _, byte_at h _, byte_at h _, byte_at h _, byte_at h _, byte_at h _, byte_at h _, byte_at h _, byte_at h _, byte_at h _⟩

theorem twelve_at {w : World} {b off n k : Nat} {l : List Int} (hc : ∀ i, i < n → w.cell? ⟨b, off + i, none⟩ = some (.int .u8 (l[i]?.getD 0))) (hk : 12 * k + 12 ≤ n) :
    Twelve w b (off + 12 * k) (bt l k 0) (bt l k 1) (bt l k 2) (bt l k 3) (bt l k 4) (bt l k 5) (bt l k 6) (bt l k 7) (bt l k 8) (bt l k 9) (bt l k 10) (bt l k 11) :=
  ⟨hc (12 * k) (by omega), hc (12 * k + 1) (by omega), hc (12 * k + 2) (by omega), hc (12 * k + 3) (by omega), hc (12 * k + 4) (by omega), hc (12 * k + 5) (by omega), hc (12 * k + 6) (by omega), hc (12 * k + 7) (by omega), hc (12 * k + 8) (by omega), hc (12 * k + 9) (by omega), hc (12 * k + 10) (by omega), hc (12 * k + 11) (by omega)⟩

theorem dec_no {l : List Int} {n : Nat} {k : Int} (h : ¬ (0 ≤ k ∧ k < (n : Int) / 12)) : decOk l n k = false := by
  have : (decide (0 ≤ k) && decide (k < (n : Int) / 12)) = false := by
    rw [Bool.and_eq_false_iff]
    by_cases h0 : 0 ≤ k
    · right; simp only [decide_eq_false_iff_not]; exact fun h1 => h ⟨h0, h1⟩
    · left; simpa using h0
  rw [decOk, this, Bool.false_and]

theorem dec_yes {l : List Int} {n : Nat} {k : Int} (h : 0 ≤ k ∧ k < (n : Int) / 12) : decOk l n k = insB (bt l k 0) (bt l k 1) (bt l k 2) (bt l k 3) (num4 (bt l k 4) (bt l k 5) (bt l k 6) (bt l k 7)) (num4 (bt l k 8) (bt l k 9) (bt l k 10) (bt l k 11)) := by
  rw [decOk]; simp only [h.1, h.2, decide_true, Bool.and_self, Bool.true_and]

set_option maxHeartbeats 4000000 in
theorem specDecodeM (a : Option Addr) (n c : Nat) (l : List Int) (k : Int) (w : World) (h : BRow w a n l) (hc : n ≤ c) (hm : c ≤ maxLen) :
    Calls Tryd.prog 18 #[.slice a n c, .int .i64 k] w fun e w' => e = .returned (.tuple #[.agg #[.int .i64 (sel (decOk l n k) (bt l k 0)), .int .i64 (sel (decOk l n k) (bt l k 1)), .int .i64 (sel (decOk l n k) (bt l k 2)), .int .i64 (sel (decOk l n k) (bt l k 3)), .int .i64 (decN l n k), .int .i64 (decM l n k)], .bool (decOk l n k)]) ∧ Below w.heap.size w w' := by
  by_cases hk : 0 ≤ k ∧ k < (n : Int) / 12
  · obtain ⟨j, rfl⟩ := Int.eq_ofNat_of_zero_le hk.1
    have hj : 12 * j + 12 ≤ n := by omega
    obtain ⟨_, hby, hr⟩ := h
    obtain ⟨b, off, rfl, hd⟩ := hr (by omega)
    exact specDecode12 b off n c j _ _ _ _ _ _ _ _ _ _ _ _ w (twelve_at hd hj) (bytes_at hby _) hj hc hm _ (dec_yes hk).symm
  · have hno := dec_no (l := l) hk
    unfold decN decM
    rw [hno]
    simp only [sel, cond_false]
    clear hno h
    unfold maxLen at hm
    have hz := heap_new w #[.int .i64 0, .int .i64 0, .int .i64 0, .int .i64 0, .int .i64 0, .int .i64 0] 25
    have hb : Below w.heap.size w (w.alloc (.cells #[.int .i64 0, .int .i64 0, .int .i64 0, .int .i64 0, .int .i64 0, .int .i64 0] 25)) := (Below.refl _ _).alloc (Nat.le_refl _) _
    have hd : (decide (k < 0) || decide ((n : Int) / 12 ≤ k)) = true := by
      rw [Bool.or_eq_true, decide_eq_true_iff, decide_eq_true_iff]
      omega
    by_cases h0 : k < 0
    · clear hk hd
      go_enter Tryd.func18, Tryd.ntmps18
      go_wp2_with fail
      refine bodyPost_ret (v := .tuple #[.agg #[.int .i64 0, .int .i64 0, .int .i64 0, .int .i64 0, .int .i64 0, .int .i64 0], .bool false]) (by simp [results, Tryd.results18, go_sem]) rfl ⟨rfl, (by repeat (first | exact Below.refl _ _ | assumption | (refine below_drewN ?_ _) | apply Below.drew | (refine Below.alloc ?_ ?_ _) | (refine Below.setCell ?_ ?_ _) | omega | (simp; omega) | simp))⟩
    · have h1 : (n : Int) / 12 ≤ k := by omega
      have h2 : 0 ≤ k := by omega
      clear hk hd h0
      go_enter Tryd.func18, Tryd.ntmps18
      go_wp2_with fail
      refine bodyPost_ret (v := .tuple #[.agg #[.int .i64 0, .int .i64 0, .int .i64 0, .int .i64 0, .int .i64 0, .int .i64 0], .bool false]) (by simp [results, Tryd.results18, go_sem]) rfl ⟨rfl, (by repeat (first | exact Below.refl _ _ | assumption | (refine below_drewN ?_ _) | apply Below.drew | (refine Below.alloc ?_ ?_ _) | (refine Below.setCell ?_ ?_ _) | omega | (simp; omega) | simp))⟩

set_option maxHeartbeats 4000000 in
theorem implDecodeM (a : Option Addr) (n c : Nat) (l : List Int) (k : Int) (w : World) (h : BRow w a n l) (hc : n ≤ c) (hm : c ≤ maxLen) (hO : Ops w) :
    Calls Tryd.prog 20 #[.slice a n c, .int .i64 k] w fun e w' => e = .returned (.tuple #[.agg #[.int .i64 (sel (decOk l n k) (bt l k 0)), .int .i64 (sel (decOk l n k) (bt l k 1)), .int .i64 (sel (decOk l n k) (bt l k 2)), .int .i64 (sel (decOk l n k) (bt l k 3)), .int .i64 (decN l n k), .int .i64 (decM l n k)], .bool (decOk l n k)]) ∧ Below w.heap.size w w' := by
  by_cases hk : 0 ≤ k ∧ k < (n : Int) / 12
  · obtain ⟨j, rfl⟩ := Int.eq_ofNat_of_zero_le hk.1
    have hj : 12 * j + 12 ≤ n := by omega
    obtain ⟨_, hby, hr⟩ := h
    obtain ⟨b, off, rfl, hd⟩ := hr (by omega)
    exact implDecode12 b off n c j _ _ _ _ _ _ _ _ _ _ _ _ w (twelve_at hd hj) (bytes_at hby _) hj hc hm hO _ (dec_yes hk).symm
  · have hno := dec_no (l := l) hk
    unfold decN decM
    rw [hno]
    simp only [sel, cond_false]
    clear hno h hO
    unfold maxLen at hm
    by_cases h0 : k < 0
    · clear hk
      go_enter Tryd.func20, Tryd.ntmps20
      go_wp2_with fail
      refine bodyPost_ret (v := .tuple #[.agg #[.int .i64 0, .int .i64 0, .int .i64 0, .int .i64 0, .int .i64 0, .int .i64 0], .bool false]) (by simp [results, Tryd.results20, go_sem]) rfl ⟨rfl, (by repeat (first | exact Below.refl _ _ | assumption | (refine below_drewN ?_ _) | apply Below.drew | (refine Below.alloc ?_ ?_ _) | (refine Below.setCell ?_ ?_ _) | omega | (simp; omega) | simp))⟩
    · have h1 : (n : Int) / 12 ≤ k := by omega
      have h2 : 0 ≤ k := by omega
      clear hk h0
      go_enter Tryd.func20, Tryd.ntmps20
      go_wp2_with fail
      refine bodyPost_ret (v := .tuple #[.agg #[.int .i64 0, .int .i64 0, .int .i64 0, .int .i64 0, .int .i64 0, .int .i64 0], .bool false]) (by simp [results, Tryd.results20, go_sem]) rfl ⟨rfl, (by repeat (first | exact Below.refl _ _ | assumption | (refine below_drewN ?_ _) | apply Below.drew | (refine Below.alloc ?_ ?_ _) | (refine Below.setCell ?_ ?_ _) | omega | (simp; omega) | simp))⟩

theorem eqInsM (xo xa xb xc xn xm : Int) (yo ya yb yc yn ym : Int) (w : World) (h : xo = yo ∧ xa = ya ∧ xb = yb ∧ xc = yc ∧ xn = yn ∧ xm = ym) :
    Calls Tryd.prog 21 #[.agg #[.int .i64 xo, .int .i64 xa, .int .i64 xb, .int .i64 xc, .int .i64 xn, .int .i64 xm], .agg #[.int .i64 yo, .int .i64 ya, .int .i64 yb, .int .i64 yc, .int .i64 yn, .int .i64 ym]] w fun e w' => e = .returned (.bool true) ∧ Below w.heap.size w w' := by
  obtain ⟨rfl, rfl, rfl, rfl, rfl, rfl⟩ := h
  go_enter Tryd.func21, Tryd.ntmps21
  go_wp2
  go_ret
  exact ⟨rfl, (by repeat (first | exact Below.refl _ _ | assumption | (refine below_drewN ?_ _) | apply Below.drew | (refine Below.alloc ?_ ?_ _) | (refine Below.setCell ?_ ?_ _) | omega | (simp; omega) | simp))⟩

set_option maxHeartbeats 8000000 in
theorem decode_walk (w : World) (hO : Ops w) (a : Option Addr) (n c : Nat) (zs : List Int) (w0 : RowIn .u8 w a n c zs) (k : Int) (hk : (Lit.int .i64 k).wf = true) :
    Calls Tryd.prog 5 #[.slice a n c, .int .i64 k] w fun e w' => e = .returned (.bool true) ∧ Below w.heap.size w w' := by
  obtain ⟨hr, hlc, hm⟩ := w0.row
  have hm' : c ≤ maxLen := hm
  unfold maxLen at hm
  clear w0 hk
  by_cases hbig : 1048576 < n
  · clear hr
    go_enter Tryd.func5, Tryd.ntmps5
    go_wp2
    go_ret
    exact ⟨rfl, Below.refl _ _⟩
  · generalize zs.take n = l at hr
    have hsmall : n ≤ 1048576 := by omega
    have H1 := fun a c w => specDecodeM a n c l k w
    have H2 := fun a c w => implDecodeM a n c l k w
    generalize sel (decOk l n k) (bt l k 0) = v0 at *
    generalize sel (decOk l n k) (bt l k 1) = v1 at *
    generalize sel (decOk l n k) (bt l k 2) = v2 at *
    generalize sel (decOk l n k) (bt l k 3) = v3 at *
    generalize decN l n k = v4 at *
    generalize decM l n k = v5 at *
    generalize decOk l n k = ok at *
    have HR : Hid (BRow w a n l) := hr
    have HO : Hid (Ops w) := hO
    clear hr hO
    go_enter Tryd.func5, Tryd.ntmps5
    go_wp2_with fail
    refine (copyM _ _ _ l _ HR.out hsmall).mono ?_
    rintro e w1 ⟨b1, c1, rfl, m1⟩
    have M1 : Hid _ := m1
    clear m1
    go_wp2_with fail
    refine (H1 _ _ _ M1.out.row M1.out.cap M1.out.most).mono ?_
    rintro e w2 ⟨rfl, hb2⟩
    have hB2 : Below w.heap.size w w2 := M1.out.below.trans (hb2.mono M1.out.below.size)
    have HB2 : Hid _ := hB2
    clear hB2 hb2 M1
    go_upto_region 4 with fail
    have hx3 := heap_new w2 #[.int .i64 v0, .int .i64 v1, .int .i64 v2, .int .i64 v3, .int .i64 v4, .int .i64 v5] 25
    have hB3 : Below w.heap.size w (w2.alloc (.cells #[.int .i64 v0, .int .i64 v1, .int .i64 v2, .int .i64 v3, .int .i64 v4, .int .i64 v5] 25)) := HB2.out.alloc HB2.out.size _
    generalize w2.alloc (.cells #[.int .i64 v0, .int .i64 v1, .int .i64 v2, .int .i64 v3, .int .i64 v4, .int .i64 v5] 25) = w3 at *
    generalize w2.heap.size = g1 at *
    have HX : Hid _ := hx3
    have HB : Hid _ := hB3
    clear hx3 hB3 HB2
    go_wp2_with fail
    refine (copyM _ _ _ l _ (HR.out.below HB.out) hsmall).mono ?_
    rintro e w4 ⟨b4, c4, rfl, m4⟩
    have hX4 := zero_keep HX.out m4.below
    have hB4 := HB.out.trans (m4.below.mono HB.out.size)
    have M4 : Hid _ := m4
    have HX4 : Hid _ := hX4
    have HB4 : Hid _ := hB4
    clear m4 hX4 hB4 HX HB
    go_wp2_with fail
    refine (H2 _ _ _ M4.out.row M4.out.cap M4.out.most (HO.out.below HB4.out)).mono ?_
    rintro e w5 ⟨rfl, hb5⟩
    have hX5 := zero_keep HX4.out hb5
    have hB5 := HB4.out.trans (hb5.mono HB4.out.size)
    have hr5 := M4.out.row.below hb5
    have HX5 : Hid _ := hX5
    have HB5 : Hid _ := hB5
    have HR5 : Hid (BRow w5 b4 n l) := hr5
    clear hX5 hB5 hr5 M4 HX4 HB4 hb5 H1 H2
    go_upto_region 6 with fail
    have hy6 := heap_new w5 #[.int .i64 v0, .int .i64 v1, .int .i64 v2, .int .i64 v3, .int .i64 v4, .int .i64 v5] 25
    have hb6 : Below w5.heap.size w5 (w5.alloc (.cells #[.int .i64 v0, .int .i64 v1, .int .i64 v2, .int .i64 v3, .int .i64 v4, .int .i64 v5] 25)) := (Below.refl _ _).alloc (Nat.le_refl _) _
    have hX6 := zero_keep HX5.out hb6
    have hB6 := HB5.out.trans (hb6.mono HB5.out.size)
    have hr6 := HR5.out.below hb6
    generalize w5.alloc (.cells #[.int .i64 v0, .int .i64 v1, .int .i64 v2, .int .i64 v3, .int .i64 v4, .int .i64 v5] 25) = w6 at *
    generalize w5.heap.size = g2 at *
    obtain ⟨a0, a1, a2, a3, a4, a5, _⟩ := row6 hX6
    obtain ⟨d0, d1, d2, d3, d4, d5, _⟩ := row6 hy6
    have HB6 : Hid _ := hB6
    have HR6 : Hid (BRow w6 b4 n l) := hr6
    clear hy6 hb6 hX6 hB6 hr6 HX5 HB5 HR5
    go_wp2_with fail
    refine (eqInsM _ _ _ _ _ _ _ _ _ _ _ _ _ ⟨rfl, rfl, rfl, rfl, rfl, rfl⟩).mono ?_
    rintro e w7 ⟨rfl, hb7⟩
    have hB7 := HB6.out.trans (hb7.mono HB6.out.size)
    have hr7 := HR6.out.below hb7
    have HB7 : Hid _ := hB7
    have HR7 : Hid (BRow w7 b4 n l) := hr7
    clear hB7 hr7 hb7 HB6 HR6 a0 a1 a2 a3 a4 a5 d0 d1 d2 d3 d4 d5
    go_wp2_with fail
    refine (copyM _ _ _ l _ (HR.out.below HB7.out) hsmall).mono ?_
    rintro e w8 ⟨b8, c8, rfl, m8⟩
    have hB8 := HB7.out.trans (m8.below.mono HB7.out.size)
    have hr8 := HR7.out.below m8.below
    have M8 : Hid _ := m8
    have HB8 : Hid _ := hB8
    have HR8 : Hid (BRow w8 b4 n l) := hr8
    clear m8 hB8 hr8 HB7 HR7
    go_wp2_with fail
    refine (eqT _ _ _ l _ _ _ _ HR8.out M8.out.row (by omega)).mono ?_
    rintro e w9 ⟨rfl, q9⟩
    have hB9 := HB8.out.trans (q9.mono HB8.out.size)
    clear q9 HB8 HR8 M8
    go_wp2_with fail
    go_ret
    exact ⟨rfl, hB9⟩
end Go.Proofs.YtjhnfmapjpfjcaaDoor

/- Contracts of the laws' own helpers that copy slices of a module's records. By mktreeto2.py. -/
import Derived.Test.YtopnodadggohiaaGreatDoorTreeTo
import Derived.Test.YtopnodadggohiaaGreatDoorTreeSz
namespace Go.Proofs.YtopnodadggohiaaGreatDoor
open Go.RowKit
set_option linter.unusedVariables false
set_option linter.unusedSimpArgs false
set_option maxRecDepth 100000

def ToF (F : Nat) (f : Fl) : Prop := ∀ (w : World) (v : Value), f.Rd w v → ToV w F f v
def ToR (F K : Nat) (r : List Fl) : Prop := ∀ (w : World) (vs : List Value), RdVals w r vs → ∀ w1 : World, Below w.heap.size w w1 → Calls Tryz.prog F #[.agg vs.toArray] w1 fun e w' => ∃ us, e = .returned (.agg (List.toArray us)) ∧ us.length = K ∧ RecHas w' w1.heap.size w'.heap.size r us ∧ Below w1.heap.size w1 w'

theorem len2 {us : List Value} (h : us.length = 2) : ∃ u0 u1, us = [u0, u1] := by
 match us, h with
 | [a, b], _ => exact ⟨a, b, rfl⟩
theorem len5 {us : List Value} (h : us.length = 5) : ∃ u0 u1 u2 u3 u4, us = [u0, u1, u2, u3, u4] := by
 match us, h with
 | [a, b, c, d, e], _ => exact ⟨a, b, c, d, e, rfl⟩
theorem len6 {us : List Value} (h : us.length = 6) : ∃ u0 u1 u2 u3 u4 u5, us = [u0, u1, u2, u3, u4, u5] := by
 match us, h with
 | [a, b, c, d, e, f], _ => exact ⟨a, b, c, d, e, f, rfl⟩

theorem rec_one {w : World} {lo hi : Nat} {f : Fl} {u : Value} (h : f.Has w lo hi u) (hl : lo ≤ hi := by omega) : RecHas w lo hi [f] [u] := by
 unfold RecHas
 refine ⟨u, [], hi, rfl, hl, Nat.le_refl _, h, ?_⟩
 unfold RecHas; rfl

theorem Blk.setAll {g : Nat} {T : TypeId} : ∀ (us : List Value) {W : World} {pre old post : List Value}, Blk W g T (pre ++ old ++ post) → old.length = us.length → Blk (setAll W g pre.length us) g T (pre ++ us ++ post) := by
 intro us
 induction us with
 | nil => intro W pre old post h hl; have : old = [] := List.eq_nil_of_length_eq_zero hl; subst this; exact h
 | cons u us ih =>
  intro W pre old post h hl
  cases old with
  | nil => simp at hl
  | cons x old =>
   have h1 := h.set (i := pre.length) u
   have e : (pre ++ x :: old ++ post).set pre.length u = (pre ++ [u]) ++ old ++ post := by simp
   rw [e] at h1
   have h2 := ih h1 (by simpa using hl)
   have e2 : (pre ++ [u]).length = pre.length + 1 := by simp
   rw [e2] at h2
   simpa [Go.Proofs.YtopnodadggohiaaGreatDoor.setAll] using h2

/-- How far the copy of a slice has come: j of n records, K cells each. -/
structure TL (w wr : World) (T K n j : Nat) (rs : List (List Fl)) (vs rest : List Value) : Prop where
 len : rest.length = (n - j) * K
 blk : Blk wr w.heap.size T (vs ++ rest)
 has : RowsHas wr K (w.heap.size + 1) wr.heap.size (rs.take j) vs
 lenr : rs.length = n
 leqj : j ≤ n
 below : Below w.heap.size w wr

theorem TL.start {w wr : World} {T K n : Nat} {rs : List (List Fl)} {xs : List Value} (hn : rs.length = n) (h : wr.ownsRow w.heap.size T K (.slice (some ⟨w.heap.size, 0, none⟩) n n) n xs) (hg : w.grownBy wr none) : ∃ vs rest, TL w wr T K n 0 rs vs rest := by
 have hl := h.1
 rcases h.2 with ⟨h', _⟩ | ⟨g', cap, cur, h', _, hgb, _, _, hs, ht⟩
 ·
  simp at h'
 ·
  simp only [Value.slice.injEq, Option.some.injEq, Addr.mk.injEq, and_true, true_and] at h'
  obtain ⟨rfl, rfl⟩ := h'
  rw [List.take_of_length_le (by simp; omega)] at ht
  refine ⟨[], xs, by simpa using hl, ?_, ?_, hn, Nat.zero_le _, (Below.refl _ _).grown hg (Nat.le_refl _) (by intro k hk; cases hk)⟩
  ·
   show wr.heap[w.heap.size]? = _
   rw [hgb, ← ht]; simp
  ·
   rw [List.take_zero]; unfold RowsHas; rfl

theorem TL.vlen {w wr : World} {T K n j : Nat} {rs : List (List Fl)} {vs rest : List Value} (h : TL w wr T K n j rs vs rest) : vs.length = j * K := by
 rw [h.has.len, List.length_take, h.lenr, Nat.min_eq_left h.leqj]

theorem TL.call {w w1 w2 : World} {T K n j : Nat} {rs : List (List Fl)} {vs rest : List Value} (h : TL w w1 T K n j rs vs rest) (hb : Below w1.heap.size w1 w2) : TL w w2 T K n j rs vs rest :=
 ⟨h.len, h.blk.below hb h.blk.lt, (h.has.stays (Stays.of hb (Nat.le_refl _))).wide (Nat.le_refl _) hb.size, h.lenr, h.leqj, h.below.trans (hb.mono h.below.size)⟩

theorem TL.cells {w wr : World} {T K n j : Nat} {rs : List (List Fl)} {vs rest : List Value} (h : TL w wr T K n j rs vs rest) (hj : j < n) : ∀ i, i < K → ∃ v, wr.cell? ⟨w.heap.size, j * K + i, none⟩ = some v := by
 intro i hi
 have hv := h.vlen
 have hr := h.len
 have hp : K ≤ (n - j) * K := Nat.le_mul_of_pos_left K (by omega)
 have hlt : i < rest.length := by omega
 refine ⟨rest[i], h.blk.cell ?_⟩
 rw [List.getElem?_append_right (by omega), hv, Nat.add_sub_cancel_left]
 exact List.getElem?_eq_getElem hlt

theorem TL.step {w w1 w2 : World} {T K n j : Nat} {rs : List (List Fl)} {vs rest us : List Value} {r : List Fl} (h : TL w w1 T K n j rs vs rest) (hj : j < n) (hb : Below w1.heap.size w1 w2) (hr : rs[j]? = some r) (hl : us.length = K) (hh : RecHas w2 w1.heap.size w2.heap.size r us) :
  TL w (setAll w2 w.heap.size (j * K) us) T K n (j + 1) rs (vs ++ us) (rest.drop K) := by
 have h2 := h.call hb
 have hv := h.vlen
 have hp : K ≤ (n - j) * K := Nat.le_mul_of_pos_left K (by omega)
 have hrl := h.len
 have hb1 : Blk (setAll w2 w.heap.size (j * K) us) w.heap.size T ((vs ++ us) ++ rest.drop K) := by
  have e : vs ++ rest = vs ++ rest.take K ++ rest.drop K := by rw [List.append_assoc, List.take_append_drop]
  have := h2.blk
  rw [e] at this
  have h3 := this.setAll us (by rw [List.length_take, hl]; omega)
  rw [hv] at h3
  exact h3
 have hlt1 := h.blk.lt
 have hrow : RowsHas w2 K (w.heap.size + 1) w2.heap.size (rs.take (j + 1)) (vs ++ us) := by
  obtain ⟨hk, e⟩ := List.getElem?_eq_some_iff.1 hr
  rw [List.take_succ_eq_append_getElem hk, e]
  exact (h.has.stays (Stays.of hb (Nat.le_refl _))).snoc hh hl (by omega) hb.size
 have key : ∀ (l : List Value) (W : World) (i : Nat), Below w.heap.size w W → RowsHas W K (w.heap.size + 1) w2.heap.size (rs.take (j + 1)) (vs ++ us) → Below w.heap.size w (setAll W w.heap.size i l) ∧ RowsHas (setAll W w.heap.size i l) K (w.heap.size + 1) w2.heap.size (rs.take (j + 1)) (vs ++ us) := by
  intro l
  induction l with
  | nil => intro W i a b; exact ⟨a, b⟩
  | cons v l ih => intro W i a b; exact ih _ _ (a.setCell (by simp) v) (b.stays (Stays.put (.inl (by omega))))
 obtain ⟨k1, k2⟩ := key us w2 (j * K) h2.below hrow
 refine ⟨?_, hb1, ?_, h.lenr, by omega, k1⟩
 ·
  rw [List.length_drop, hrl]
  have : n - j = (n - (j + 1)) + 1 := by omega
  rw [this, Nat.add_mul]; omega
 ·
  rw [setAll_size]; exact k2

theorem TL.done {w wr : World} {T K n : Nat} {rs : List (List Fl)} {vs rest : List Value} (h : TL w wr T K n n rs vs rest) (hn : rs.length = n) (hm : n ≤ maxLen) : (Fl.l K rs).Has wr w.heap.size wr.heap.size (.slice (some ⟨w.heap.size, 0, none⟩) n n) := by
 have hr : rest = [] := List.eq_nil_of_length_eq_zero (by rw [h.len]; simp)
 have hb := h.blk
 have hh := h.has
 rw [hr, List.append_nil] at hb
 rw [List.take_of_length_le (by omega)] at hh
 unfold Fl.Has
 exact ⟨w.heap.size, vs, T, by rw [hn], Nat.le_refl _, h.blk.lt, hb, by omega, hh⟩

theorem shapeVar {w : World} {lo hi : Nat} {us : List Value} {x0 : List Int} {x1 : Int} (h : RecHas w lo hi (Va.fl ⟨x0, x1⟩) us) :
  ∃ g0 m0, us = [.slice (some ⟨g0, 0, none⟩) m0 m0, .int .i64 x1] := by
 unfold Va.fl at h
 simp only [RecHas, Fl.Has] at h
 obtain ⟨u0, _, _, rfl, _, _, ⟨g0, rfl, _⟩, u1, _, _, rfl, _, _, rfl, rfl⟩ := h
 exact ⟨g0, _, rfl⟩

theorem infoVarT : (Tryz.prog.info? 101).map (fun i => (i.zero, i.size, i.bytes)) = some (some (.agg #[.slice none 0 0, .int .i64 0]), 2, 32) := by kernel_rfl

set_option maxHeartbeats 8000000 in
theorem toVarSF (l : List Va) (hlen : (l.map Va.fl).length ≤ 1048576) (H : ∀ x ∈ l, ToR 63 2 (Va.fl x)) : ToF 27 (.l 2 (l.map Va.fl)) := by
 intro w0 v hv w hb0
 obtain ⟨a, c, rfl, hl0⟩ := (hv.below hb0).list
 clear hv hb0
 have hm : (l.map Va.fl).length = l.length := by simp [exs_map, sts_map, txts]
 have hat : ∀ j, j < l.length → ∃ x ∈ l, (l.map Va.fl)[j]? = some (Va.fl x) := by
  intro j hj
  exact ⟨l[j], List.getElem_mem hj, by simp [exs_map, sts_map, txts, hj]⟩
 generalize hrs : l.map Va.fl = rs at hl0 hm hat hlen ⊢
 clear hrs
 rw [← hm] at hat
 generalize hn : rs.length = n at hl0 hat hlen ⊢
 clear hm
 obtain ⟨i0, hi, hz0, hz1, hz2⟩ := info_parts infoVarT
 have Hd : Hid (rs.length = n) := hn
 have HL : Hid (LRow w a c 2 rs) := hl0
 have HA : Hid (∀ j, j < n → ∃ x ∈ l, rs[j]? = some (Va.fl x)) := hat
 have HH : Hid (∀ x ∈ l, ToR 63 2 (Va.fl x)) := H
 clear hat H
 go_enter Tryz.func27, Tryz.ntmps27
 go_wp2_with (at_make; refine wpList_make_full _ rfl _ _ 33 rfl w.heap.size 101 i0 _ 2 Tryz.underlying33 hi hz0 hz1 _ _ _ _ n rfl rfl rfl rfl (by rw [hz2]; omega) (by unfold maxLen; omega) (Nat.le_refl _) ?_)
 intro w1 hown hgrow
 have H1 : Hid (∃ vs rest, TL w w1 101 2 n 0 rs vs rest) := TL.start Hd.out hown hgrow
 clear hown hgrow
 rcases Nat.eq_zero_or_pos n with h0 | hpos
 ·
  subst h0
  clear hl0 hn
  go_wp2_with fail
  refine wp_loop_rounds 1 ?_
  rw [rounds_succ]
  go_wp2_with fail
  go_ret
  obtain ⟨vs, rest, ht⟩ := H1.out
  exact ⟨_, _, rfl, ht.done Hd.out (by unfold maxLen; omega), ht.below⟩
 ·
  obtain ⟨b, off, rfl⟩ := hl0.addr (by rw [hn]; exact hpos)
  clear hl0 hn
  go_wp2_with fail
  go_loopw [4] (fun i wr => ∃ j : Nat, j ≤ n ∧ i = .int .i64 j ∧ Hid (∃ vs rest, TL w wr 101 2 n j rs vs rest)) (fun i _ => n - (intOf i).toNat)
  case atStart => exact ⟨0, Nat.zero_le _, rfl, H1⟩
  case round =>
   obtain ⟨j, hj, rfl, ht⟩ := hrel
   clear H1
   by_cases hlt : j < n
   ·
    obtain ⟨vs0, rest, ht⟩ := ht.out
    obtain ⟨x, hx, hxj⟩ := HA.out j hlt
    obtain ⟨vs, hvs, hcl⟩ := ((show LRow w (some ⟨b, off, none⟩) c 2 rs from HL.out).below ht.below |>.el hxj).vals
    skip
    have HC := HH.out x hx wr vs hvs wr (Below.refl _ _)
    have HT : Hid _ := ht
    have HK : Hid _ := hxj
    clear ht hxj
    generalize hfl : (Va.fl x) = fx at HC HK
    obtain ⟨x0, x1⟩ := x
    obtain ⟨y0, _, rfl, ⟨a0, c0, rfl, d0⟩, y1, _, rfl, rfl, rfl⟩ := hvs
    skip
    have q0 : wr.cell? ⟨b, off + j * 2, none⟩ = some _ := hcl 0 _ rfl
    have q1 : wr.cell? ⟨b, off + j * 2 + 1, none⟩ = some _ := hcl 1 _ rfl
    clear hcl d0 hx
    have HF : Hid _ := hfl; clear hfl
    go_wp2_with fail
    refine HC.mono ?_
    rintro e w2 ⟨us, rfl, hl, hh, hb2⟩
    obtain ⟨g0, m0_, hus⟩ := shapeVar (HF.out ▸ hh)
    subst hus
    have HS : Hid _ := HT.out.step (us := [.slice (some ⟨g0, 0, none⟩) m0_ m0_, .int .i64 x1]) hlt hb2 HK.out rfl hh
    have hcs := (HT.out.call hb2).cells hlt
    obtain ⟨v0, k0⟩ := hcs 0 (by omega)
    have z0 := (HT.out.call hb2).blk.free (j * 2 + 0)
    obtain ⟨v1, k1⟩ := hcs 1 (by omega)
    have z1 := (HT.out.call hb2).blk.free (j * 2 + 1)
    clear hcs hh hb2 HC HT HK q0 q1
    simp only [Nat.add_zero, Nat.mul_one] at k0 z0 k1 z1
    go_wp2_with fail
    go_roundw
    case rel => exact ⟨j + 1, by omega, by go_num, ⟨_, _, HS.out⟩⟩
    case measure => simp [intOf]; omega
   ·
    have : j = n := by omega
    subst this
    go_wp2_with fail
    go_ret
    obtain ⟨vs, rest, ht⟩ := ht.out
    exact ⟨_, _, rfl, ht.done Hd.out (by unfold maxLen; omega), ht.below⟩

theorem shapeParam {w : World} {lo hi : Nat} {us : List Value} {x0 : List Int} {x1 : Bool} (h : RecHas w lo hi (Pa.fl ⟨x0, x1⟩) us) :
  ∃ g0 m0, us = [.slice (some ⟨g0, 0, none⟩) m0 m0, .bool x1] := by
 unfold Pa.fl at h
 simp only [RecHas, Fl.Has] at h
 obtain ⟨u0, _, _, rfl, _, _, ⟨g0, rfl, _⟩, u1, _, _, rfl, _, _, rfl, rfl⟩ := h
 exact ⟨g0, _, rfl⟩

theorem infoParamT : (Tryz.prog.info? 107).map (fun i => (i.zero, i.size, i.bytes)) = some (some (.agg #[.slice none 0 0, .bool false]), 2, 32) := by kernel_rfl

set_option maxHeartbeats 8000000 in
theorem toParamSF (l : List Pa) (hlen : (l.map Pa.fl).length ≤ 1048576) (H : ∀ x ∈ l, ToR 145 2 (Pa.fl x)) : ToF 110 (.l 2 (l.map Pa.fl)) := by
 intro w0 v hv w hb0
 obtain ⟨a, c, rfl, hl0⟩ := (hv.below hb0).list
 clear hv hb0
 have hm : (l.map Pa.fl).length = l.length := by simp [exs_map, sts_map, txts]
 have hat : ∀ j, j < l.length → ∃ x ∈ l, (l.map Pa.fl)[j]? = some (Pa.fl x) := by
  intro j hj
  exact ⟨l[j], List.getElem_mem hj, by simp [exs_map, sts_map, txts, hj]⟩
 generalize hrs : l.map Pa.fl = rs at hl0 hm hat hlen ⊢
 clear hrs
 rw [← hm] at hat
 generalize hn : rs.length = n at hl0 hat hlen ⊢
 clear hm
 obtain ⟨i0, hi, hz0, hz1, hz2⟩ := info_parts infoParamT
 have Hd : Hid (rs.length = n) := hn
 have HL : Hid (LRow w a c 2 rs) := hl0
 have HA : Hid (∀ j, j < n → ∃ x ∈ l, rs[j]? = some (Pa.fl x)) := hat
 have HH : Hid (∀ x ∈ l, ToR 145 2 (Pa.fl x)) := H
 clear hat H
 go_enter Tryz.func110, Tryz.ntmps110
 go_wp2_with (at_make; refine wpList_make_full _ rfl _ _ 59 rfl w.heap.size 107 i0 _ 2 Tryz.underlying59 hi hz0 hz1 _ _ _ _ n rfl rfl rfl rfl (by rw [hz2]; omega) (by unfold maxLen; omega) (Nat.le_refl _) ?_)
 intro w1 hown hgrow
 have H1 : Hid (∃ vs rest, TL w w1 107 2 n 0 rs vs rest) := TL.start Hd.out hown hgrow
 clear hown hgrow
 rcases Nat.eq_zero_or_pos n with h0 | hpos
 ·
  subst h0
  clear hl0 hn
  go_wp2_with fail
  refine wp_loop_rounds 1 ?_
  rw [rounds_succ]
  go_wp2_with fail
  go_ret
  obtain ⟨vs, rest, ht⟩ := H1.out
  exact ⟨_, _, rfl, ht.done Hd.out (by unfold maxLen; omega), ht.below⟩
 ·
  obtain ⟨b, off, rfl⟩ := hl0.addr (by rw [hn]; exact hpos)
  clear hl0 hn
  go_wp2_with fail
  go_loopw [4] (fun i wr => ∃ j : Nat, j ≤ n ∧ i = .int .i64 j ∧ Hid (∃ vs rest, TL w wr 107 2 n j rs vs rest)) (fun i _ => n - (intOf i).toNat)
  case atStart => exact ⟨0, Nat.zero_le _, rfl, H1⟩
  case round =>
   obtain ⟨j, hj, rfl, ht⟩ := hrel
   clear H1
   by_cases hlt : j < n
   ·
    obtain ⟨vs0, rest, ht⟩ := ht.out
    obtain ⟨x, hx, hxj⟩ := HA.out j hlt
    obtain ⟨vs, hvs, hcl⟩ := ((show LRow w (some ⟨b, off, none⟩) c 2 rs from HL.out).below ht.below |>.el hxj).vals
    skip
    have HC := HH.out x hx wr vs hvs wr (Below.refl _ _)
    have HT : Hid _ := ht
    have HK : Hid _ := hxj
    clear ht hxj
    generalize hfl : (Pa.fl x) = fx at HC HK
    obtain ⟨x0, x1⟩ := x
    obtain ⟨y0, _, rfl, ⟨a0, c0, rfl, d0⟩, y1, _, rfl, rfl, rfl⟩ := hvs
    skip
    have q0 : wr.cell? ⟨b, off + j * 2, none⟩ = some _ := hcl 0 _ rfl
    have q1 : wr.cell? ⟨b, off + j * 2 + 1, none⟩ = some _ := hcl 1 _ rfl
    clear hcl d0 hx
    have HF : Hid _ := hfl; clear hfl
    go_wp2_with fail
    refine HC.mono ?_
    rintro e w2 ⟨us, rfl, hl, hh, hb2⟩
    obtain ⟨g0, m0_, hus⟩ := shapeParam (HF.out ▸ hh)
    subst hus
    have HS : Hid _ := HT.out.step (us := [.slice (some ⟨g0, 0, none⟩) m0_ m0_, .bool x1]) hlt hb2 HK.out rfl hh
    have hcs := (HT.out.call hb2).cells hlt
    obtain ⟨v0, k0⟩ := hcs 0 (by omega)
    have z0 := (HT.out.call hb2).blk.free (j * 2 + 0)
    obtain ⟨v1, k1⟩ := hcs 1 (by omega)
    have z1 := (HT.out.call hb2).blk.free (j * 2 + 1)
    clear hcs hh hb2 HC HT HK q0 q1
    simp only [Nat.add_zero, Nat.mul_one] at k0 z0 k1 z1
    go_wp2_with fail
    go_roundw
    case rel => exact ⟨j + 1, by omega, by go_num, ⟨_, _, HS.out⟩⟩
    case measure => simp [intOf]; omega
   ·
    have : j = n := by omega
    subst this
    go_wp2_with fail
    go_ret
    obtain ⟨vs, rest, ht⟩ := ht.out
    exact ⟨_, _, rfl, ht.done Hd.out (by unfold maxLen; omega), ht.below⟩

theorem shapeExpr {w : World} {lo hi : Nat} {us : List Value} {x0 : Int} {x1 : Int} {x2 : List Int} {x3 : List Int} {x4 : List Ex} (h : RecHas w lo hi (Ex.fl ⟨x0, x1, x2, x3, x4⟩) us) :
  ∃ g2 m2 g3 m3 g4 m4, us = [.int .i64 x0, .int .i64 x1, .slice (some ⟨g2, 0, none⟩) m2 m2, .slice (some ⟨g3, 0, none⟩) m3 m3, .slice (some ⟨g4, 0, none⟩) m4 m4] := by
 unfold Ex.fl at h
 simp only [RecHas, Fl.Has] at h
 obtain ⟨u0, _, _, rfl, _, _, rfl, u1, _, _, rfl, _, _, rfl, u2, _, _, rfl, _, _, ⟨g2, rfl, _⟩, u3, _, _, rfl, _, _, ⟨g3, rfl, _⟩, u4, _, _, rfl, _, _, ⟨g4, _, _, rfl, _⟩, rfl⟩ := h
 exact ⟨g2, _, g3, _, g4, _, rfl⟩

theorem infoExprT : (Tryz.prog.info? 125).map (fun i => (i.zero, i.size, i.bytes)) = some (some (.agg #[.int .i64 0, .int .i64 0, .slice none 0 0, .slice none 0 0, .slice none 0 0]), 5, 88) := by kernel_rfl

set_option maxHeartbeats 8000000 in
theorem toExprSF (l : List Ex) (hlen : (exs l).length ≤ 1048576) (H : ∀ x ∈ l, ToR 203 5 (Ex.fl x)) : ToF 181 (.l 5 (exs l)) := by
 intro w0 v hv w hb0
 obtain ⟨a, c, rfl, hl0⟩ := (hv.below hb0).list
 clear hv hb0
 have hm : (exs l).length = l.length := by simp [exs_map, sts_map, txts]
 have hat : ∀ j, j < l.length → ∃ x ∈ l, (exs l)[j]? = some (Ex.fl x) := by
  intro j hj
  exact ⟨l[j], List.getElem_mem hj, by simp [exs_map, sts_map, txts, hj]⟩
 generalize hrs : exs l = rs at hl0 hm hat hlen ⊢
 clear hrs
 rw [← hm] at hat
 generalize hn : rs.length = n at hl0 hat hlen ⊢
 clear hm
 obtain ⟨i0, hi, hz0, hz1, hz2⟩ := info_parts infoExprT
 have Hd : Hid (rs.length = n) := hn
 have HL : Hid (LRow w a c 5 rs) := hl0
 have HA : Hid (∀ j, j < n → ∃ x ∈ l, rs[j]? = some (Ex.fl x)) := hat
 have HH : Hid (∀ x ∈ l, ToR 203 5 (Ex.fl x)) := H
 clear hat H
 go_enter Tryz.func181, Tryz.ntmps181
 go_wp2_with (at_make; refine wpList_make_full _ rfl _ _ 119 rfl w.heap.size 125 i0 _ 5 Tryz.underlying119 hi hz0 hz1 _ _ _ _ n rfl rfl rfl rfl (by rw [hz2]; omega) (by unfold maxLen; omega) (Nat.le_refl _) ?_)
 intro w1 hown hgrow
 have H1 : Hid (∃ vs rest, TL w w1 125 5 n 0 rs vs rest) := TL.start Hd.out hown hgrow
 clear hown hgrow
 rcases Nat.eq_zero_or_pos n with h0 | hpos
 ·
  subst h0
  clear hl0 hn
  go_wp2_with fail
  refine wp_loop_rounds 1 ?_
  rw [rounds_succ]
  go_wp2_with fail
  go_ret
  obtain ⟨vs, rest, ht⟩ := H1.out
  exact ⟨_, _, rfl, ht.done Hd.out (by unfold maxLen; omega), ht.below⟩
 ·
  obtain ⟨b, off, rfl⟩ := hl0.addr (by rw [hn]; exact hpos)
  clear hl0 hn
  go_wp2_with fail
  go_loopw [4] (fun i wr => ∃ j : Nat, j ≤ n ∧ i = .int .i64 j ∧ Hid (∃ vs rest, TL w wr 125 5 n j rs vs rest)) (fun i _ => n - (intOf i).toNat)
  case atStart => exact ⟨0, Nat.zero_le _, rfl, H1⟩
  case round =>
   obtain ⟨j, hj, rfl, ht⟩ := hrel
   clear H1
   by_cases hlt : j < n
   ·
    obtain ⟨vs0, rest, ht⟩ := ht.out
    obtain ⟨x, hx, hxj⟩ := HA.out j hlt
    obtain ⟨vs, hvs, hcl⟩ := ((show LRow w (some ⟨b, off, none⟩) c 5 rs from HL.out).below ht.below |>.el hxj).vals
    skip
    have HC := HH.out x hx wr vs hvs wr (Below.refl _ _)
    have HT : Hid _ := ht
    have HK : Hid _ := hxj
    clear ht hxj
    generalize hfl : (Ex.fl x) = fx at HC HK
    obtain ⟨x0, x1, x2, x3, x4⟩ := x
    obtain ⟨y0, _, rfl, rfl, y1, _, rfl, rfl, y2, _, rfl, ⟨a2, c2, rfl, d2⟩, y3, _, rfl, ⟨a3, c3, rfl, d3⟩, y4, _, rfl, ⟨a4, c4, rfl, d4⟩, rfl⟩ := hvs
    generalize (exs x4).length = m4 at HC hcl
    have q0 : wr.cell? ⟨b, off + j * 5, none⟩ = some _ := hcl 0 _ rfl
    have q1 : wr.cell? ⟨b, off + j * 5 + 1, none⟩ = some _ := hcl 1 _ rfl
    have q2 : wr.cell? ⟨b, off + j * 5 + 2, none⟩ = some _ := hcl 2 _ rfl
    have q3 : wr.cell? ⟨b, off + j * 5 + 3, none⟩ = some _ := hcl 3 _ rfl
    have q4 : wr.cell? ⟨b, off + j * 5 + 4, none⟩ = some _ := hcl 4 _ rfl
    clear hcl d2 d3 d4 hx
    have HF : Hid _ := hfl; clear hfl
    go_wp2_with fail
    refine HC.mono ?_
    rintro e w2 ⟨us, rfl, hl, hh, hb2⟩
    obtain ⟨g2, m2_, g3, m3_, g4, m4_, hus⟩ := shapeExpr (HF.out ▸ hh)
    subst hus
    have HS : Hid _ := HT.out.step (us := [.int .i64 x0, .int .i64 x1, .slice (some ⟨g2, 0, none⟩) m2_ m2_, .slice (some ⟨g3, 0, none⟩) m3_ m3_, .slice (some ⟨g4, 0, none⟩) m4_ m4_]) hlt hb2 HK.out rfl hh
    have hcs := (HT.out.call hb2).cells hlt
    obtain ⟨v0, k0⟩ := hcs 0 (by omega)
    have z0 := (HT.out.call hb2).blk.free (j * 5 + 0)
    obtain ⟨v1, k1⟩ := hcs 1 (by omega)
    have z1 := (HT.out.call hb2).blk.free (j * 5 + 1)
    obtain ⟨v2, k2⟩ := hcs 2 (by omega)
    have z2 := (HT.out.call hb2).blk.free (j * 5 + 2)
    obtain ⟨v3, k3⟩ := hcs 3 (by omega)
    have z3 := (HT.out.call hb2).blk.free (j * 5 + 3)
    obtain ⟨v4, k4⟩ := hcs 4 (by omega)
    have z4 := (HT.out.call hb2).blk.free (j * 5 + 4)
    clear hcs hh hb2 HC HT HK q0 q1 q2 q3 q4
    simp only [Nat.add_zero, Nat.mul_one] at k0 z0 k1 z1 k2 z2 k3 z3 k4 z4
    go_wp2_with fail
    go_roundw
    case rel => exact ⟨j + 1, by omega, by go_num, ⟨_, _, HS.out⟩⟩
    case measure => simp [intOf]; omega
   ·
    have : j = n := by omega
    subst this
    go_wp2_with fail
    go_ret
    obtain ⟨vs, rest, ht⟩ := ht.out
    exact ⟨_, _, rfl, ht.done Hd.out (by unfold maxLen; omega), ht.below⟩

theorem shapeStmt {w : World} {lo hi : Nat} {us : List Value} {x0 : Int} {x1 : Int} {x2 : List Int} {x3 : List Ex} {x4 : List St} {x5 : List St} (h : RecHas w lo hi (St.fl ⟨x0, x1, x2, x3, x4, x5⟩) us) :
  ∃ g2 m2 g3 m3 g4 m4 g5 m5, us = [.int .i64 x0, .int .i64 x1, .slice (some ⟨g2, 0, none⟩) m2 m2, .slice (some ⟨g3, 0, none⟩) m3 m3, .slice (some ⟨g4, 0, none⟩) m4 m4, .slice (some ⟨g5, 0, none⟩) m5 m5] := by
 unfold St.fl at h
 simp only [RecHas, Fl.Has] at h
 obtain ⟨u0, _, _, rfl, _, _, rfl, u1, _, _, rfl, _, _, rfl, u2, _, _, rfl, _, _, ⟨g2, rfl, _⟩, u3, _, _, rfl, _, _, ⟨g3, _, _, rfl, _⟩, u4, _, _, rfl, _, _, ⟨g4, _, _, rfl, _⟩, u5, _, _, rfl, _, _, ⟨g5, _, _, rfl, _⟩, rfl⟩ := h
 exact ⟨g2, _, g3, _, g4, _, g5, _, rfl⟩

theorem infoStmtT : (Tryz.prog.info? 121).map (fun i => (i.zero, i.size, i.bytes)) = some (some (.agg #[.int .i64 0, .int .i64 0, .slice none 0 0, .slice none 0 0, .slice none 0 0, .slice none 0 0]), 6, 112) := by kernel_rfl

set_option maxHeartbeats 8000000 in
theorem toStmtSF (l : List St) (hlen : (sts l).length ≤ 1048576) (H : ∀ x ∈ l, ToR 146 6 (St.fl x)) : ToF 111 (.l 6 (sts l)) := by
 intro w0 v hv w hb0
 obtain ⟨a, c, rfl, hl0⟩ := (hv.below hb0).list
 clear hv hb0
 have hm : (sts l).length = l.length := by simp [exs_map, sts_map, txts]
 have hat : ∀ j, j < l.length → ∃ x ∈ l, (sts l)[j]? = some (St.fl x) := by
  intro j hj
  exact ⟨l[j], List.getElem_mem hj, by simp [exs_map, sts_map, txts, hj]⟩
 generalize hrs : sts l = rs at hl0 hm hat hlen ⊢
 clear hrs
 rw [← hm] at hat
 generalize hn : rs.length = n at hl0 hat hlen ⊢
 clear hm
 obtain ⟨i0, hi, hz0, hz1, hz2⟩ := info_parts infoStmtT
 have Hd : Hid (rs.length = n) := hn
 have HL : Hid (LRow w a c 6 rs) := hl0
 have HA : Hid (∀ j, j < n → ∃ x ∈ l, rs[j]? = some (St.fl x)) := hat
 have HH : Hid (∀ x ∈ l, ToR 146 6 (St.fl x)) := H
 clear hat H
 go_enter Tryz.func111, Tryz.ntmps111
 go_wp2_with (at_make; refine wpList_make_full _ rfl _ _ 60 rfl w.heap.size 121 i0 _ 6 Tryz.underlying60 hi hz0 hz1 _ _ _ _ n rfl rfl rfl rfl (by rw [hz2]; omega) (by unfold maxLen; omega) (Nat.le_refl _) ?_)
 intro w1 hown hgrow
 have H1 : Hid (∃ vs rest, TL w w1 121 6 n 0 rs vs rest) := TL.start Hd.out hown hgrow
 clear hown hgrow
 rcases Nat.eq_zero_or_pos n with h0 | hpos
 ·
  subst h0
  clear hl0 hn
  go_wp2_with fail
  refine wp_loop_rounds 1 ?_
  rw [rounds_succ]
  go_wp2_with fail
  go_ret
  obtain ⟨vs, rest, ht⟩ := H1.out
  exact ⟨_, _, rfl, ht.done Hd.out (by unfold maxLen; omega), ht.below⟩
 ·
  obtain ⟨b, off, rfl⟩ := hl0.addr (by rw [hn]; exact hpos)
  clear hl0 hn
  go_wp2_with fail
  go_loopw [4] (fun i wr => ∃ j : Nat, j ≤ n ∧ i = .int .i64 j ∧ Hid (∃ vs rest, TL w wr 121 6 n j rs vs rest)) (fun i _ => n - (intOf i).toNat)
  case atStart => exact ⟨0, Nat.zero_le _, rfl, H1⟩
  case round =>
   obtain ⟨j, hj, rfl, ht⟩ := hrel
   clear H1
   by_cases hlt : j < n
   ·
    obtain ⟨vs0, rest, ht⟩ := ht.out
    obtain ⟨x, hx, hxj⟩ := HA.out j hlt
    obtain ⟨vs, hvs, hcl⟩ := ((show LRow w (some ⟨b, off, none⟩) c 6 rs from HL.out).below ht.below |>.el hxj).vals
    skip
    have HC := HH.out x hx wr vs hvs wr (Below.refl _ _)
    have HT : Hid _ := ht
    have HK : Hid _ := hxj
    clear ht hxj
    generalize hfl : (St.fl x) = fx at HC HK
    obtain ⟨x0, x1, x2, x3, x4, x5⟩ := x
    obtain ⟨y0, _, rfl, rfl, y1, _, rfl, rfl, y2, _, rfl, ⟨a2, c2, rfl, d2⟩, y3, _, rfl, ⟨a3, c3, rfl, d3⟩, y4, _, rfl, ⟨a4, c4, rfl, d4⟩, y5, _, rfl, ⟨a5, c5, rfl, d5⟩, rfl⟩ := hvs
    generalize (exs x3).length = m3 at HC hcl; generalize (sts x4).length = m4 at HC hcl; generalize (sts x5).length = m5 at HC hcl
    have q0 : wr.cell? ⟨b, off + j * 6, none⟩ = some _ := hcl 0 _ rfl
    have q1 : wr.cell? ⟨b, off + j * 6 + 1, none⟩ = some _ := hcl 1 _ rfl
    have q2 : wr.cell? ⟨b, off + j * 6 + 2, none⟩ = some _ := hcl 2 _ rfl
    have q3 : wr.cell? ⟨b, off + j * 6 + 3, none⟩ = some _ := hcl 3 _ rfl
    have q4 : wr.cell? ⟨b, off + j * 6 + 4, none⟩ = some _ := hcl 4 _ rfl
    have q5 : wr.cell? ⟨b, off + j * 6 + 5, none⟩ = some _ := hcl 5 _ rfl
    clear hcl d2 d3 d4 d5 hx
    have HF : Hid _ := hfl; clear hfl
    go_wp2_with fail
    refine HC.mono ?_
    rintro e w2 ⟨us, rfl, hl, hh, hb2⟩
    obtain ⟨g2, m2_, g3, m3_, g4, m4_, g5, m5_, hus⟩ := shapeStmt (HF.out ▸ hh)
    subst hus
    have HS : Hid _ := HT.out.step (us := [.int .i64 x0, .int .i64 x1, .slice (some ⟨g2, 0, none⟩) m2_ m2_, .slice (some ⟨g3, 0, none⟩) m3_ m3_, .slice (some ⟨g4, 0, none⟩) m4_ m4_, .slice (some ⟨g5, 0, none⟩) m5_ m5_]) hlt hb2 HK.out rfl hh
    have hcs := (HT.out.call hb2).cells hlt
    obtain ⟨v0, k0⟩ := hcs 0 (by omega)
    have z0 := (HT.out.call hb2).blk.free (j * 6 + 0)
    obtain ⟨v1, k1⟩ := hcs 1 (by omega)
    have z1 := (HT.out.call hb2).blk.free (j * 6 + 1)
    obtain ⟨v2, k2⟩ := hcs 2 (by omega)
    have z2 := (HT.out.call hb2).blk.free (j * 6 + 2)
    obtain ⟨v3, k3⟩ := hcs 3 (by omega)
    have z3 := (HT.out.call hb2).blk.free (j * 6 + 3)
    obtain ⟨v4, k4⟩ := hcs 4 (by omega)
    have z4 := (HT.out.call hb2).blk.free (j * 6 + 4)
    obtain ⟨v5, k5⟩ := hcs 5 (by omega)
    have z5 := (HT.out.call hb2).blk.free (j * 6 + 5)
    clear hcs hh hb2 HC HT HK q0 q1 q2 q3 q4 q5
    simp only [Nat.add_zero, Nat.mul_one] at k0 z0 k1 z1 k2 z2 k3 z3 k4 z4 k5 z5
    go_wp2_with fail
    go_roundw
    case rel => exact ⟨j + 1, by omega, by go_num, ⟨_, _, HS.out⟩⟩
    case measure => simp [intOf]; omega
   ·
    have : j = n := by omega
    subst this
    go_wp2_with fail
    go_ret
    obtain ⟨vs, rest, ht⟩ := ht.out
    exact ⟨_, _, rfl, ht.done Hd.out (by unfold maxLen; omega), ht.below⟩

theorem shapeProc {w : World} {lo hi : Nat} {us : List Value} {x0 : List Int} {x1 : Bool} {x2 : List Pa} {x3 : List (List Int)} {x4 : List St} (h : RecHas w lo hi (Pr.fl ⟨x0, x1, x2, x3, x4⟩) us) :
  ∃ g0 m0 g2 m2 g3 m3 g4 m4, us = [.slice (some ⟨g0, 0, none⟩) m0 m0, .bool x1, .slice (some ⟨g2, 0, none⟩) m2 m2, .slice (some ⟨g3, 0, none⟩) m3 m3, .slice (some ⟨g4, 0, none⟩) m4 m4] := by
 unfold Pr.fl at h
 simp only [RecHas, Fl.Has] at h
 obtain ⟨u0, _, _, rfl, _, _, ⟨g0, rfl, _⟩, u1, _, _, rfl, _, _, rfl, u2, _, _, rfl, _, _, ⟨g2, _, _, rfl, _⟩, u3, _, _, rfl, _, _, ⟨g3, _, _, rfl, _⟩, u4, _, _, rfl, _, _, ⟨g4, _, _, rfl, _⟩, rfl⟩ := h
 exact ⟨g0, _, g2, _, g3, _, g4, _, rfl⟩

theorem infoProcT : (Tryz.prog.info? 62).map (fun i => (i.zero, i.size, i.bytes)) = some (some (.agg #[.slice none 0 0, .bool false, .slice none 0 0, .slice none 0 0, .slice none 0 0]), 5, 104) := by kernel_rfl

set_option maxHeartbeats 8000000 in
theorem toProcSF (l : List Pr) (hlen : (l.map Pr.fl).length ≤ 1048576) (H : ∀ x ∈ l, ToR 64 5 (Pr.fl x)) : ToF 28 (.l 5 (l.map Pr.fl)) := by
 intro w0 v hv w hb0
 obtain ⟨a, c, rfl, hl0⟩ := (hv.below hb0).list
 clear hv hb0
 have hm : (l.map Pr.fl).length = l.length := by simp [exs_map, sts_map, txts]
 have hat : ∀ j, j < l.length → ∃ x ∈ l, (l.map Pr.fl)[j]? = some (Pr.fl x) := by
  intro j hj
  exact ⟨l[j], List.getElem_mem hj, by simp [exs_map, sts_map, txts, hj]⟩
 generalize hrs : l.map Pr.fl = rs at hl0 hm hat hlen ⊢
 clear hrs
 rw [← hm] at hat
 generalize hn : rs.length = n at hl0 hat hlen ⊢
 clear hm
 obtain ⟨i0, hi, hz0, hz1, hz2⟩ := info_parts infoProcT
 have Hd : Hid (rs.length = n) := hn
 have HL : Hid (LRow w a c 5 rs) := hl0
 have HA : Hid (∀ j, j < n → ∃ x ∈ l, rs[j]? = some (Pr.fl x)) := hat
 have HH : Hid (∀ x ∈ l, ToR 64 5 (Pr.fl x)) := H
 clear hat H
 go_enter Tryz.func28, Tryz.ntmps28
 go_wp2_with (at_make; refine wpList_make_full _ rfl _ _ 34 rfl w.heap.size 62 i0 _ 5 Tryz.underlying34 hi hz0 hz1 _ _ _ _ n rfl rfl rfl rfl (by rw [hz2]; omega) (by unfold maxLen; omega) (Nat.le_refl _) ?_)
 intro w1 hown hgrow
 have H1 : Hid (∃ vs rest, TL w w1 62 5 n 0 rs vs rest) := TL.start Hd.out hown hgrow
 clear hown hgrow
 rcases Nat.eq_zero_or_pos n with h0 | hpos
 ·
  subst h0
  clear hl0 hn
  go_wp2_with fail
  refine wp_loop_rounds 1 ?_
  rw [rounds_succ]
  go_wp2_with fail
  go_ret
  obtain ⟨vs, rest, ht⟩ := H1.out
  exact ⟨_, _, rfl, ht.done Hd.out (by unfold maxLen; omega), ht.below⟩
 ·
  obtain ⟨b, off, rfl⟩ := hl0.addr (by rw [hn]; exact hpos)
  clear hl0 hn
  go_wp2_with fail
  go_loopw [4] (fun i wr => ∃ j : Nat, j ≤ n ∧ i = .int .i64 j ∧ Hid (∃ vs rest, TL w wr 62 5 n j rs vs rest)) (fun i _ => n - (intOf i).toNat)
  case atStart => exact ⟨0, Nat.zero_le _, rfl, H1⟩
  case round =>
   obtain ⟨j, hj, rfl, ht⟩ := hrel
   clear H1
   by_cases hlt : j < n
   ·
    obtain ⟨vs0, rest, ht⟩ := ht.out
    obtain ⟨x, hx, hxj⟩ := HA.out j hlt
    obtain ⟨vs, hvs, hcl⟩ := ((show LRow w (some ⟨b, off, none⟩) c 5 rs from HL.out).below ht.below |>.el hxj).vals
    skip
    have HC := HH.out x hx wr vs hvs wr (Below.refl _ _)
    have HT : Hid _ := ht
    have HK : Hid _ := hxj
    clear ht hxj
    generalize hfl : (Pr.fl x) = fx at HC HK
    obtain ⟨x0, x1, x2, x3, x4⟩ := x
    obtain ⟨y0, _, rfl, ⟨a0, c0, rfl, d0⟩, y1, _, rfl, rfl, y2, _, rfl, ⟨a2, c2, rfl, d2⟩, y3, _, rfl, ⟨a3, c3, rfl, d3⟩, y4, _, rfl, ⟨a4, c4, rfl, d4⟩, rfl⟩ := hvs
    generalize (List.map Pa.fl x2).length = m2 at HC hcl; generalize (txts x3).length = m3 at HC hcl; generalize (sts x4).length = m4 at HC hcl
    have q0 : wr.cell? ⟨b, off + j * 5, none⟩ = some _ := hcl 0 _ rfl
    have q1 : wr.cell? ⟨b, off + j * 5 + 1, none⟩ = some _ := hcl 1 _ rfl
    have q2 : wr.cell? ⟨b, off + j * 5 + 2, none⟩ = some _ := hcl 2 _ rfl
    have q3 : wr.cell? ⟨b, off + j * 5 + 3, none⟩ = some _ := hcl 3 _ rfl
    have q4 : wr.cell? ⟨b, off + j * 5 + 4, none⟩ = some _ := hcl 4 _ rfl
    clear hcl d0 d2 d3 d4 hx
    have HF : Hid _ := hfl; clear hfl
    go_wp2_with fail
    refine HC.mono ?_
    rintro e w2 ⟨us, rfl, hl, hh, hb2⟩
    obtain ⟨g0, m0_, g2, m2_, g3, m3_, g4, m4_, hus⟩ := shapeProc (HF.out ▸ hh)
    subst hus
    have HS : Hid _ := HT.out.step (us := [.slice (some ⟨g0, 0, none⟩) m0_ m0_, .bool x1, .slice (some ⟨g2, 0, none⟩) m2_ m2_, .slice (some ⟨g3, 0, none⟩) m3_ m3_, .slice (some ⟨g4, 0, none⟩) m4_ m4_]) hlt hb2 HK.out rfl hh
    have hcs := (HT.out.call hb2).cells hlt
    obtain ⟨v0, k0⟩ := hcs 0 (by omega)
    have z0 := (HT.out.call hb2).blk.free (j * 5 + 0)
    obtain ⟨v1, k1⟩ := hcs 1 (by omega)
    have z1 := (HT.out.call hb2).blk.free (j * 5 + 1)
    obtain ⟨v2, k2⟩ := hcs 2 (by omega)
    have z2 := (HT.out.call hb2).blk.free (j * 5 + 2)
    obtain ⟨v3, k3⟩ := hcs 3 (by omega)
    have z3 := (HT.out.call hb2).blk.free (j * 5 + 3)
    obtain ⟨v4, k4⟩ := hcs 4 (by omega)
    have z4 := (HT.out.call hb2).blk.free (j * 5 + 4)
    clear hcs hh hb2 HC HT HK q0 q1 q2 q3 q4
    simp only [Nat.add_zero, Nat.mul_one] at k0 z0 k1 z1 k2 z2 k3 z3 k4 z4
    go_wp2_with fail
    go_roundw
    case rel => exact ⟨j + 1, by omega, by go_num, ⟨_, _, HS.out⟩⟩
    case measure => simp [intOf]; omega
   ·
    have : j = n := by omega
    subst this
    go_wp2_with fail
    go_ret
    obtain ⟨vs, rest, ht⟩ := ht.out
    exact ⟨_, _, rfl, ht.done Hd.out (by unfold maxLen; omega), ht.below⟩

theorem shapeFaceProc {w : World} {lo hi : Nat} {us : List Value} {x0 : List Int} {x1 : List Int} (h : RecHas w lo hi (Fp.fl ⟨x0, x1⟩) us) :
  ∃ g0 m0 g1 m1, us = [.slice (some ⟨g0, 0, none⟩) m0 m0, .slice (some ⟨g1, 0, none⟩) m1 m1] := by
 unfold Fp.fl at h
 simp only [RecHas, Fl.Has] at h
 obtain ⟨u0, _, _, rfl, _, _, ⟨g0, rfl, _⟩, u1, _, _, rfl, _, _, ⟨g1, rfl, _⟩, rfl⟩ := h
 exact ⟨g0, _, g1, _, rfl⟩

theorem shapeFace {w : World} {lo hi : Nat} {us : List Value} {x0 : List Int} {x1 : List Fp} (h : RecHas w lo hi (Fa.fl ⟨x0, x1⟩) us) :
  ∃ g0 m0 g1 m1, us = [.slice (some ⟨g0, 0, none⟩) m0 m0, .slice (some ⟨g1, 0, none⟩) m1 m1] := by
 unfold Fa.fl at h
 simp only [RecHas, Fl.Has] at h
 obtain ⟨u0, _, _, rfl, _, _, ⟨g0, rfl, _⟩, u1, _, _, rfl, _, _, ⟨g1, _, _, rfl, _⟩, rfl⟩ := h
 exact ⟨g0, _, g1, _, rfl⟩

theorem infoByteST : (Tryz.prog.info? 22).map (fun i => (i.zero, i.size, i.bytes)) = some (some (.slice none 0 0), 1, 24) := by kernel_rfl

set_option maxHeartbeats 8000000 in
theorem toByteSSF (l : List (List Int)) (hlen : (txts l).length ≤ 1048576) (H : ∀ x ∈ l, ToF 25 (.b x)) : ToF 26 (.l 1 (txts l)) := by
 intro w0 v hv w hb0
 obtain ⟨a, c, rfl, hl0⟩ := (hv.below hb0).list
 clear hv hb0
 have hm : (txts l).length = l.length := by simp [exs_map, sts_map, txts]
 have hat : ∀ j, j < l.length → ∃ x ∈ l, (txts l)[j]? = some [.b x] := by
  intro j hj
  exact ⟨l[j], List.getElem_mem hj, by simp [exs_map, sts_map, txts, hj]⟩
 generalize hrs : txts l = rs at hl0 hm hat hlen ⊢
 clear hrs
 rw [← hm] at hat
 generalize hn : rs.length = n at hl0 hat hlen ⊢
 clear hm
 obtain ⟨i0, hi, hz0, hz1, hz2⟩ := info_parts infoByteST
 have Hd : Hid (rs.length = n) := hn
 have HL : Hid (LRow w a c 1 rs) := hl0
 have HA : Hid (∀ j, j < n → ∃ x ∈ l, rs[j]? = some [.b x]) := hat
 have HH : Hid (∀ x ∈ l, ToF 25 (.b x)) := H
 clear hat H
 go_enter Tryz.func26, Tryz.ntmps26
 go_wp2_with (at_make; refine wpList_make_full _ rfl _ _ 23 rfl w.heap.size 22 i0 _ 1 Tryz.underlying23 hi hz0 hz1 _ _ _ _ n rfl rfl rfl rfl (by rw [hz2]; omega) (by unfold maxLen; omega) (Nat.le_refl _) ?_)
 intro w1 hown hgrow
 have H1 : Hid (∃ vs rest, TL w w1 22 1 n 0 rs vs rest) := TL.start Hd.out hown hgrow
 clear hown hgrow
 rcases Nat.eq_zero_or_pos n with h0 | hpos
 ·
  subst h0
  clear hl0 hn
  go_wp2_with fail
  refine wp_loop_rounds 1 ?_
  rw [rounds_succ]
  go_wp2_with fail
  go_ret
  obtain ⟨vs, rest, ht⟩ := H1.out
  exact ⟨_, _, rfl, ht.done Hd.out (by unfold maxLen; omega), ht.below⟩
 ·
  obtain ⟨b, off, rfl⟩ := hl0.addr (by rw [hn]; exact hpos)
  clear hl0 hn
  go_wp2_with fail
  go_loopw [4] (fun i wr => ∃ j : Nat, j ≤ n ∧ i = .int .i64 j ∧ Hid (∃ vs rest, TL w wr 22 1 n j rs vs rest)) (fun i _ => n - (intOf i).toNat)
  case atStart => exact ⟨0, Nat.zero_le _, rfl, H1⟩
  case round =>
   obtain ⟨j, hj, rfl, ht⟩ := hrel
   clear H1
   by_cases hlt : j < n
   ·
    obtain ⟨vs0, rest, ht⟩ := ht.out
    obtain ⟨x, hx, hxj⟩ := HA.out j hlt
    obtain ⟨vs, hvs, hcl⟩ := ((show LRow w (some ⟨b, off, none⟩) c 1 rs from HL.out).below ht.below |>.el hxj).vals
    obtain ⟨y0, _, rfl, hy0, rfl⟩ := hvs
    have HC := HH.out x hx wr y0 hy0 wr (Below.refl _ _)
    have HT : Hid _ := ht
    have HK : Hid _ := hxj
    clear ht hxj
    skip
    skip
    obtain ⟨a0, c0, rfl, d0⟩ := hy0
    skip
    have q0 : wr.cell? ⟨b, off + j, none⟩ = some _ := (by have := hcl 0 _ rfl; simpa using this : wr.cell? ⟨b, off + j, none⟩ = some (.slice a0 x.length c0))
    clear hcl d0 hx
    skip
    go_wp2_with fail
    refine HC.mono ?_
    rintro e w2 ⟨g, m, rfl, hh, hb2⟩
    skip
    skip
    have HS : Hid _ := HT.out.step (us := [.slice (some ⟨g, 0, none⟩) m m]) hlt hb2 HK.out rfl (rec_one hh hb2.size)
    have hcs := (HT.out.call hb2).cells hlt
    obtain ⟨v0, k0⟩ := hcs 0 (by omega)
    have z0 := (HT.out.call hb2).blk.free (j * 1 + 0)
    clear hcs hh hb2 HC HT HK q0
    simp only [Nat.add_zero, Nat.mul_one] at k0 z0
    go_wp2_with fail
    go_roundw
    case rel => exact ⟨j + 1, by omega, by go_num, ⟨_, _, by have := HS.out; simpa [setAll] using this⟩⟩
    case measure => simp [intOf]; omega
   ·
    have : j = n := by omega
    subst this
    go_wp2_with fail
    go_ret
    obtain ⟨vs, rest, ht⟩ := ht.out
    exact ⟨_, _, rfl, ht.done Hd.out (by unfold maxLen; omega), ht.below⟩

theorem toByteF (l : List Int) (hl : l.length ≤ 1048576) : ToF 25 (.b l) := by
 rintro w v hv w1 hb
 obtain ⟨a, c, rfl, hr, _⟩ := hv.below hb
 refine (copyB a l.length c l w1 hr hl).mono ?_
 rintro e w' ⟨rfl, ho, _, hb1, hlt⟩
 refine ⟨_, _, rfl, ?_, hb1⟩
 unfold Fl.Has
 exact ⟨_, rfl, Nat.le_refl _, hlt, block_of_owns ho.1, ho.2, by unfold maxLen; omega⟩

theorem iblock_of_owns {w : World} {base g n : Nat} {xs : List Value} (h : w.ownsRow base 3 1 (.slice (some ⟨g, 0, none⟩) n n) n xs) : w.heap[g]? = some (.cells xs.toArray 3 (0, 0)) := by
 rcases h.2 with ⟨h', _⟩ | ⟨g', cap, cur, h', _, hg, _, _, hs, ht⟩
 ·
  simp at h'
 ·
  simp only [Value.slice.injEq, Option.some.injEq, Addr.mk.injEq, and_true, true_and] at h'
  obtain ⟨rfl, rfl⟩ := h'
  rw [List.take_of_length_le (by simp; omega)] at ht
  rw [hg, ← ht]

theorem ToV.on {w w1 : World} {F : Nat} {f : Fl} {v : Value} (h : ToV w F f v) (hb : Below w.heap.size w w1) : ToV w1 F f v :=
 fun w2 hb2 => h w2 (hb.trans (hb2.mono hb.size))

theorem toVarR (x0 : List Int) (x1 : Int) (S0 : ToF 25 (.b x0)) : ToR 63 2 (Va.mk x0 x1).fl := by
 intro w vs hv w1 hb
 unfold Va.fl at hv ⊢
 obtain ⟨y0, _, rfl, h0, y1, _, rfl, rfl, rfl⟩ := hv
 have g0 := (S0 w _ h0).on hb
 obtain ⟨a0, c0, rfl, _⟩ := h0
 exact toVar0 a0 _ c0 _ x1 w1 g0

theorem toParamR (x0 : List Int) (x1 : Bool) (S0 : ToF 25 (.b x0)) : ToR 145 2 (Pa.mk x0 x1).fl := by
 intro w vs hv w1 hb
 unfold Pa.fl at hv ⊢
 obtain ⟨y0, _, rfl, h0, y1, _, rfl, rfl, rfl⟩ := hv
 have g0 := (S0 w _ h0).on hb
 obtain ⟨a0, c0, rfl, _⟩ := h0
 exact toParam0 a0 _ c0 _ x1 w1 g0

theorem toExprR (x0 : Int) (x1 : Int) (x2 : List Int) (x3 : List Int) (x4 : List Ex) (S2 : ToF 25 (.b x2)) (S3 : ToF 25 (.b x3)) (S4 : ToF 181 (.l 5 (exs x4))) : ToR 203 5 (Ex.mk x0 x1 x2 x3 x4).fl := by
 intro w vs hv w1 hb
 unfold Ex.fl at hv ⊢
 obtain ⟨y0, _, rfl, rfl, y1, _, rfl, rfl, y2, _, rfl, h2, y3, _, rfl, h3, y4, _, rfl, h4, rfl⟩ := hv
 have g2 := (S2 w _ h2).on hb
 have g3 := (S3 w _ h3).on hb
 have g4 := (S4 w _ h4).on hb
 obtain ⟨a2, c2, rfl, _⟩ := h2
 obtain ⟨a3, c3, rfl, _⟩ := h3
 obtain ⟨a4, c4, rfl, _⟩ := h4
 exact toExpr0 x0 x1 a2 _ c2 _ a3 _ c3 _ a4 _ c4 _ w1 g2 g3 g4

theorem toStmtR (x0 : Int) (x1 : Int) (x2 : List Int) (x3 : List Ex) (x4 : List St) (x5 : List St) (S2 : ToF 25 (.b x2)) (S3 : ToF 181 (.l 5 (exs x3))) (S4 : ToF 111 (.l 6 (sts x4))) (S5 : ToF 111 (.l 6 (sts x5))) : ToR 146 6 (St.mk x0 x1 x2 x3 x4 x5).fl := by
 intro w vs hv w1 hb
 unfold St.fl at hv ⊢
 obtain ⟨y0, _, rfl, rfl, y1, _, rfl, rfl, y2, _, rfl, h2, y3, _, rfl, h3, y4, _, rfl, h4, y5, _, rfl, h5, rfl⟩ := hv
 have g2 := (S2 w _ h2).on hb
 have g3 := (S3 w _ h3).on hb
 have g4 := (S4 w _ h4).on hb
 have g5 := (S5 w _ h5).on hb
 obtain ⟨a2, c2, rfl, _⟩ := h2
 obtain ⟨a3, c3, rfl, _⟩ := h3
 obtain ⟨a4, c4, rfl, _⟩ := h4
 obtain ⟨a5, c5, rfl, _⟩ := h5
 exact toStmt0 x0 x1 a2 _ c2 _ a3 _ c3 _ a4 _ c4 _ a5 _ c5 _ w1 g2 g3 g4 g5

theorem toProcR (x0 : List Int) (x1 : Bool) (x2 : List Pa) (x3 : List (List Int)) (x4 : List St) (S0 : ToF 25 (.b x0)) (S2 : ToF 110 (.l 2 (x2.map Pa.fl))) (S3 : ToF 26 (.l 1 (txts x3))) (S4 : ToF 111 (.l 6 (sts x4))) : ToR 64 5 (Pr.mk x0 x1 x2 x3 x4).fl := by
 intro w vs hv w1 hb
 unfold Pr.fl at hv ⊢
 obtain ⟨y0, _, rfl, h0, y1, _, rfl, rfl, y2, _, rfl, h2, y3, _, rfl, h3, y4, _, rfl, h4, rfl⟩ := hv
 have g0 := (S0 w _ h0).on hb
 have g2 := (S2 w _ h2).on hb
 have g3 := (S3 w _ h3).on hb
 have g4 := (S4 w _ h4).on hb
 obtain ⟨a0, c0, rfl, _⟩ := h0
 obtain ⟨a2, c2, rfl, _⟩ := h2
 obtain ⟨a3, c3, rfl, _⟩ := h3
 obtain ⟨a4, c4, rfl, _⟩ := h4
 exact toProc0 a0 _ c0 _ x1 a2 _ c2 _ a3 _ c3 _ a4 _ c4 _ w1 g0 g2 g3 g4

theorem toModuleR (x0 : List Int) (x1 : List (List Int)) (x2 : List Va) (x3 : List Pr) (S0 : ToF 25 (.b x0)) (S1 : ToF 26 (.l 1 (txts x1))) (S2 : ToF 27 (.l 2 (x2.map Va.fl))) (S3 : ToF 28 (.l 5 (x3.map Pr.fl))) : ToR 7 4 (Mo.mk x0 x1 x2 x3).fl := by
 intro w vs hv w1 hb
 unfold Mo.fl at hv ⊢
 obtain ⟨y0, _, rfl, h0, y1, _, rfl, h1, y2, _, rfl, h2, y3, _, rfl, h3, rfl⟩ := hv
 have g0 := (S0 w _ h0).on hb
 have g1 := (S1 w _ h1).on hb
 have g2 := (S2 w _ h2).on hb
 have g3 := (S3 w _ h3).on hb
 obtain ⟨a0, c0, rfl, _⟩ := h0
 obtain ⟨a1, c1, rfl, _⟩ := h1
 obtain ⟨a2, c2, rfl, _⟩ := h2
 obtain ⟨a3, c3, rfl, _⟩ := h3
 exact toModule0 a0 _ c0 _ a1 _ c1 _ a2 _ c2 _ a3 _ c3 _ w1 g0 g1 g2 g3

mutual
theorem toEx : ∀ e : Ex, recLen e.fl ≤ 1048576 → ToR 203 5 e.fl
 | .mk k n m a ks, h => by
  have e : recLen (Ex.mk k n m a ks).fl = m.length + a.length + ((exs ks).length + rowsLen (exs ks)) := by simp [Ex.fl, recLen, Fl.len] <;> omega
  rw [e] at h
  exact toExprR k n m a ks (toByteF m (by omega)) (toByteF a (by omega)) (toExprSF ks (by omega) (toExs ks (by omega)))
theorem toExs : ∀ (l : List Ex), rowsLen (exs l) ≤ 1048576 → ∀ e ∈ l, ToR 203 5 e.fl
 | [], _, e, h => by simp at h
 | x :: l, hl, e, h => by
  simp only [exs, rowsLen] at hl
  rcases List.mem_cons.1 h with h | h
  ·
   rw [h]; exact toEx x (by omega)
  ·
   exact toExs l (by omega) e h
end
mutual
theorem toSt : ∀ e : St, recLen e.fl ≤ 1048576 → ToR 146 6 e.fl
 | .mk k n a ks bs es, h => by
  have e : recLen (St.mk k n a ks bs es).fl = a.length + ((exs ks).length + rowsLen (exs ks)) + ((sts bs).length + rowsLen (sts bs)) + ((sts es).length + rowsLen (sts es)) := by simp [St.fl, recLen, Fl.len] <;> omega
  rw [e] at h
  exact toStmtR k n a ks bs es (toByteF a (by omega)) (toExprSF ks (by omega) (toExs ks (by omega))) (toStmtSF bs (by omega) (toSts bs (by omega))) (toStmtSF es (by omega) (toSts es (by omega)))
theorem toSts : ∀ (l : List St), rowsLen (sts l) ≤ 1048576 → ∀ e ∈ l, ToR 146 6 e.fl
 | [], _, e, h => by simp at h
 | x :: l, hl, e, h => by
  simp only [sts, rowsLen] at hl
  rcases List.mem_cons.1 h with h | h
  ·
   rw [h]; exact toSt x (by omega)
  ·
   exact toSts l (by omega) e h
end

theorem rec_le {α : Type} {f : α → List Fl} {l : List α} {x : α} (h : x ∈ l) : recLen (f x) ≤ rowsLen (l.map f) := recLen_le (List.mem_map_of_mem h)

theorem toTxts (l : List (List Int)) (h : (txts l).length + rowsLen (txts l) ≤ 1048576) : ToF 26 (.l 1 (txts l)) :=
 toByteSSF l (by omega) fun x hx => toByteF x (by have := rec_le (f := fun x => [Fl.b x]) hx; simp only [recLen, Fl.len] at this; unfold txts at h; omega)

theorem toMo (m : Mo) (h : recLen m.fl ≤ 1048576) : ToR 7 4 m.fl := by
 have e : recLen m.fl = m.name.length + ((txts m.uses).length + rowsLen (txts m.uses)) + ((m.vars.map Va.fl).length + rowsLen (m.vars.map Va.fl)) + ((m.procs.map Pr.fl).length + rowsLen (m.procs.map Pr.fl)) := by simp [Mo.fl, recLen, Fl.len] <;> omega
 rw [e] at h
 refine toModuleR m.name m.uses m.vars m.procs (toByteF _ (by omega)) (toTxts _ (by omega)) (toVarSF _ (by omega) fun v hv => ?_) (toProcSF _ (by omega) fun q hq => ?_)
 ·
  have := rec_le (f := Va.fl) hv
  simp only [Va.fl, recLen, Fl.len] at this
  exact toVarR v.name v.size (toByteF _ (by omega))
 ·
  have := rec_le (f := Pr.fl) hq
  have e2 : recLen q.fl = q.name.length + ((q.params.map Pa.fl).length + rowsLen (q.params.map Pa.fl)) + ((txts q.locals).length + rowsLen (txts q.locals)) + ((sts q.body).length + rowsLen (sts q.body)) := by simp [Pr.fl, recLen, Fl.len] <;> omega
  rw [e2] at this
  refine toProcR q.name q.opn q.params q.locals q.body (toByteF _ (by omega)) (toParamSF _ (by omega) fun p hp => ?_) (toTxts _ (by omega)) (toStmtSF _ (by omega) (toSts _ (by omega)))
  have h3 := rec_le (f := Pa.fl) hp
  simp only [Pa.fl, recLen, Fl.len] at h3
  exact toParamR p.name p.arr (toByteF _ (by omega))

end Go.Proofs.YtopnodadggohiaaGreatDoor

/- Contracts of the laws' own helpers that copy slices of a module's records. By mktreeto2.py. -/
import Derived.Test.YtefciaeajlgheaaTreeTo
import Derived.Test.YtefciaeajlgheaaTreeSz
namespace Go.Proofs.Ytefciaeajlgheaa
open Go.RowKit
set_option linter.unusedVariables false
set_option linter.unusedSimpArgs false
set_option maxRecDepth 100000

def ToF (F : Nat) (f : Fl) : Prop := ∀ (w : World) (v : Value), f.Rd w v → ToV w F f v
def ToR (F K : Nat) (r : List Fl) : Prop := ∀ (w : World) (vs : List Value), RdVals w r vs → ∀ w1 : World, Below w.heap.size w w1 → Calls Try.prog F #[.agg vs.toArray] w1 fun e w' => ∃ us, e = .returned (.agg (List.toArray us)) ∧ us.length = K ∧ RecHas w' w1.heap.size w'.heap.size r us ∧ Below w1.heap.size w1 w'

theorem len2 {us : List Value} (h : us.length = 2) : ∃ u0 u1, us = [u0, u1] := by
  match us, h with
  | [a, b], _ => exact ⟨a, b, rfl⟩
theorem len5 {us : List Value} (h : us.length = 5) : ∃ u0 u1 u2 u3 u4, us = [u0, u1, u2, u3, u4] := by
  match us, h with
  | [a, b, c, d, e], _ => exact ⟨a, b, c, d, e, rfl⟩
theorem len6 {us : List Value} (h : us.length = 6) : ∃ u0 u1 u2 u3 u4 u5, us = [u0, u1, u2, u3, u4, u5] := by
  match us, h with
  | [a, b, c, d, e, f], _ => exact ⟨a, b, c, d, e, f, rfl⟩

theorem rec_one {w : World} {lo hi : Nat} {f : Fl} {u : Value} (h : f.Has w lo hi u) (hl : lo ≤ hi := by omega) : RecHas w lo hi [f] [u] := by
  unfold RecHas
  refine ⟨u, [], hi, rfl, hl, Nat.le_refl _, h, ?_⟩
  unfold RecHas; rfl

theorem Blk.setAll {g : Nat} {T : TypeId} : ∀ (us : List Value) {W : World} {pre old post : List Value}, Blk W g T (pre ++ old ++ post) → old.length = us.length → Blk (setAll W g pre.length us) g T (pre ++ us ++ post) := by
  intro us
  induction us with
  | nil => intro W pre old post h hl; have : old = [] := List.eq_nil_of_length_eq_zero hl; subst this; exact h
  | cons u us ih =>
    intro W pre old post h hl
    cases old with
    | nil => simp at hl
    | cons x old =>
      have h1 := h.set (i := pre.length) u
      have e : (pre ++ x :: old ++ post).set pre.length u = (pre ++ [u]) ++ old ++ post := by simp
      rw [e] at h1
      have h2 := ih h1 (by simpa using hl)
      have e2 : (pre ++ [u]).length = pre.length + 1 := by simp
      rw [e2] at h2
      simpa [Go.Proofs.Ytefciaeajlgheaa.setAll] using h2

/-- How far the copy of a slice has come: j of n records, K cells each. -/
structure TL (w wr : World) (T K n j : Nat) (rs : List (List Fl)) (vs rest : List Value) : Prop where
  len : rest.length = (n - j) * K
  blk : Blk wr w.heap.size T (vs ++ rest)
  has : RowsHas wr K (w.heap.size + 1) wr.heap.size (rs.take j) vs
  lenr : rs.length = n
  leqj : j ≤ n
  below : Below w.heap.size w wr

theorem TL.start {w wr : World} {T K n : Nat} {rs : List (List Fl)} {xs : List Value} (hn : rs.length = n) (h : wr.ownsRow w.heap.size T K (.slice (some ⟨w.heap.size, 0, none⟩) n n) n xs) (hg : w.grownBy wr none) : ∃ vs rest, TL w wr T K n 0 rs vs rest := by
  have hl := h.1
  rcases h.2 with ⟨h', _⟩ | ⟨g', cap, cur, h', _, hgb, _, _, hs, ht⟩
  · simp at h'
  · simp only [Value.slice.injEq, Option.some.injEq, Addr.mk.injEq, and_true, true_and] at h'
    obtain ⟨rfl, rfl⟩ := h'
    rw [List.take_of_length_le (by simp; omega)] at ht
    refine ⟨[], xs, by simpa using hl, ?_, ?_, hn, Nat.zero_le _, (Below.refl _ _).grown hg (Nat.le_refl _) (by intro k hk; cases hk)⟩
    · show wr.heap[w.heap.size]? = _
      rw [hgb, ← ht]; simp
    · rw [List.take_zero]; unfold RowsHas; rfl

theorem TL.vlen {w wr : World} {T K n j : Nat} {rs : List (List Fl)} {vs rest : List Value} (h : TL w wr T K n j rs vs rest) : vs.length = j * K := by
  rw [h.has.len, List.length_take, h.lenr, Nat.min_eq_left h.leqj]

theorem TL.call {w w1 w2 : World} {T K n j : Nat} {rs : List (List Fl)} {vs rest : List Value} (h : TL w w1 T K n j rs vs rest) (hb : Below w1.heap.size w1 w2) : TL w w2 T K n j rs vs rest :=
  ⟨h.len, h.blk.below hb h.blk.lt, (h.has.stays (Stays.of hb (Nat.le_refl _))).wide (Nat.le_refl _) hb.size, h.lenr, h.leqj, h.below.trans (hb.mono h.below.size)⟩

theorem TL.cells {w wr : World} {T K n j : Nat} {rs : List (List Fl)} {vs rest : List Value} (h : TL w wr T K n j rs vs rest) (hj : j < n) : ∀ i, i < K → ∃ v, wr.cell? ⟨w.heap.size, j * K + i, none⟩ = some v := by
  intro i hi
  have hv := h.vlen
  have hr := h.len
  have hp : K ≤ (n - j) * K := Nat.le_mul_of_pos_left K (by omega)
  have hlt : i < rest.length := by omega
  refine ⟨rest[i], h.blk.cell ?_⟩
  rw [List.getElem?_append_right (by omega), hv, Nat.add_sub_cancel_left]
  exact List.getElem?_eq_getElem hlt

theorem TL.step {w w1 w2 : World} {T K n j : Nat} {rs : List (List Fl)} {vs rest us : List Value} {r : List Fl} (h : TL w w1 T K n j rs vs rest) (hj : j < n) (hb : Below w1.heap.size w1 w2) (hr : rs[j]? = some r) (hl : us.length = K) (hh : RecHas w2 w1.heap.size w2.heap.size r us) :
    TL w (setAll w2 w.heap.size (j * K) us) T K n (j + 1) rs (vs ++ us) (rest.drop K) := by
  have h2 := h.call hb
  have hv := h.vlen
  have hp : K ≤ (n - j) * K := Nat.le_mul_of_pos_left K (by omega)
  have hrl := h.len
  have hb1 : Blk (setAll w2 w.heap.size (j * K) us) w.heap.size T ((vs ++ us) ++ rest.drop K) := by
    have e : vs ++ rest = vs ++ rest.take K ++ rest.drop K := by rw [List.append_assoc, List.take_append_drop]
    have := h2.blk
    rw [e] at this
    have h3 := this.setAll us (by rw [List.length_take, hl]; omega)
    rw [hv] at h3
    exact h3
  have hlt1 := h.blk.lt
  have hrow : RowsHas w2 K (w.heap.size + 1) w2.heap.size (rs.take (j + 1)) (vs ++ us) := by
    obtain ⟨hk, e⟩ := List.getElem?_eq_some_iff.1 hr
    rw [List.take_succ_eq_append_getElem hk, e]
    exact (h.has.stays (Stays.of hb (Nat.le_refl _))).snoc hh hl (by omega) hb.size
  have key : ∀ (l : List Value) (W : World) (i : Nat), Below w.heap.size w W → RowsHas W K (w.heap.size + 1) w2.heap.size (rs.take (j + 1)) (vs ++ us) → Below w.heap.size w (setAll W w.heap.size i l) ∧ RowsHas (setAll W w.heap.size i l) K (w.heap.size + 1) w2.heap.size (rs.take (j + 1)) (vs ++ us) := by
    intro l
    induction l with
    | nil => intro W i a b; exact ⟨a, b⟩
    | cons v l ih => intro W i a b; exact ih _ _ (a.setCell (by simp) v) (b.stays (Stays.put (.inl (by omega))))
  obtain ⟨k1, k2⟩ := key us w2 (j * K) h2.below hrow
  refine ⟨?_, hb1, ?_, h.lenr, by omega, k1⟩
  · rw [List.length_drop, hrl]
    have : n - j = (n - (j + 1)) + 1 := by omega
    rw [this, Nat.add_mul]; omega
  · rw [setAll_size]; exact k2

theorem TL.done {w wr : World} {T K n : Nat} {rs : List (List Fl)} {vs rest : List Value} (h : TL w wr T K n n rs vs rest) (hn : rs.length = n) (hm : n ≤ maxLen) : (Fl.l K rs).Has wr w.heap.size wr.heap.size (.slice (some ⟨w.heap.size, 0, none⟩) n n) := by
  have hr : rest = [] := List.eq_nil_of_length_eq_zero (by rw [h.len]; simp)
  have hb := h.blk
  have hh := h.has
  rw [hr, List.append_nil] at hb
  rw [List.take_of_length_le (by omega)] at hh
  unfold Fl.Has
  exact ⟨w.heap.size, vs, T, by rw [hn], Nat.le_refl _, h.blk.lt, hb, by omega, hh⟩

theorem shapeVar {w : World} {lo hi : Nat} {us : List Value} {x0 : List Int} {x1 : Int} (h : RecHas w lo hi (Va.fl ⟨x0, x1⟩) us) :
    ∃ g0 m0, us = [.slice (some ⟨g0, 0, none⟩) m0 m0, .int .i64 x1] := by
  unfold Va.fl at h
  simp only [RecHas, Fl.Has] at h
  obtain ⟨u0, _, _, rfl, _, _, ⟨g0, rfl, _⟩, u1, _, _, rfl, _, _, rfl, rfl⟩ := h
  exact ⟨g0, _, rfl⟩

theorem shapeParam {w : World} {lo hi : Nat} {us : List Value} {x0 : List Int} {x1 : Bool} (h : RecHas w lo hi (Pa.fl ⟨x0, x1⟩) us) :
    ∃ g0 m0, us = [.slice (some ⟨g0, 0, none⟩) m0 m0, .bool x1] := by
  unfold Pa.fl at h
  simp only [RecHas, Fl.Has] at h
  obtain ⟨u0, _, _, rfl, _, _, ⟨g0, rfl, _⟩, u1, _, _, rfl, _, _, rfl, rfl⟩ := h
  exact ⟨g0, _, rfl⟩

theorem shapeExpr {w : World} {lo hi : Nat} {us : List Value} {x0 : Int} {x1 : Int} {x2 : List Int} {x3 : List Int} {x4 : List Ex} (h : RecHas w lo hi (Ex.fl ⟨x0, x1, x2, x3, x4⟩) us) :
    ∃ g2 m2 g3 m3 g4 m4, us = [.int .i64 x0, .int .i64 x1, .slice (some ⟨g2, 0, none⟩) m2 m2, .slice (some ⟨g3, 0, none⟩) m3 m3, .slice (some ⟨g4, 0, none⟩) m4 m4] := by
  unfold Ex.fl at h
  simp only [RecHas, Fl.Has] at h
  obtain ⟨u0, _, _, rfl, _, _, rfl, u1, _, _, rfl, _, _, rfl, u2, _, _, rfl, _, _, ⟨g2, rfl, _⟩, u3, _, _, rfl, _, _, ⟨g3, rfl, _⟩, u4, _, _, rfl, _, _, ⟨g4, _, _, rfl, _⟩, rfl⟩ := h
  exact ⟨g2, _, g3, _, g4, _, rfl⟩

theorem shapeStmt {w : World} {lo hi : Nat} {us : List Value} {x0 : Int} {x1 : Int} {x2 : List Int} {x3 : List Ex} {x4 : List St} {x5 : List St} (h : RecHas w lo hi (St.fl ⟨x0, x1, x2, x3, x4, x5⟩) us) :
    ∃ g2 m2 g3 m3 g4 m4 g5 m5, us = [.int .i64 x0, .int .i64 x1, .slice (some ⟨g2, 0, none⟩) m2 m2, .slice (some ⟨g3, 0, none⟩) m3 m3, .slice (some ⟨g4, 0, none⟩) m4 m4, .slice (some ⟨g5, 0, none⟩) m5 m5] := by
  unfold St.fl at h
  simp only [RecHas, Fl.Has] at h
  obtain ⟨u0, _, _, rfl, _, _, rfl, u1, _, _, rfl, _, _, rfl, u2, _, _, rfl, _, _, ⟨g2, rfl, _⟩, u3, _, _, rfl, _, _, ⟨g3, _, _, rfl, _⟩, u4, _, _, rfl, _, _, ⟨g4, _, _, rfl, _⟩, u5, _, _, rfl, _, _, ⟨g5, _, _, rfl, _⟩, rfl⟩ := h
  exact ⟨g2, _, g3, _, g4, _, g5, _, rfl⟩

theorem shapeProc {w : World} {lo hi : Nat} {us : List Value} {x0 : List Int} {x1 : Bool} {x2 : List Pa} {x3 : List (List Int)} {x4 : List St} (h : RecHas w lo hi (Pr.fl ⟨x0, x1, x2, x3, x4⟩) us) :
    ∃ g0 m0 g2 m2 g3 m3 g4 m4, us = [.slice (some ⟨g0, 0, none⟩) m0 m0, .bool x1, .slice (some ⟨g2, 0, none⟩) m2 m2, .slice (some ⟨g3, 0, none⟩) m3 m3, .slice (some ⟨g4, 0, none⟩) m4 m4] := by
  unfold Pr.fl at h
  simp only [RecHas, Fl.Has] at h
  obtain ⟨u0, _, _, rfl, _, _, ⟨g0, rfl, _⟩, u1, _, _, rfl, _, _, rfl, u2, _, _, rfl, _, _, ⟨g2, _, _, rfl, _⟩, u3, _, _, rfl, _, _, ⟨g3, _, _, rfl, _⟩, u4, _, _, rfl, _, _, ⟨g4, _, _, rfl, _⟩, rfl⟩ := h
  exact ⟨g0, _, g2, _, g3, _, g4, _, rfl⟩

theorem shapeFaceProc {w : World} {lo hi : Nat} {us : List Value} {x0 : List Int} {x1 : List Int} (h : RecHas w lo hi (Fp.fl ⟨x0, x1⟩) us) :
    ∃ g0 m0 g1 m1, us = [.slice (some ⟨g0, 0, none⟩) m0 m0, .slice (some ⟨g1, 0, none⟩) m1 m1] := by
  unfold Fp.fl at h
  simp only [RecHas, Fl.Has] at h
  obtain ⟨u0, _, _, rfl, _, _, ⟨g0, rfl, _⟩, u1, _, _, rfl, _, _, ⟨g1, rfl, _⟩, rfl⟩ := h
  exact ⟨g0, _, g1, _, rfl⟩

theorem shapeFace {w : World} {lo hi : Nat} {us : List Value} {x0 : List Int} {x1 : List Fp} (h : RecHas w lo hi (Fa.fl ⟨x0, x1⟩) us) :
    ∃ g0 m0 g1 m1, us = [.slice (some ⟨g0, 0, none⟩) m0 m0, .slice (some ⟨g1, 0, none⟩) m1 m1] := by
  unfold Fa.fl at h
  simp only [RecHas, Fl.Has] at h
  obtain ⟨u0, _, _, rfl, _, _, ⟨g0, rfl, _⟩, u1, _, _, rfl, _, _, ⟨g1, _, _, rfl, _⟩, rfl⟩ := h
  exact ⟨g0, _, g1, _, rfl⟩

theorem shapeExport {w : World} {lo hi : Nat} {us : List Value} {x0 : List Int} {x1 : Int} {x2 : Int} (h : RecHas w lo hi (Xp.fl ⟨x0, x1, x2⟩) us) :
    ∃ g0 m0, us = [.slice (some ⟨g0, 0, none⟩) m0 m0, .int .i64 x1, .int .i64 x2] := by
  unfold Xp.fl at h
  simp only [RecHas, Fl.Has] at h
  obtain ⟨u0, _, _, rfl, _, _, ⟨g0, rfl, _⟩, u1, _, _, rfl, _, _, rfl, u2, _, _, rfl, _, _, rfl, rfl⟩ := h
  exact ⟨g0, _, rfl⟩

theorem infoExportT : (Try.prog.info? 60).map (fun i => (i.zero, i.size, i.bytes)) = some (some (.agg #[.slice none 0 0, .int .i64 0, .int .i64 0]), 3, 40) := by kernel_rfl

set_option maxHeartbeats 8000000 in
theorem toExportSF (l : List Xp) (hlen : (l.map Xp.fl).length ≤ 1048576) (H : ∀ x ∈ l, ToR 71 3 (Xp.fl x)) : ToF 46 (.l 3 (l.map Xp.fl)) := by
  intro w0 v hv w hb0
  obtain ⟨a, c, rfl, hl0⟩ := (hv.below hb0).list
  clear hv hb0
  have hm : (l.map Xp.fl).length = l.length := by simp [exs_map, sts_map, txts]
  have hat : ∀ j, j < l.length → ∃ x ∈ l, (l.map Xp.fl)[j]? = some (Xp.fl x) := by
    intro j hj
    exact ⟨l[j], List.getElem_mem hj, by simp [exs_map, sts_map, txts, hj]⟩
  generalize hrs : l.map Xp.fl = rs at hl0 hm hat hlen ⊢
  clear hrs
  rw [← hm] at hat
  generalize hn : rs.length = n at hl0 hat hlen ⊢
  clear hm
  obtain ⟨i0, hi, hz0, hz1, hz2⟩ := info_parts infoExportT
  have Hd : Hid (rs.length = n) := hn
  have HL : Hid (LRow w a c 3 rs) := hl0
  have HA : Hid (∀ j, j < n → ∃ x ∈ l, rs[j]? = some (Xp.fl x)) := hat
  have HH : Hid (∀ x ∈ l, ToR 71 3 (Xp.fl x)) := H
  clear hat H
  go_enter Try.func46, Try.ntmps46
  go_wp2_with (at_make; refine wpList_make_full _ rfl _ _ 44 rfl w.heap.size 60 i0 _ 3 Try.underlying44 hi hz0 hz1 _ _ _ _ n rfl rfl rfl rfl (by rw [hz2]; omega) (by unfold maxLen; omega) (Nat.le_refl _) ?_)
  intro w1 hown hgrow
  have H1 : Hid (∃ vs rest, TL w w1 60 3 n 0 rs vs rest) := TL.start Hd.out hown hgrow
  clear hown hgrow
  rcases Nat.eq_zero_or_pos n with h0 | hpos
  · subst h0
    clear hl0 hn
    go_wp2_with fail
    refine wp_loop_rounds 1 ?_
    rw [rounds_succ]
    go_wp2_with fail
    go_ret
    obtain ⟨vs, rest, ht⟩ := H1.out
    exact ⟨_, _, rfl, ht.done Hd.out (by unfold maxLen; omega), ht.below⟩
  · obtain ⟨b, off, rfl⟩ := hl0.addr (by rw [hn]; exact hpos)
    clear hl0 hn
    go_wp2_with fail
    go_loopw [4] (fun i wr => ∃ j : Nat, j ≤ n ∧ i = .int .i64 j ∧ Hid (∃ vs rest, TL w wr 60 3 n j rs vs rest)) (fun i _ => n - (intOf i).toNat)
    case atStart => exact ⟨0, Nat.zero_le _, rfl, H1⟩
    case round =>
      obtain ⟨j, hj, rfl, ht⟩ := hrel
      clear H1
      by_cases hlt : j < n
      · obtain ⟨vs0, rest, ht⟩ := ht.out
        obtain ⟨x, hx, hxj⟩ := HA.out j hlt
        obtain ⟨vs, hvs, hcl⟩ := ((show LRow w (some ⟨b, off, none⟩) c 3 rs from HL.out).below ht.below |>.el hxj).vals
        skip
        have HC := HH.out x hx wr vs hvs wr (Below.refl _ _)
        have HT : Hid _ := ht
        have HK : Hid _ := hxj
        clear ht hxj
        generalize hfl : (Xp.fl x) = fx at HC HK
        obtain ⟨x0, x1, x2⟩ := x
        obtain ⟨y0, _, rfl, ⟨a0, c0, rfl, d0⟩, y1, _, rfl, rfl, y2, _, rfl, rfl, rfl⟩ := hvs
        skip
        have q0 : wr.cell? ⟨b, off + j * 3, none⟩ = some _ := hcl 0 _ rfl
        have q1 : wr.cell? ⟨b, off + j * 3 + 1, none⟩ = some _ := hcl 1 _ rfl
        have q2 : wr.cell? ⟨b, off + j * 3 + 2, none⟩ = some _ := hcl 2 _ rfl
        clear hcl d0 hx
        have HF : Hid _ := hfl; clear hfl
        go_wp2_with fail
        refine HC.mono ?_
        rintro e w2 ⟨us, rfl, hl, hh, hb2⟩
        obtain ⟨g0, m0_, hus⟩ := shapeExport (HF.out ▸ hh)
        subst hus
        have HS : Hid _ := HT.out.step (us := [.slice (some ⟨g0, 0, none⟩) m0_ m0_, .int .i64 x1, .int .i64 x2]) hlt hb2 HK.out rfl hh
        have hcs := (HT.out.call hb2).cells hlt
        obtain ⟨v0, k0⟩ := hcs 0 (by omega)
        have z0 := (HT.out.call hb2).blk.free (j * 3 + 0)
        obtain ⟨v1, k1⟩ := hcs 1 (by omega)
        have z1 := (HT.out.call hb2).blk.free (j * 3 + 1)
        obtain ⟨v2, k2⟩ := hcs 2 (by omega)
        have z2 := (HT.out.call hb2).blk.free (j * 3 + 2)
        clear hcs hh hb2 HC HT HK q0 q1 q2
        simp only [Nat.add_zero, Nat.mul_one] at k0 z0 k1 z1 k2 z2
        go_wp2_with fail
        go_roundw
        case rel => exact ⟨j + 1, by omega, by go_num, ⟨_, _, HS.out⟩⟩
        case measure => simp [intOf]; omega
      · have : j = n := by omega
        subst this
        go_wp2_with fail
        go_ret
        obtain ⟨vs, rest, ht⟩ := ht.out
        exact ⟨_, _, rfl, ht.done Hd.out (by unfold maxLen; omega), ht.below⟩

theorem shapeImport {w : World} {lo hi : Nat} {us : List Value} {x0 : List Int} {x1 : List Int} {x2 : Int} (h : RecHas w lo hi (Ip.fl ⟨x0, x1, x2⟩) us) :
    ∃ g0 m0 g1 m1, us = [.slice (some ⟨g0, 0, none⟩) m0 m0, .slice (some ⟨g1, 0, none⟩) m1 m1, .int .i64 x2] := by
  unfold Ip.fl at h
  simp only [RecHas, Fl.Has] at h
  obtain ⟨u0, _, _, rfl, _, _, ⟨g0, rfl, _⟩, u1, _, _, rfl, _, _, ⟨g1, rfl, _⟩, u2, _, _, rfl, _, _, rfl, rfl⟩ := h
  exact ⟨g0, _, g1, _, rfl⟩

theorem infoImportT : (Try.prog.info? 52).map (fun i => (i.zero, i.size, i.bytes)) = some (some (.agg #[.slice none 0 0, .slice none 0 0, .int .i64 0]), 3, 56) := by kernel_rfl

set_option maxHeartbeats 8000000 in
theorem toImportSF (l : List Ip) (hlen : (l.map Ip.fl).length ≤ 1048576) (H : ∀ x ∈ l, ToR 72 3 (Ip.fl x)) : ToF 47 (.l 3 (l.map Ip.fl)) := by
  intro w0 v hv w hb0
  obtain ⟨a, c, rfl, hl0⟩ := (hv.below hb0).list
  clear hv hb0
  have hm : (l.map Ip.fl).length = l.length := by simp [exs_map, sts_map, txts]
  have hat : ∀ j, j < l.length → ∃ x ∈ l, (l.map Ip.fl)[j]? = some (Ip.fl x) := by
    intro j hj
    exact ⟨l[j], List.getElem_mem hj, by simp [exs_map, sts_map, txts, hj]⟩
  generalize hrs : l.map Ip.fl = rs at hl0 hm hat hlen ⊢
  clear hrs
  rw [← hm] at hat
  generalize hn : rs.length = n at hl0 hat hlen ⊢
  clear hm
  obtain ⟨i0, hi, hz0, hz1, hz2⟩ := info_parts infoImportT
  have Hd : Hid (rs.length = n) := hn
  have HL : Hid (LRow w a c 3 rs) := hl0
  have HA : Hid (∀ j, j < n → ∃ x ∈ l, rs[j]? = some (Ip.fl x)) := hat
  have HH : Hid (∀ x ∈ l, ToR 72 3 (Ip.fl x)) := H
  clear hat H
  go_enter Try.func47, Try.ntmps47
  go_wp2_with (at_make; refine wpList_make_full _ rfl _ _ 45 rfl w.heap.size 52 i0 _ 3 Try.underlying45 hi hz0 hz1 _ _ _ _ n rfl rfl rfl rfl (by rw [hz2]; omega) (by unfold maxLen; omega) (Nat.le_refl _) ?_)
  intro w1 hown hgrow
  have H1 : Hid (∃ vs rest, TL w w1 52 3 n 0 rs vs rest) := TL.start Hd.out hown hgrow
  clear hown hgrow
  rcases Nat.eq_zero_or_pos n with h0 | hpos
  · subst h0
    clear hl0 hn
    go_wp2_with fail
    refine wp_loop_rounds 1 ?_
    rw [rounds_succ]
    go_wp2_with fail
    go_ret
    obtain ⟨vs, rest, ht⟩ := H1.out
    exact ⟨_, _, rfl, ht.done Hd.out (by unfold maxLen; omega), ht.below⟩
  · obtain ⟨b, off, rfl⟩ := hl0.addr (by rw [hn]; exact hpos)
    clear hl0 hn
    go_wp2_with fail
    go_loopw [4] (fun i wr => ∃ j : Nat, j ≤ n ∧ i = .int .i64 j ∧ Hid (∃ vs rest, TL w wr 52 3 n j rs vs rest)) (fun i _ => n - (intOf i).toNat)
    case atStart => exact ⟨0, Nat.zero_le _, rfl, H1⟩
    case round =>
      obtain ⟨j, hj, rfl, ht⟩ := hrel
      clear H1
      by_cases hlt : j < n
      · obtain ⟨vs0, rest, ht⟩ := ht.out
        obtain ⟨x, hx, hxj⟩ := HA.out j hlt
        obtain ⟨vs, hvs, hcl⟩ := ((show LRow w (some ⟨b, off, none⟩) c 3 rs from HL.out).below ht.below |>.el hxj).vals
        skip
        have HC := HH.out x hx wr vs hvs wr (Below.refl _ _)
        have HT : Hid _ := ht
        have HK : Hid _ := hxj
        clear ht hxj
        generalize hfl : (Ip.fl x) = fx at HC HK
        obtain ⟨x0, x1, x2⟩ := x
        obtain ⟨y0, _, rfl, ⟨a0, c0, rfl, d0⟩, y1, _, rfl, ⟨a1, c1, rfl, d1⟩, y2, _, rfl, rfl, rfl⟩ := hvs
        skip
        have q0 : wr.cell? ⟨b, off + j * 3, none⟩ = some _ := hcl 0 _ rfl
        have q1 : wr.cell? ⟨b, off + j * 3 + 1, none⟩ = some _ := hcl 1 _ rfl
        have q2 : wr.cell? ⟨b, off + j * 3 + 2, none⟩ = some _ := hcl 2 _ rfl
        clear hcl d0 d1 hx
        have HF : Hid _ := hfl; clear hfl
        go_wp2_with fail
        refine HC.mono ?_
        rintro e w2 ⟨us, rfl, hl, hh, hb2⟩
        obtain ⟨g0, m0_, g1, m1_, hus⟩ := shapeImport (HF.out ▸ hh)
        subst hus
        have HS : Hid _ := HT.out.step (us := [.slice (some ⟨g0, 0, none⟩) m0_ m0_, .slice (some ⟨g1, 0, none⟩) m1_ m1_, .int .i64 x2]) hlt hb2 HK.out rfl hh
        have hcs := (HT.out.call hb2).cells hlt
        obtain ⟨v0, k0⟩ := hcs 0 (by omega)
        have z0 := (HT.out.call hb2).blk.free (j * 3 + 0)
        obtain ⟨v1, k1⟩ := hcs 1 (by omega)
        have z1 := (HT.out.call hb2).blk.free (j * 3 + 1)
        obtain ⟨v2, k2⟩ := hcs 2 (by omega)
        have z2 := (HT.out.call hb2).blk.free (j * 3 + 2)
        clear hcs hh hb2 HC HT HK q0 q1 q2
        simp only [Nat.add_zero, Nat.mul_one] at k0 z0 k1 z1 k2 z2
        go_wp2_with fail
        go_roundw
        case rel => exact ⟨j + 1, by omega, by go_num, ⟨_, _, HS.out⟩⟩
        case measure => simp [intOf]; omega
      · have : j = n := by omega
        subst this
        go_wp2_with fail
        go_ret
        obtain ⟨vs, rest, ht⟩ := ht.out
        exact ⟨_, _, rfl, ht.done Hd.out (by unfold maxLen; omega), ht.below⟩

theorem shapeObject {w : World} {lo hi : Nat} {us : List Value} {x0 : List Int} {x1 : List Xp} {x2 : List Ip} {x3 : Int} {x4 : List Int} (h : RecHas w lo hi (Oj.fl ⟨x0, x1, x2, x3, x4⟩) us) :
    ∃ g0 m0 g1 m1 g2 m2 g4 m4, us = [.slice (some ⟨g0, 0, none⟩) m0 m0, .slice (some ⟨g1, 0, none⟩) m1 m1, .slice (some ⟨g2, 0, none⟩) m2 m2, .int .i64 x3, .slice (some ⟨g4, 0, none⟩) m4 m4] := by
  unfold Oj.fl at h
  simp only [RecHas, Fl.Has] at h
  obtain ⟨u0, _, _, rfl, _, _, ⟨g0, rfl, _⟩, u1, _, _, rfl, _, _, ⟨g1, _, _, rfl, _⟩, u2, _, _, rfl, _, _, ⟨g2, _, _, rfl, _⟩, u3, _, _, rfl, _, _, rfl, u4, _, _, rfl, _, _, ⟨g4, rfl, _⟩, rfl⟩ := h
  exact ⟨g0, _, g1, _, g2, _, g4, _, rfl⟩

theorem infoObjectT : (Try.prog.info? 47).map (fun i => (i.zero, i.size, i.bytes)) = some (some (.agg #[.slice none 0 0, .slice none 0 0, .slice none 0 0, .int .i64 0, .slice none 0 0]), 5, 104) := by kernel_rfl

set_option maxHeartbeats 8000000 in
theorem toObjectSF (l : List Oj) (hlen : (l.map Oj.fl).length ≤ 1048576) (H : ∀ x ∈ l, ToR 19 5 (Oj.fl x)) : ToF 6 (.l 5 (l.map Oj.fl)) := by
  intro w0 v hv w hb0
  obtain ⟨a, c, rfl, hl0⟩ := (hv.below hb0).list
  clear hv hb0
  have hm : (l.map Oj.fl).length = l.length := by simp [exs_map, sts_map, txts]
  have hat : ∀ j, j < l.length → ∃ x ∈ l, (l.map Oj.fl)[j]? = some (Oj.fl x) := by
    intro j hj
    exact ⟨l[j], List.getElem_mem hj, by simp [exs_map, sts_map, txts, hj]⟩
  generalize hrs : l.map Oj.fl = rs at hl0 hm hat hlen ⊢
  clear hrs
  rw [← hm] at hat
  generalize hn : rs.length = n at hl0 hat hlen ⊢
  clear hm
  obtain ⟨i0, hi, hz0, hz1, hz2⟩ := info_parts infoObjectT
  have Hd : Hid (rs.length = n) := hn
  have HL : Hid (LRow w a c 5 rs) := hl0
  have HA : Hid (∀ j, j < n → ∃ x ∈ l, rs[j]? = some (Oj.fl x)) := hat
  have HH : Hid (∀ x ∈ l, ToR 19 5 (Oj.fl x)) := H
  clear hat H
  go_enter Try.func6, Try.ntmps6
  go_wp2_with (at_make; refine wpList_make_full _ rfl _ _ 30 rfl w.heap.size 47 i0 _ 5 Try.underlying30 hi hz0 hz1 _ _ _ _ n rfl rfl rfl rfl (by rw [hz2]; omega) (by unfold maxLen; omega) (Nat.le_refl _) ?_)
  intro w1 hown hgrow
  have H1 : Hid (∃ vs rest, TL w w1 47 5 n 0 rs vs rest) := TL.start Hd.out hown hgrow
  clear hown hgrow
  rcases Nat.eq_zero_or_pos n with h0 | hpos
  · subst h0
    clear hl0 hn
    go_wp2_with fail
    refine wp_loop_rounds 1 ?_
    rw [rounds_succ]
    go_wp2_with fail
    go_ret
    obtain ⟨vs, rest, ht⟩ := H1.out
    exact ⟨_, _, rfl, ht.done Hd.out (by unfold maxLen; omega), ht.below⟩
  · obtain ⟨b, off, rfl⟩ := hl0.addr (by rw [hn]; exact hpos)
    clear hl0 hn
    go_wp2_with fail
    go_loopw [4] (fun i wr => ∃ j : Nat, j ≤ n ∧ i = .int .i64 j ∧ Hid (∃ vs rest, TL w wr 47 5 n j rs vs rest)) (fun i _ => n - (intOf i).toNat)
    case atStart => exact ⟨0, Nat.zero_le _, rfl, H1⟩
    case round =>
      obtain ⟨j, hj, rfl, ht⟩ := hrel
      clear H1
      by_cases hlt : j < n
      · obtain ⟨vs0, rest, ht⟩ := ht.out
        obtain ⟨x, hx, hxj⟩ := HA.out j hlt
        obtain ⟨vs, hvs, hcl⟩ := ((show LRow w (some ⟨b, off, none⟩) c 5 rs from HL.out).below ht.below |>.el hxj).vals
        skip
        have HC := HH.out x hx wr vs hvs wr (Below.refl _ _)
        have HT : Hid _ := ht
        have HK : Hid _ := hxj
        clear ht hxj
        generalize hfl : (Oj.fl x) = fx at HC HK
        obtain ⟨x0, x1, x2, x3, x4⟩ := x
        obtain ⟨y0, _, rfl, ⟨a0, c0, rfl, d0⟩, y1, _, rfl, ⟨a1, c1, rfl, d1⟩, y2, _, rfl, ⟨a2, c2, rfl, d2⟩, y3, _, rfl, rfl, y4, _, rfl, ⟨a4, c4, rfl, d4⟩, rfl⟩ := hvs
        generalize (List.map Xp.fl x1).length = m1 at HC hcl; generalize (List.map Ip.fl x2).length = m2 at HC hcl
        have q0 : wr.cell? ⟨b, off + j * 5, none⟩ = some _ := hcl 0 _ rfl
        have q1 : wr.cell? ⟨b, off + j * 5 + 1, none⟩ = some _ := hcl 1 _ rfl
        have q2 : wr.cell? ⟨b, off + j * 5 + 2, none⟩ = some _ := hcl 2 _ rfl
        have q3 : wr.cell? ⟨b, off + j * 5 + 3, none⟩ = some _ := hcl 3 _ rfl
        have q4 : wr.cell? ⟨b, off + j * 5 + 4, none⟩ = some _ := hcl 4 _ rfl
        clear hcl d0 d1 d2 d4 hx
        have HF : Hid _ := hfl; clear hfl
        go_wp2_with fail
        refine HC.mono ?_
        rintro e w2 ⟨us, rfl, hl, hh, hb2⟩
        obtain ⟨g0, m0_, g1, m1_, g2, m2_, g4, m4_, hus⟩ := shapeObject (HF.out ▸ hh)
        subst hus
        have HS : Hid _ := HT.out.step (us := [.slice (some ⟨g0, 0, none⟩) m0_ m0_, .slice (some ⟨g1, 0, none⟩) m1_ m1_, .slice (some ⟨g2, 0, none⟩) m2_ m2_, .int .i64 x3, .slice (some ⟨g4, 0, none⟩) m4_ m4_]) hlt hb2 HK.out rfl hh
        have hcs := (HT.out.call hb2).cells hlt
        obtain ⟨v0, k0⟩ := hcs 0 (by omega)
        have z0 := (HT.out.call hb2).blk.free (j * 5 + 0)
        obtain ⟨v1, k1⟩ := hcs 1 (by omega)
        have z1 := (HT.out.call hb2).blk.free (j * 5 + 1)
        obtain ⟨v2, k2⟩ := hcs 2 (by omega)
        have z2 := (HT.out.call hb2).blk.free (j * 5 + 2)
        obtain ⟨v3, k3⟩ := hcs 3 (by omega)
        have z3 := (HT.out.call hb2).blk.free (j * 5 + 3)
        obtain ⟨v4, k4⟩ := hcs 4 (by omega)
        have z4 := (HT.out.call hb2).blk.free (j * 5 + 4)
        clear hcs hh hb2 HC HT HK q0 q1 q2 q3 q4
        simp only [Nat.add_zero, Nat.mul_one] at k0 z0 k1 z1 k2 z2 k3 z3 k4 z4
        go_wp2_with fail
        go_roundw
        case rel => exact ⟨j + 1, by omega, by go_num, ⟨_, _, HS.out⟩⟩
        case measure => simp [intOf]; omega
      · have : j = n := by omega
        subst this
        go_wp2_with fail
        go_ret
        obtain ⟨vs, rest, ht⟩ := ht.out
        exact ⟨_, _, rfl, ht.done Hd.out (by unfold maxLen; omega), ht.below⟩

theorem infoByteST : (Try.prog.info? 38).map (fun i => (i.zero, i.size, i.bytes)) = some (some (.slice none 0 0), 1, 24) := by kernel_rfl

theorem toByteF (l : List Int) (hl : l.length ≤ 1048576) : ToF 45 (.b l) := by
  rintro w v hv w1 hb
  obtain ⟨a, c, rfl, hr, _⟩ := hv.below hb
  refine (copyB a l.length c l w1 hr hl).mono ?_
  rintro e w' ⟨rfl, ho, _, hb1, hlt⟩
  refine ⟨_, _, rfl, ?_, hb1⟩
  unfold Fl.Has
  exact ⟨_, rfl, Nat.le_refl _, hlt, block_of_owns ho.1, ho.2, by unfold maxLen; omega⟩

theorem iblock_of_owns {w : World} {base g n : Nat} {xs : List Value} (h : w.ownsRow base 3 1 (.slice (some ⟨g, 0, none⟩) n n) n xs) : w.heap[g]? = some (.cells xs.toArray 3 (0, 0)) := by
  rcases h.2 with ⟨h', _⟩ | ⟨g', cap, cur, h', _, hg, _, _, hs, ht⟩
  · simp at h'
  · simp only [Value.slice.injEq, Option.some.injEq, Addr.mk.injEq, and_true, true_and] at h'
    obtain ⟨rfl, rfl⟩ := h'
    rw [List.take_of_length_le (by simp; omega)] at ht
    rw [hg, ← ht]

theorem ToV.on {w w1 : World} {F : Nat} {f : Fl} {v : Value} (h : ToV w F f v) (hb : Below w.heap.size w w1) : ToV w1 F f v :=
  fun w2 hb2 => h w2 (hb.trans (hb2.mono hb.size))

theorem toExportR (x0 : List Int) (x1 : Int) (x2 : Int) (S0 : ToF 45 (.b x0)) : ToR 71 3 (Xp.mk x0 x1 x2).fl := by
  intro w vs hv w1 hb
  unfold Xp.fl at hv ⊢
  obtain ⟨y0, _, rfl, h0, y1, _, rfl, rfl, y2, _, rfl, rfl, rfl⟩ := hv
  have g0 := (S0 w _ h0).on hb
  obtain ⟨a0, c0, rfl, _⟩ := h0
  exact toExport0 a0 _ c0 _ x1 x2 w1 g0

theorem toImportR (x0 : List Int) (x1 : List Int) (x2 : Int) (S0 : ToF 45 (.b x0)) (S1 : ToF 45 (.b x1)) : ToR 72 3 (Ip.mk x0 x1 x2).fl := by
  intro w vs hv w1 hb
  unfold Ip.fl at hv ⊢
  obtain ⟨y0, _, rfl, h0, y1, _, rfl, h1, y2, _, rfl, rfl, rfl⟩ := hv
  have g0 := (S0 w _ h0).on hb
  have g1 := (S1 w _ h1).on hb
  obtain ⟨a0, c0, rfl, _⟩ := h0
  obtain ⟨a1, c1, rfl, _⟩ := h1
  exact toImport0 a0 _ c0 _ a1 _ c1 _ x2 w1 g0 g1

theorem toObjectR (x0 : List Int) (x1 : List Xp) (x2 : List Ip) (x3 : Int) (x4 : List Int) (S0 : ToF 45 (.b x0)) (S1 : ToF 46 (.l 3 (x1.map Xp.fl))) (S2 : ToF 47 (.l 3 (x2.map Ip.fl))) (S4 : ToF 45 (.b x4)) : ToR 19 5 (Oj.mk x0 x1 x2 x3 x4).fl := by
  intro w vs hv w1 hb
  unfold Oj.fl at hv ⊢
  obtain ⟨y0, _, rfl, h0, y1, _, rfl, h1, y2, _, rfl, h2, y3, _, rfl, rfl, y4, _, rfl, h4, rfl⟩ := hv
  have g0 := (S0 w _ h0).on hb
  have g1 := (S1 w _ h1).on hb
  have g2 := (S2 w _ h2).on hb
  have g4 := (S4 w _ h4).on hb
  obtain ⟨a0, c0, rfl, _⟩ := h0
  obtain ⟨a1, c1, rfl, _⟩ := h1
  obtain ⟨a2, c2, rfl, _⟩ := h2
  obtain ⟨a4, c4, rfl, _⟩ := h4
  exact toObject0 a0 _ c0 _ a1 _ c1 _ a2 _ c2 _ x3 a4 _ c4 _ w1 g0 g1 g2 g4

theorem rec_le {α : Type} {f : α → List Fl} {l : List α} {x : α} (h : x ∈ l) : recLen (f x) ≤ rowsLen (l.map f) := recLen_le (List.mem_map_of_mem h)

theorem toOj (x : Oj) (h : recLen x.fl ≤ 1048576) : ToR 19 5 x.fl := by
  have e : recLen x.fl = x.name.length + ((x.ex.map Xp.fl).length + rowsLen (x.ex.map Xp.fl)) + ((x.im.map Ip.fl).length + rowsLen (x.im.map Ip.fl)) + x.code.length := by simp [Oj.fl, recLen, Fl.len] <;> omega
  rw [e] at h
  refine toObjectR x.name x.ex x.im x.data x.code (toByteF _ (by omega)) (toExportSF _ (by omega) fun q hq => ?_) (toImportSF _ (by omega) fun q hq => ?_) (toByteF _ (by omega))
  · have := rec_le (f := Xp.fl) hq
    simp only [Xp.fl, recLen, Fl.len] at this
    exact toExportR q.name q.print q.pos (toByteF _ (by omega))
  · have := rec_le (f := Ip.fl) hq
    simp only [Ip.fl, recLen, Fl.len] at this
    exact toImportR q.mod q.name q.print (toByteF _ (by omega)) (toByteF _ (by omega))

theorem toOjs (l : List Oj) (h : (l.map Oj.fl).length + rowsLen (l.map Oj.fl) ≤ 1048576) : ToF 6 (.l 5 (l.map Oj.fl)) :=
  toObjectSF l (by omega) fun x hx => toOj x (by have := rec_le (f := Oj.fl) hx; omega)

end Go.Proofs.Ytefciaeajlgheaa

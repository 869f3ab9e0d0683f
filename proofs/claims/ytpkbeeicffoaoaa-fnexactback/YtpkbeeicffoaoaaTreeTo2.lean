/- Contracts of the laws' own helpers that copy slices of a module's records. By mktreeto2.py. -/
import Derived.Test.YtpkbeeicffoaoaaTreeTo
import Derived.Test.YtpkbeeicffoaoaaTreeSz
namespace Go.Proofs.Ytpkbeeicffoaoaa
open Go.RowKit
set_option linter.unusedVariables false
set_option linter.unusedSimpArgs false
set_option maxRecDepth 100000

def ToF (F : Nat) (f : Fl) : Prop := ∀ (w : World) (v : Value), f.Rd w v → ToV w F f v
def ToR (F K : Nat) (r : List Fl) : Prop := ∀ (w : World) (vs : List Value), RdVals w r vs → ∀ w1 : World, Below w.heap.size w w1 → Calls Try.prog F #[.agg vs.toArray] w1 fun e w' => ∃ us, e = .returned (.agg (List.toArray us)) ∧ us.length = K ∧ RecHas w' w1.heap.size w'.heap.size r us ∧ Below w1.heap.size w1 w'

theorem len2 {us : List Value} (h : us.length = 2) : ∃ u0 u1, us = [u0, u1] := by
  match us, h with
  | [a, b], _ => exact ⟨a, b, rfl⟩
theorem len5 {us : List Value} (h : us.length = 5) : ∃ u0 u1 u2 u3 u4, us = [u0, u1, u2, u3, u4] := by
  match us, h with
  | [a, b, c, d, e], _ => exact ⟨a, b, c, d, e, rfl⟩
theorem len6 {us : List Value} (h : us.length = 6) : ∃ u0 u1 u2 u3 u4 u5, us = [u0, u1, u2, u3, u4, u5] := by
  match us, h with
  | [a, b, c, d, e, f], _ => exact ⟨a, b, c, d, e, f, rfl⟩

theorem rec_one {w : World} {lo hi : Nat} {f : Fl} {u : Value} (h : f.Has w lo hi u) (hl : lo ≤ hi := by omega) : RecHas w lo hi [f] [u] := by
  unfold RecHas
  refine ⟨u, [], hi, rfl, hl, Nat.le_refl _, h, ?_⟩
  unfold RecHas; rfl

theorem Blk.setAll {g : Nat} {T : TypeId} : ∀ (us : List Value) {W : World} {pre old post : List Value}, Blk W g T (pre ++ old ++ post) → old.length = us.length → Blk (setAll W g pre.length us) g T (pre ++ us ++ post) := by
  intro us
  induction us with
  | nil => intro W pre old post h hl; have : old = [] := List.eq_nil_of_length_eq_zero hl; subst this; exact h
  | cons u us ih =>
    intro W pre old post h hl
    cases old with
    | nil => simp at hl
    | cons x old =>
      have h1 := h.set (i := pre.length) u
      have e : (pre ++ x :: old ++ post).set pre.length u = (pre ++ [u]) ++ old ++ post := by simp
      rw [e] at h1
      have h2 := ih h1 (by simpa using hl)
      have e2 : (pre ++ [u]).length = pre.length + 1 := by simp
      rw [e2] at h2
      simpa [Go.Proofs.Ytpkbeeicffoaoaa.setAll] using h2

/-- How far the copy of a slice has come: j of n records, K cells each. -/
structure TL (w wr : World) (T K n j : Nat) (rs : List (List Fl)) (vs rest : List Value) : Prop where
  len : rest.length = (n - j) * K
  blk : Blk wr w.heap.size T (vs ++ rest)
  has : RowsHas wr K (w.heap.size + 1) wr.heap.size (rs.take j) vs
  lenr : rs.length = n
  leqj : j ≤ n
  below : Below w.heap.size w wr

theorem TL.start {w wr : World} {T K n : Nat} {rs : List (List Fl)} {xs : List Value} (hn : rs.length = n) (h : wr.ownsRow w.heap.size T K (.slice (some ⟨w.heap.size, 0, none⟩) n n) n xs) (hg : w.grownBy wr none) : ∃ vs rest, TL w wr T K n 0 rs vs rest := by
  have hl := h.1
  rcases h.2 with ⟨h', _⟩ | ⟨g', cap, cur, h', _, hgb, _, _, hs, ht⟩
  · simp at h'
  · simp only [Value.slice.injEq, Option.some.injEq, Addr.mk.injEq, and_true, true_and] at h'
    obtain ⟨rfl, rfl⟩ := h'
    rw [List.take_of_length_le (by simp; omega)] at ht
    refine ⟨[], xs, by simpa using hl, ?_, ?_, hn, Nat.zero_le _, (Below.refl _ _).grown hg (Nat.le_refl _) (by intro k hk; cases hk)⟩
    · show wr.heap[w.heap.size]? = _
      rw [hgb, ← ht]; simp
    · rw [List.take_zero]; unfold RowsHas; rfl

theorem TL.vlen {w wr : World} {T K n j : Nat} {rs : List (List Fl)} {vs rest : List Value} (h : TL w wr T K n j rs vs rest) : vs.length = j * K := by
  rw [h.has.len, List.length_take, h.lenr, Nat.min_eq_left h.leqj]

theorem TL.call {w w1 w2 : World} {T K n j : Nat} {rs : List (List Fl)} {vs rest : List Value} (h : TL w w1 T K n j rs vs rest) (hb : Below w1.heap.size w1 w2) : TL w w2 T K n j rs vs rest :=
  ⟨h.len, h.blk.below hb h.blk.lt, (h.has.stays (Stays.of hb (Nat.le_refl _))).wide (Nat.le_refl _) hb.size, h.lenr, h.leqj, h.below.trans (hb.mono h.below.size)⟩

theorem TL.cells {w wr : World} {T K n j : Nat} {rs : List (List Fl)} {vs rest : List Value} (h : TL w wr T K n j rs vs rest) (hj : j < n) : ∀ i, i < K → ∃ v, wr.cell? ⟨w.heap.size, j * K + i, none⟩ = some v := by
  intro i hi
  have hv := h.vlen
  have hr := h.len
  have hp : K ≤ (n - j) * K := Nat.le_mul_of_pos_left K (by omega)
  have hlt : i < rest.length := by omega
  refine ⟨rest[i], h.blk.cell ?_⟩
  rw [List.getElem?_append_right (by omega), hv, Nat.add_sub_cancel_left]
  exact List.getElem?_eq_getElem hlt

theorem TL.step {w w1 w2 : World} {T K n j : Nat} {rs : List (List Fl)} {vs rest us : List Value} {r : List Fl} (h : TL w w1 T K n j rs vs rest) (hj : j < n) (hb : Below w1.heap.size w1 w2) (hr : rs[j]? = some r) (hl : us.length = K) (hh : RecHas w2 w1.heap.size w2.heap.size r us) :
    TL w (setAll w2 w.heap.size (j * K) us) T K n (j + 1) rs (vs ++ us) (rest.drop K) := by
  have h2 := h.call hb
  have hv := h.vlen
  have hp : K ≤ (n - j) * K := Nat.le_mul_of_pos_left K (by omega)
  have hrl := h.len
  have hb1 : Blk (setAll w2 w.heap.size (j * K) us) w.heap.size T ((vs ++ us) ++ rest.drop K) := by
    have e : vs ++ rest = vs ++ rest.take K ++ rest.drop K := by rw [List.append_assoc, List.take_append_drop]
    have := h2.blk
    rw [e] at this
    have h3 := this.setAll us (by rw [List.length_take, hl]; omega)
    rw [hv] at h3
    exact h3
  have hlt1 := h.blk.lt
  have hrow : RowsHas w2 K (w.heap.size + 1) w2.heap.size (rs.take (j + 1)) (vs ++ us) := by
    obtain ⟨hk, e⟩ := List.getElem?_eq_some_iff.1 hr
    rw [List.take_succ_eq_append_getElem hk, e]
    exact (h.has.stays (Stays.of hb (Nat.le_refl _))).snoc hh hl (by omega) hb.size
  have key : ∀ (l : List Value) (W : World) (i : Nat), Below w.heap.size w W → RowsHas W K (w.heap.size + 1) w2.heap.size (rs.take (j + 1)) (vs ++ us) → Below w.heap.size w (setAll W w.heap.size i l) ∧ RowsHas (setAll W w.heap.size i l) K (w.heap.size + 1) w2.heap.size (rs.take (j + 1)) (vs ++ us) := by
    intro l
    induction l with
    | nil => intro W i a b; exact ⟨a, b⟩
    | cons v l ih => intro W i a b; exact ih _ _ (a.setCell (by simp) v) (b.stays (Stays.put (.inl (by omega))))
  obtain ⟨k1, k2⟩ := key us w2 (j * K) h2.below hrow
  refine ⟨?_, hb1, ?_, h.lenr, by omega, k1⟩
  · rw [List.length_drop, hrl]
    have : n - j = (n - (j + 1)) + 1 := by omega
    rw [this, Nat.add_mul]; omega
  · rw [setAll_size]; exact k2

theorem TL.done {w wr : World} {T K n : Nat} {rs : List (List Fl)} {vs rest : List Value} (h : TL w wr T K n n rs vs rest) (hn : rs.length = n) (hm : n ≤ maxLen) : (Fl.l K rs).Has wr w.heap.size wr.heap.size (.slice (some ⟨w.heap.size, 0, none⟩) n n) := by
  have hr : rest = [] := List.eq_nil_of_length_eq_zero (by rw [h.len]; simp)
  have hb := h.blk
  have hh := h.has
  rw [hr, List.append_nil] at hb
  rw [List.take_of_length_le (by omega)] at hh
  unfold Fl.Has
  exact ⟨w.heap.size, vs, T, by rw [hn], Nat.le_refl _, h.blk.lt, hb, by omega, hh⟩

theorem shapeVar {w : World} {lo hi : Nat} {us : List Value} {x0 : List Int} {x1 : Int} (h : RecHas w lo hi (Va.fl ⟨x0, x1⟩) us) :
    ∃ g0 m0, us = [.slice (some ⟨g0, 0, none⟩) m0 m0, .int .i64 x1] := by
  unfold Va.fl at h
  simp only [RecHas, Fl.Has] at h
  obtain ⟨u0, _, _, rfl, _, _, ⟨g0, rfl, _⟩, u1, _, _, rfl, _, _, rfl, rfl⟩ := h
  exact ⟨g0, _, rfl⟩

theorem shapeParam {w : World} {lo hi : Nat} {us : List Value} {x0 : List Int} {x1 : Bool} (h : RecHas w lo hi (Pa.fl ⟨x0, x1⟩) us) :
    ∃ g0 m0, us = [.slice (some ⟨g0, 0, none⟩) m0 m0, .bool x1] := by
  unfold Pa.fl at h
  simp only [RecHas, Fl.Has] at h
  obtain ⟨u0, _, _, rfl, _, _, ⟨g0, rfl, _⟩, u1, _, _, rfl, _, _, rfl, rfl⟩ := h
  exact ⟨g0, _, rfl⟩

theorem shapeExpr {w : World} {lo hi : Nat} {us : List Value} {x0 : Int} {x1 : Int} {x2 : List Int} {x3 : List Int} {x4 : List Ex} (h : RecHas w lo hi (Ex.fl ⟨x0, x1, x2, x3, x4⟩) us) :
    ∃ g2 m2 g3 m3 g4 m4, us = [.int .i64 x0, .int .i64 x1, .slice (some ⟨g2, 0, none⟩) m2 m2, .slice (some ⟨g3, 0, none⟩) m3 m3, .slice (some ⟨g4, 0, none⟩) m4 m4] := by
  unfold Ex.fl at h
  simp only [RecHas, Fl.Has] at h
  obtain ⟨u0, _, _, rfl, _, _, rfl, u1, _, _, rfl, _, _, rfl, u2, _, _, rfl, _, _, ⟨g2, rfl, _⟩, u3, _, _, rfl, _, _, ⟨g3, rfl, _⟩, u4, _, _, rfl, _, _, ⟨g4, _, _, rfl, _⟩, rfl⟩ := h
  exact ⟨g2, _, g3, _, g4, _, rfl⟩

theorem shapeStmt {w : World} {lo hi : Nat} {us : List Value} {x0 : Int} {x1 : Int} {x2 : List Int} {x3 : List Ex} {x4 : List St} {x5 : List St} (h : RecHas w lo hi (St.fl ⟨x0, x1, x2, x3, x4, x5⟩) us) :
    ∃ g2 m2 g3 m3 g4 m4 g5 m5, us = [.int .i64 x0, .int .i64 x1, .slice (some ⟨g2, 0, none⟩) m2 m2, .slice (some ⟨g3, 0, none⟩) m3 m3, .slice (some ⟨g4, 0, none⟩) m4 m4, .slice (some ⟨g5, 0, none⟩) m5 m5] := by
  unfold St.fl at h
  simp only [RecHas, Fl.Has] at h
  obtain ⟨u0, _, _, rfl, _, _, rfl, u1, _, _, rfl, _, _, rfl, u2, _, _, rfl, _, _, ⟨g2, rfl, _⟩, u3, _, _, rfl, _, _, ⟨g3, _, _, rfl, _⟩, u4, _, _, rfl, _, _, ⟨g4, _, _, rfl, _⟩, u5, _, _, rfl, _, _, ⟨g5, _, _, rfl, _⟩, rfl⟩ := h
  exact ⟨g2, _, g3, _, g4, _, g5, _, rfl⟩

theorem shapeProc {w : World} {lo hi : Nat} {us : List Value} {x0 : List Int} {x1 : Bool} {x2 : List Pa} {x3 : List (List Int)} {x4 : List St} (h : RecHas w lo hi (Pr.fl ⟨x0, x1, x2, x3, x4⟩) us) :
    ∃ g0 m0 g2 m2 g3 m3 g4 m4, us = [.slice (some ⟨g0, 0, none⟩) m0 m0, .bool x1, .slice (some ⟨g2, 0, none⟩) m2 m2, .slice (some ⟨g3, 0, none⟩) m3 m3, .slice (some ⟨g4, 0, none⟩) m4 m4] := by
  unfold Pr.fl at h
  simp only [RecHas, Fl.Has] at h
  obtain ⟨u0, _, _, rfl, _, _, ⟨g0, rfl, _⟩, u1, _, _, rfl, _, _, rfl, u2, _, _, rfl, _, _, ⟨g2, _, _, rfl, _⟩, u3, _, _, rfl, _, _, ⟨g3, _, _, rfl, _⟩, u4, _, _, rfl, _, _, ⟨g4, _, _, rfl, _⟩, rfl⟩ := h
  exact ⟨g0, _, g2, _, g3, _, g4, _, rfl⟩

theorem shapeFaceProc {w : World} {lo hi : Nat} {us : List Value} {x0 : List Int} {x1 : List Int} (h : RecHas w lo hi (Fp.fl ⟨x0, x1⟩) us) :
    ∃ g0 m0 g1 m1, us = [.slice (some ⟨g0, 0, none⟩) m0 m0, .slice (some ⟨g1, 0, none⟩) m1 m1] := by
  unfold Fp.fl at h
  simp only [RecHas, Fl.Has] at h
  obtain ⟨u0, _, _, rfl, _, _, ⟨g0, rfl, _⟩, u1, _, _, rfl, _, _, ⟨g1, rfl, _⟩, rfl⟩ := h
  exact ⟨g0, _, g1, _, rfl⟩

theorem shapeFace {w : World} {lo hi : Nat} {us : List Value} {x0 : List Int} {x1 : List Fp} (h : RecHas w lo hi (Fa.fl ⟨x0, x1⟩) us) :
    ∃ g0 m0 g1 m1, us = [.slice (some ⟨g0, 0, none⟩) m0 m0, .slice (some ⟨g1, 0, none⟩) m1 m1] := by
  unfold Fa.fl at h
  simp only [RecHas, Fl.Has] at h
  obtain ⟨u0, _, _, rfl, _, _, ⟨g0, rfl, _⟩, u1, _, _, rfl, _, _, ⟨g1, _, _, rfl, _⟩, rfl⟩ := h
  exact ⟨g0, _, g1, _, rfl⟩

theorem shapeExport {w : World} {lo hi : Nat} {us : List Value} {x0 : List Int} {x1 : Int} {x2 : Int} (h : RecHas w lo hi (Xp.fl ⟨x0, x1, x2⟩) us) :
    ∃ g0 m0, us = [.slice (some ⟨g0, 0, none⟩) m0 m0, .int .i64 x1, .int .i64 x2] := by
  unfold Xp.fl at h
  simp only [RecHas, Fl.Has] at h
  obtain ⟨u0, _, _, rfl, _, _, ⟨g0, rfl, _⟩, u1, _, _, rfl, _, _, rfl, u2, _, _, rfl, _, _, rfl, rfl⟩ := h
  exact ⟨g0, _, rfl⟩

theorem shapeImport {w : World} {lo hi : Nat} {us : List Value} {x0 : List Int} {x1 : List Int} {x2 : Int} (h : RecHas w lo hi (Ip.fl ⟨x0, x1, x2⟩) us) :
    ∃ g0 m0 g1 m1, us = [.slice (some ⟨g0, 0, none⟩) m0 m0, .slice (some ⟨g1, 0, none⟩) m1 m1, .int .i64 x2] := by
  unfold Ip.fl at h
  simp only [RecHas, Fl.Has] at h
  obtain ⟨u0, _, _, rfl, _, _, ⟨g0, rfl, _⟩, u1, _, _, rfl, _, _, ⟨g1, rfl, _⟩, u2, _, _, rfl, _, _, rfl, rfl⟩ := h
  exact ⟨g0, _, g1, _, rfl⟩

theorem shapeObject {w : World} {lo hi : Nat} {us : List Value} {x0 : List Int} {x1 : List Xp} {x2 : List Ip} {x3 : Int} {x4 : List Int} (h : RecHas w lo hi (Oj.fl ⟨x0, x1, x2, x3, x4⟩) us) :
    ∃ g0 m0 g1 m1 g2 m2 g4 m4, us = [.slice (some ⟨g0, 0, none⟩) m0 m0, .slice (some ⟨g1, 0, none⟩) m1 m1, .slice (some ⟨g2, 0, none⟩) m2 m2, .int .i64 x3, .slice (some ⟨g4, 0, none⟩) m4 m4] := by
  unfold Oj.fl at h
  simp only [RecHas, Fl.Has] at h
  obtain ⟨u0, _, _, rfl, _, _, ⟨g0, rfl, _⟩, u1, _, _, rfl, _, _, ⟨g1, _, _, rfl, _⟩, u2, _, _, rfl, _, _, ⟨g2, _, _, rfl, _⟩, u3, _, _, rfl, _, _, rfl, u4, _, _, rfl, _, _, ⟨g4, rfl, _⟩, rfl⟩ := h
  exact ⟨g0, _, g1, _, g2, _, g4, _, rfl⟩

theorem shapeArg {w : World} {lo hi : Nat} {us : List Value} {x0 : Bool} {x1 : Int} (h : RecHas w lo hi (Ag.fl ⟨x0, x1⟩) us) :
    us = [.bool x0, .int .i64 x1] := by
  unfold Ag.fl at h
  simp only [RecHas, Fl.Has] at h
  obtain ⟨u0, _, _, rfl, _, _, rfl, u1, _, _, rfl, _, _, rfl, rfl⟩ := h
  exact rfl

theorem infoArgT : (Try.prog.info? 89).map (fun i => (i.zero, i.size, i.bytes)) = some (some (.agg #[.bool false, .int .i64 0]), 2, 16) := by kernel_rfl

set_option maxHeartbeats 8000000 in
theorem toArgSF (l : List Ag) (hlen : (l.map Ag.fl).length ≤ 1048576) (H : ∀ x ∈ l, ToR 51 2 (Ag.fl x)) : ToF 46 (.l 2 (l.map Ag.fl)) := by
  intro w0 v hv w hb0
  obtain ⟨a, c, rfl, hl0⟩ := (hv.below hb0).list
  clear hv hb0
  have hm : (l.map Ag.fl).length = l.length := by simp [exs_map, sts_map, txts]
  have hat : ∀ j, j < l.length → ∃ x ∈ l, (l.map Ag.fl)[j]? = some (Ag.fl x) := by
    intro j hj
    exact ⟨l[j], List.getElem_mem hj, by simp [exs_map, sts_map, txts, hj]⟩
  generalize hrs : l.map Ag.fl = rs at hl0 hm hat hlen ⊢
  clear hrs
  rw [← hm] at hat
  generalize hn : rs.length = n at hl0 hat hlen ⊢
  clear hm
  obtain ⟨i0, hi, hz0, hz1, hz2⟩ := info_parts infoArgT
  have Hd : Hid (rs.length = n) := hn
  have HL : Hid (LRow w a c 2 rs) := hl0
  have HA : Hid (∀ j, j < n → ∃ x ∈ l, rs[j]? = some (Ag.fl x)) := hat
  have HH : Hid (∀ x ∈ l, ToR 51 2 (Ag.fl x)) := H
  clear hat H
  go_enter Try.func46, Try.ntmps46
  go_wp2_with (at_make; refine wpList_make_full _ rfl _ _ 48 rfl w.heap.size 89 i0 _ 2 Try.underlying48 hi hz0 hz1 _ _ _ _ n rfl rfl rfl rfl (by rw [hz2]; omega) (by unfold maxLen; omega) (Nat.le_refl _) ?_)
  intro w1 hown hgrow
  have H1 : Hid (∃ vs rest, TL w w1 89 2 n 0 rs vs rest) := TL.start Hd.out hown hgrow
  clear hown hgrow
  rcases Nat.eq_zero_or_pos n with h0 | hpos
  · subst h0
    clear hl0 hn
    go_wp2_with fail
    refine wp_loop_rounds 1 ?_
    rw [rounds_succ]
    go_wp2_with fail
    go_ret
    obtain ⟨vs, rest, ht⟩ := H1.out
    exact ⟨_, _, rfl, ht.done Hd.out (by unfold maxLen; omega), ht.below⟩
  · obtain ⟨b, off, rfl⟩ := hl0.addr (by rw [hn]; exact hpos)
    clear hl0 hn
    go_wp2_with fail
    go_loopw [4] (fun i wr => ∃ j : Nat, j ≤ n ∧ i = .int .i64 j ∧ Hid (∃ vs rest, TL w wr 89 2 n j rs vs rest)) (fun i _ => n - (intOf i).toNat)
    case atStart => exact ⟨0, Nat.zero_le _, rfl, H1⟩
    case round =>
      obtain ⟨j, hj, rfl, ht⟩ := hrel
      clear H1
      by_cases hlt : j < n
      · obtain ⟨vs0, rest, ht⟩ := ht.out
        obtain ⟨x, hx, hxj⟩ := HA.out j hlt
        obtain ⟨vs, hvs, hcl⟩ := ((show LRow w (some ⟨b, off, none⟩) c 2 rs from HL.out).below ht.below |>.el hxj).vals
        skip
        have HC := HH.out x hx wr vs hvs wr (Below.refl _ _)
        have HT : Hid _ := ht
        have HK : Hid _ := hxj
        clear ht hxj
        generalize hfl : (Ag.fl x) = fx at HC HK
        obtain ⟨x0, x1⟩ := x
        obtain ⟨y0, _, rfl, rfl, y1, _, rfl, rfl, rfl⟩ := hvs
        skip
        have q0 : wr.cell? ⟨b, off + j * 2, none⟩ = some _ := hcl 0 _ rfl
        have q1 : wr.cell? ⟨b, off + j * 2 + 1, none⟩ = some _ := hcl 1 _ rfl
        clear hcl  hx
        have HF : Hid _ := hfl; clear hfl
        go_wp2_with fail
        refine HC.mono ?_
        rintro e w2 ⟨us, rfl, hl, hh, hb2⟩
        have hus := shapeArg (HF.out ▸ hh)
        subst hus
        have HS : Hid _ := HT.out.step (us := [.bool x0, .int .i64 x1]) hlt hb2 HK.out rfl hh
        have hcs := (HT.out.call hb2).cells hlt
        obtain ⟨v0, k0⟩ := hcs 0 (by omega)
        have z0 := (HT.out.call hb2).blk.free (j * 2 + 0)
        obtain ⟨v1, k1⟩ := hcs 1 (by omega)
        have z1 := (HT.out.call hb2).blk.free (j * 2 + 1)
        clear hcs hh hb2 HC HT HK q0 q1
        simp only [Nat.add_zero, Nat.mul_one] at k0 z0 k1 z1
        go_wp2_with fail
        go_roundw
        case rel => exact ⟨j + 1, by omega, by go_num, ⟨_, _, HS.out⟩⟩
        case measure => simp [intOf]; omega
      · have : j = n := by omega
        subst this
        go_wp2_with fail
        go_ret
        obtain ⟨vs, rest, ht⟩ := ht.out
        exact ⟨_, _, rfl, ht.done Hd.out (by unfold maxLen; omega), ht.below⟩

theorem shapeWord {w : World} {lo hi : Nat} {us : List Value} {x0 : Bool} {x1 : Int} {x2 : Int} {x3 : Int} {x4 : Int} {x5 : Int} {x6 : Int} (h : RecHas w lo hi (Wo.fl ⟨x0, x1, x2, x3, x4, x5, x6⟩) us) :
    us = [.bool x0, .int .i64 x1, .int .i64 x2, .int .i64 x3, .int .i64 x4, .int .i64 x5, .int .i64 x6] := by
  unfold Wo.fl at h
  simp only [RecHas, Fl.Has] at h
  obtain ⟨u0, _, _, rfl, _, _, rfl, u1, _, _, rfl, _, _, rfl, u2, _, _, rfl, _, _, rfl, u3, _, _, rfl, _, _, rfl, u4, _, _, rfl, _, _, rfl, u5, _, _, rfl, _, _, rfl, u6, _, _, rfl, _, _, rfl, rfl⟩ := h
  exact rfl

theorem infoWordT : (Try.prog.info? 74).map (fun i => (i.zero, i.size, i.bytes)) = some (some (.agg #[.bool false, .int .i64 0, .int .i64 0, .int .i64 0, .int .i64 0, .int .i64 0, .int .i64 0]), 7, 56) := by kernel_rfl

set_option maxHeartbeats 8000000 in
theorem toWordSF (l : List Wo) (hlen : (l.map Wo.fl).length ≤ 1048576) (H : ∀ x ∈ l, ToR 36 7 (Wo.fl x)) : ToF 21 (.l 7 (l.map Wo.fl)) := by
  intro w0 v hv w hb0
  obtain ⟨a, c, rfl, hl0⟩ := (hv.below hb0).list
  clear hv hb0
  have hm : (l.map Wo.fl).length = l.length := by simp [exs_map, sts_map, txts]
  have hat : ∀ j, j < l.length → ∃ x ∈ l, (l.map Wo.fl)[j]? = some (Wo.fl x) := by
    intro j hj
    exact ⟨l[j], List.getElem_mem hj, by simp [exs_map, sts_map, txts, hj]⟩
  generalize hrs : l.map Wo.fl = rs at hl0 hm hat hlen ⊢
  clear hrs
  rw [← hm] at hat
  generalize hn : rs.length = n at hl0 hat hlen ⊢
  clear hm
  obtain ⟨i0, hi, hz0, hz1, hz2⟩ := info_parts infoWordT
  have Hd : Hid (rs.length = n) := hn
  have HL : Hid (LRow w a c 7 rs) := hl0
  have HA : Hid (∀ j, j < n → ∃ x ∈ l, rs[j]? = some (Wo.fl x)) := hat
  have HH : Hid (∀ x ∈ l, ToR 36 7 (Wo.fl x)) := H
  clear hat H
  go_enter Try.func21, Try.ntmps21
  go_wp2_with (at_make; refine wpList_make_full _ rfl _ _ 33 rfl w.heap.size 74 i0 _ 7 Try.underlying33 hi hz0 hz1 _ _ _ _ n rfl rfl rfl rfl (by rw [hz2]; omega) (by unfold maxLen; omega) (Nat.le_refl _) ?_)
  intro w1 hown hgrow
  have H1 : Hid (∃ vs rest, TL w w1 74 7 n 0 rs vs rest) := TL.start Hd.out hown hgrow
  clear hown hgrow
  rcases Nat.eq_zero_or_pos n with h0 | hpos
  · subst h0
    clear hl0 hn
    go_wp2_with fail
    refine wp_loop_rounds 1 ?_
    rw [rounds_succ]
    go_wp2_with fail
    go_ret
    obtain ⟨vs, rest, ht⟩ := H1.out
    exact ⟨_, _, rfl, ht.done Hd.out (by unfold maxLen; omega), ht.below⟩
  · obtain ⟨b, off, rfl⟩ := hl0.addr (by rw [hn]; exact hpos)
    clear hl0 hn
    go_wp2_with fail
    go_loopw [4] (fun i wr => ∃ j : Nat, j ≤ n ∧ i = .int .i64 j ∧ Hid (∃ vs rest, TL w wr 74 7 n j rs vs rest)) (fun i _ => n - (intOf i).toNat)
    case atStart => exact ⟨0, Nat.zero_le _, rfl, H1⟩
    case round =>
      obtain ⟨j, hj, rfl, ht⟩ := hrel
      clear H1
      by_cases hlt : j < n
      · obtain ⟨vs0, rest, ht⟩ := ht.out
        obtain ⟨x, hx, hxj⟩ := HA.out j hlt
        obtain ⟨vs, hvs, hcl⟩ := ((show LRow w (some ⟨b, off, none⟩) c 7 rs from HL.out).below ht.below |>.el hxj).vals
        skip
        have HC := HH.out x hx wr vs hvs wr (Below.refl _ _)
        have HT : Hid _ := ht
        have HK : Hid _ := hxj
        clear ht hxj
        generalize hfl : (Wo.fl x) = fx at HC HK
        obtain ⟨x0, x1, x2, x3, x4, x5, x6⟩ := x
        obtain ⟨y0, _, rfl, rfl, y1, _, rfl, rfl, y2, _, rfl, rfl, y3, _, rfl, rfl, y4, _, rfl, rfl, y5, _, rfl, rfl, y6, _, rfl, rfl, rfl⟩ := hvs
        skip
        have q0 : wr.cell? ⟨b, off + j * 7, none⟩ = some _ := hcl 0 _ rfl
        have q1 : wr.cell? ⟨b, off + j * 7 + 1, none⟩ = some _ := hcl 1 _ rfl
        have q2 : wr.cell? ⟨b, off + j * 7 + 2, none⟩ = some _ := hcl 2 _ rfl
        have q3 : wr.cell? ⟨b, off + j * 7 + 3, none⟩ = some _ := hcl 3 _ rfl
        have q4 : wr.cell? ⟨b, off + j * 7 + 4, none⟩ = some _ := hcl 4 _ rfl
        have q5 : wr.cell? ⟨b, off + j * 7 + 5, none⟩ = some _ := hcl 5 _ rfl
        have q6 : wr.cell? ⟨b, off + j * 7 + 6, none⟩ = some _ := hcl 6 _ rfl
        clear hcl  hx
        have HF : Hid _ := hfl; clear hfl
        go_wp2_with fail
        refine HC.mono ?_
        rintro e w2 ⟨us, rfl, hl, hh, hb2⟩
        have hus := shapeWord (HF.out ▸ hh)
        subst hus
        have HS : Hid _ := HT.out.step (us := [.bool x0, .int .i64 x1, .int .i64 x2, .int .i64 x3, .int .i64 x4, .int .i64 x5, .int .i64 x6]) hlt hb2 HK.out rfl hh
        have hcs := (HT.out.call hb2).cells hlt
        obtain ⟨v0, k0⟩ := hcs 0 (by omega)
        have z0 := (HT.out.call hb2).blk.free (j * 7 + 0)
        obtain ⟨v1, k1⟩ := hcs 1 (by omega)
        have z1 := (HT.out.call hb2).blk.free (j * 7 + 1)
        obtain ⟨v2, k2⟩ := hcs 2 (by omega)
        have z2 := (HT.out.call hb2).blk.free (j * 7 + 2)
        obtain ⟨v3, k3⟩ := hcs 3 (by omega)
        have z3 := (HT.out.call hb2).blk.free (j * 7 + 3)
        obtain ⟨v4, k4⟩ := hcs 4 (by omega)
        have z4 := (HT.out.call hb2).blk.free (j * 7 + 4)
        obtain ⟨v5, k5⟩ := hcs 5 (by omega)
        have z5 := (HT.out.call hb2).blk.free (j * 7 + 5)
        obtain ⟨v6, k6⟩ := hcs 6 (by omega)
        have z6 := (HT.out.call hb2).blk.free (j * 7 + 6)
        clear hcs hh hb2 HC HT HK q0 q1 q2 q3 q4 q5 q6
        simp only [Nat.add_zero, Nat.mul_one] at k0 z0 k1 z1 k2 z2 k3 z3 k4 z4 k5 z5 k6 z6
        go_wp2_with fail
        go_roundw
        case rel => exact ⟨j + 1, by omega, by go_num, ⟨_, _, HS.out⟩⟩
        case measure => simp [intOf]; omega
      · have : j = n := by omega
        subst this
        go_wp2_with fail
        go_ret
        obtain ⟨vs, rest, ht⟩ := ht.out
        exact ⟨_, _, rfl, ht.done Hd.out (by unfold maxLen; omega), ht.below⟩

theorem shapeEvent {w : World} {lo hi : Nat} {us : List Value} {x0 : Int} {x1 : Int} {x2 : Int} {x3 : Int} {x4 : List Ag} {x5 : Int} (h : RecHas w lo hi (Ev.fl ⟨x0, x1, x2, x3, x4, x5⟩) us) :
    ∃ g4 m4, us = [.int .i64 x0, .int .i64 x1, .int .i64 x2, .int .i64 x3, .slice (some ⟨g4, 0, none⟩) m4 m4, .int .i64 x5] := by
  unfold Ev.fl at h
  simp only [RecHas, Fl.Has] at h
  obtain ⟨u0, _, _, rfl, _, _, rfl, u1, _, _, rfl, _, _, rfl, u2, _, _, rfl, _, _, rfl, u3, _, _, rfl, _, _, rfl, u4, _, _, rfl, _, _, ⟨g4, _, _, rfl, _⟩, u5, _, _, rfl, _, _, rfl, rfl⟩ := h
  exact ⟨g4, _, rfl⟩

theorem infoEventT : (Try.prog.info? 50).map (fun i => (i.zero, i.size, i.bytes)) = some (some (.agg #[.int .i64 0, .int .i64 0, .int .i64 0, .int .i64 0, .slice none 0 0, .int .i64 0]), 6, 64) := by kernel_rfl

set_option maxHeartbeats 8000000 in
theorem toEventSF (l : List Ev) (hlen : (l.map Ev.fl).length ≤ 1048576) (H : ∀ x ∈ l, ToR 35 6 (Ev.fl x)) : ToF 20 (.l 6 (l.map Ev.fl)) := by
  intro w0 v hv w hb0
  obtain ⟨a, c, rfl, hl0⟩ := (hv.below hb0).list
  clear hv hb0
  have hm : (l.map Ev.fl).length = l.length := by simp [exs_map, sts_map, txts]
  have hat : ∀ j, j < l.length → ∃ x ∈ l, (l.map Ev.fl)[j]? = some (Ev.fl x) := by
    intro j hj
    exact ⟨l[j], List.getElem_mem hj, by simp [exs_map, sts_map, txts, hj]⟩
  generalize hrs : l.map Ev.fl = rs at hl0 hm hat hlen ⊢
  clear hrs
  rw [← hm] at hat
  generalize hn : rs.length = n at hl0 hat hlen ⊢
  clear hm
  obtain ⟨i0, hi, hz0, hz1, hz2⟩ := info_parts infoEventT
  have Hd : Hid (rs.length = n) := hn
  have HL : Hid (LRow w a c 6 rs) := hl0
  have HA : Hid (∀ j, j < n → ∃ x ∈ l, rs[j]? = some (Ev.fl x)) := hat
  have HH : Hid (∀ x ∈ l, ToR 35 6 (Ev.fl x)) := H
  clear hat H
  go_enter Try.func20, Try.ntmps20
  go_wp2_with (at_make; refine wpList_make_full _ rfl _ _ 32 rfl w.heap.size 50 i0 _ 6 Try.underlying32 hi hz0 hz1 _ _ _ _ n rfl rfl rfl rfl (by rw [hz2]; omega) (by unfold maxLen; omega) (Nat.le_refl _) ?_)
  intro w1 hown hgrow
  have H1 : Hid (∃ vs rest, TL w w1 50 6 n 0 rs vs rest) := TL.start Hd.out hown hgrow
  clear hown hgrow
  rcases Nat.eq_zero_or_pos n with h0 | hpos
  · subst h0
    clear hl0 hn
    go_wp2_with fail
    refine wp_loop_rounds 1 ?_
    rw [rounds_succ]
    go_wp2_with fail
    go_ret
    obtain ⟨vs, rest, ht⟩ := H1.out
    exact ⟨_, _, rfl, ht.done Hd.out (by unfold maxLen; omega), ht.below⟩
  · obtain ⟨b, off, rfl⟩ := hl0.addr (by rw [hn]; exact hpos)
    clear hl0 hn
    go_wp2_with fail
    go_loopw [4] (fun i wr => ∃ j : Nat, j ≤ n ∧ i = .int .i64 j ∧ Hid (∃ vs rest, TL w wr 50 6 n j rs vs rest)) (fun i _ => n - (intOf i).toNat)
    case atStart => exact ⟨0, Nat.zero_le _, rfl, H1⟩
    case round =>
      obtain ⟨j, hj, rfl, ht⟩ := hrel
      clear H1
      by_cases hlt : j < n
      · obtain ⟨vs0, rest, ht⟩ := ht.out
        obtain ⟨x, hx, hxj⟩ := HA.out j hlt
        obtain ⟨vs, hvs, hcl⟩ := ((show LRow w (some ⟨b, off, none⟩) c 6 rs from HL.out).below ht.below |>.el hxj).vals
        skip
        have HC := HH.out x hx wr vs hvs wr (Below.refl _ _)
        have HT : Hid _ := ht
        have HK : Hid _ := hxj
        clear ht hxj
        generalize hfl : (Ev.fl x) = fx at HC HK
        obtain ⟨x0, x1, x2, x3, x4, x5⟩ := x
        obtain ⟨y0, _, rfl, rfl, y1, _, rfl, rfl, y2, _, rfl, rfl, y3, _, rfl, rfl, y4, _, rfl, ⟨a4, c4, rfl, d4⟩, y5, _, rfl, rfl, rfl⟩ := hvs
        generalize (List.map Ag.fl x4).length = m4 at HC hcl
        have q0 : wr.cell? ⟨b, off + j * 6, none⟩ = some _ := hcl 0 _ rfl
        have q1 : wr.cell? ⟨b, off + j * 6 + 1, none⟩ = some _ := hcl 1 _ rfl
        have q2 : wr.cell? ⟨b, off + j * 6 + 2, none⟩ = some _ := hcl 2 _ rfl
        have q3 : wr.cell? ⟨b, off + j * 6 + 3, none⟩ = some _ := hcl 3 _ rfl
        have q4 : wr.cell? ⟨b, off + j * 6 + 4, none⟩ = some _ := hcl 4 _ rfl
        have q5 : wr.cell? ⟨b, off + j * 6 + 5, none⟩ = some _ := hcl 5 _ rfl
        clear hcl d4 hx
        have HF : Hid _ := hfl; clear hfl
        go_wp2_with fail
        refine HC.mono ?_
        rintro e w2 ⟨us, rfl, hl, hh, hb2⟩
        obtain ⟨g4, m4_, hus⟩ := shapeEvent (HF.out ▸ hh)
        subst hus
        have HS : Hid _ := HT.out.step (us := [.int .i64 x0, .int .i64 x1, .int .i64 x2, .int .i64 x3, .slice (some ⟨g4, 0, none⟩) m4_ m4_, .int .i64 x5]) hlt hb2 HK.out rfl hh
        have hcs := (HT.out.call hb2).cells hlt
        obtain ⟨v0, k0⟩ := hcs 0 (by omega)
        have z0 := (HT.out.call hb2).blk.free (j * 6 + 0)
        obtain ⟨v1, k1⟩ := hcs 1 (by omega)
        have z1 := (HT.out.call hb2).blk.free (j * 6 + 1)
        obtain ⟨v2, k2⟩ := hcs 2 (by omega)
        have z2 := (HT.out.call hb2).blk.free (j * 6 + 2)
        obtain ⟨v3, k3⟩ := hcs 3 (by omega)
        have z3 := (HT.out.call hb2).blk.free (j * 6 + 3)
        obtain ⟨v4, k4⟩ := hcs 4 (by omega)
        have z4 := (HT.out.call hb2).blk.free (j * 6 + 4)
        obtain ⟨v5, k5⟩ := hcs 5 (by omega)
        have z5 := (HT.out.call hb2).blk.free (j * 6 + 5)
        clear hcs hh hb2 HC HT HK q0 q1 q2 q3 q4 q5
        simp only [Nat.add_zero, Nat.mul_one] at k0 z0 k1 z1 k2 z2 k3 z3 k4 z4 k5 z5
        go_wp2_with fail
        go_roundw
        case rel => exact ⟨j + 1, by omega, by go_num, ⟨_, _, HS.out⟩⟩
        case measure => simp [intOf]; omega
      · have : j = n := by omega
        subst this
        go_wp2_with fail
        go_ret
        obtain ⟨vs, rest, ht⟩ := ht.out
        exact ⟨_, _, rfl, ht.done Hd.out (by unfold maxLen; omega), ht.below⟩

theorem shapeAction {w : World} {lo hi : Nat} {us : List Value} {x0 : Int} {x1 : Int} {x2 : Int} {x3 : List Ag} {x4 : Int} (h : RecHas w lo hi (Ac.fl ⟨x0, x1, x2, x3, x4⟩) us) :
    ∃ g3 m3, us = [.int .i64 x0, .int .i64 x1, .int .i64 x2, .slice (some ⟨g3, 0, none⟩) m3 m3, .int .i64 x4] := by
  unfold Ac.fl at h
  simp only [RecHas, Fl.Has] at h
  obtain ⟨u0, _, _, rfl, _, _, rfl, u1, _, _, rfl, _, _, rfl, u2, _, _, rfl, _, _, rfl, u3, _, _, rfl, _, _, ⟨g3, _, _, rfl, _⟩, u4, _, _, rfl, _, _, rfl, rfl⟩ := h
  exact ⟨g3, _, rfl⟩

theorem infoActionT : (Try.prog.info? 53).map (fun i => (i.zero, i.size, i.bytes)) = some (some (.agg #[.int .i64 0, .int .i64 0, .int .i64 0, .slice none 0 0, .int .i64 0]), 5, 56) := by kernel_rfl

theorem shapeModule {w : World} {lo hi : Nat} {us : List Value} {x0 : List Int} {x1 : List (List Int)} {x2 : List Va} {x3 : List Pr} (h : RecHas w lo hi (Mo.fl ⟨x0, x1, x2, x3⟩) us) :
    ∃ g0 m0 g1 m1 g2 m2 g3 m3, us = [.slice (some ⟨g0, 0, none⟩) m0 m0, .slice (some ⟨g1, 0, none⟩) m1 m1, .slice (some ⟨g2, 0, none⟩) m2 m2, .slice (some ⟨g3, 0, none⟩) m3 m3] := by
  unfold Mo.fl at h
  simp only [RecHas, Fl.Has] at h
  obtain ⟨u0, _, _, rfl, _, _, ⟨g0, rfl, _⟩, u1, _, _, rfl, _, _, ⟨g1, _, _, rfl, _⟩, u2, _, _, rfl, _, _, ⟨g2, _, _, rfl, _⟩, u3, _, _, rfl, _, _, ⟨g3, _, _, rfl, _⟩, rfl⟩ := h
  exact ⟨g0, _, g1, _, g2, _, g3, _, rfl⟩

theorem iblock_of_owns {w : World} {base g n : Nat} {xs : List Value} (h : w.ownsRow base 3 1 (.slice (some ⟨g, 0, none⟩) n n) n xs) : w.heap[g]? = some (.cells xs.toArray 3 (0, 0)) := by
  rcases h.2 with ⟨h', _⟩ | ⟨g', cap, cur, h', _, hg, _, _, hs, ht⟩
  · simp at h'
  · simp only [Value.slice.injEq, Option.some.injEq, Addr.mk.injEq, and_true, true_and] at h'
    obtain ⟨rfl, rfl⟩ := h'
    rw [List.take_of_length_le (by simp; omega)] at ht
    rw [hg, ← ht]

theorem toIntF (l : List Int) (hl : l.length ≤ 1048576) : ToF 22 (.i l) := by
  rintro w v hv w1 hb
  obtain ⟨a, c, rfl, hr, _⟩ := hv.below hb
  refine (copyI a l.length c l w1 hr hl).mono ?_
  rintro e w' ⟨rfl, ho, _, hb1, hlt⟩
  refine ⟨_, _, rfl, ?_, hb1⟩
  unfold Fl.Has
  exact ⟨_, rfl, Nat.le_refl _, hlt, iblock_of_owns ho.1, ho.2, by unfold maxLen; omega⟩

theorem ToV.on {w w1 : World} {F : Nat} {f : Fl} {v : Value} (h : ToV w F f v) (hb : Below w.heap.size w w1) : ToV w1 F f v :=
  fun w2 hb2 => h w2 (hb.trans (hb2.mono hb.size))

theorem toArgR (x0 : Bool) (x1 : Int)  : ToR 51 2 (Ag.mk x0 x1).fl := by
  intro w vs hv w1 hb
  unfold Ag.fl at hv ⊢
  obtain ⟨y0, _, rfl, rfl, y1, _, rfl, rfl, rfl⟩ := hv
  exact toArg0 x0 x1 w1 

theorem toWordR (x0 : Bool) (x1 : Int) (x2 : Int) (x3 : Int) (x4 : Int) (x5 : Int) (x6 : Int)  : ToR 36 7 (Wo.mk x0 x1 x2 x3 x4 x5 x6).fl := by
  intro w vs hv w1 hb
  unfold Wo.fl at hv ⊢
  obtain ⟨y0, _, rfl, rfl, y1, _, rfl, rfl, y2, _, rfl, rfl, y3, _, rfl, rfl, y4, _, rfl, rfl, y5, _, rfl, rfl, y6, _, rfl, rfl, rfl⟩ := hv
  exact toWord0 x0 x1 x2 x3 x4 x5 x6 w1 

theorem toEventR (x0 : Int) (x1 : Int) (x2 : Int) (x3 : Int) (x4 : List Ag) (x5 : Int) (S4 : ToF 46 (.l 2 (x4.map Ag.fl))) : ToR 35 6 (Ev.mk x0 x1 x2 x3 x4 x5).fl := by
  intro w vs hv w1 hb
  unfold Ev.fl at hv ⊢
  obtain ⟨y0, _, rfl, rfl, y1, _, rfl, rfl, y2, _, rfl, rfl, y3, _, rfl, rfl, y4, _, rfl, h4, y5, _, rfl, rfl, rfl⟩ := hv
  have g4 := (S4 w _ h4).on hb
  obtain ⟨a4, c4, rfl, _⟩ := h4
  exact toEvent0 x0 x1 x2 x3 a4 _ c4 _ x5 w1 g4

theorem toResultR (x0 : Int) (x1 : Int) (x2 : Int) (x3 : Int) (x4 : Int) (x5 : Int) (x6 : List Ev) (x7 : List Wo) (x8 : List Wo) (x9 : List Int) (x10 : List Int) (S6 : ToF 20 (.l 6 (x6.map Ev.fl))) (S7 : ToF 21 (.l 7 (x7.map Wo.fl))) (S8 : ToF 21 (.l 7 (x8.map Wo.fl))) (S9 : ToF 22 (.i x9)) (S10 : ToF 22 (.i x10)) : ToR 6 11 (Rs.mk x0 x1 x2 x3 x4 x5 x6 x7 x8 x9 x10).fl := by
  intro w vs hv w1 hb
  unfold Rs.fl at hv ⊢
  obtain ⟨y0, _, rfl, rfl, y1, _, rfl, rfl, y2, _, rfl, rfl, y3, _, rfl, rfl, y4, _, rfl, rfl, y5, _, rfl, rfl, y6, _, rfl, h6, y7, _, rfl, h7, y8, _, rfl, h8, y9, _, rfl, h9, y10, _, rfl, h10, rfl⟩ := hv
  have g6 := (S6 w _ h6).on hb
  have g7 := (S7 w _ h7).on hb
  have g8 := (S8 w _ h8).on hb
  have g9 := (S9 w _ h9).on hb
  have g10 := (S10 w _ h10).on hb
  obtain ⟨a6, c6, rfl, _⟩ := h6
  obtain ⟨a7, c7, rfl, _⟩ := h7
  obtain ⟨a8, c8, rfl, _⟩ := h8
  obtain ⟨a9, c9, rfl, _⟩ := h9
  obtain ⟨a10, c10, rfl, _⟩ := h10
  exact toResult0 x0 x1 x2 x3 x4 x5 a6 _ c6 _ a7 _ c7 _ a8 _ c8 _ a9 _ c9 _ a10 _ c10 _ w1 g6 g7 g8 g9 g10

theorem rec_le {α : Type} {f : α → List Fl} {l : List α} {x : α} (h : x ∈ l) : recLen (f x) ≤ rowsLen (l.map f) := recLen_le (List.mem_map_of_mem h)

theorem toRs (x : Rs) (h : recLen x.fl ≤ 1048576) : ToR 6 11 x.fl := by
  have e : recLen x.fl = ((x.ev.map Ev.fl).length + rowsLen (x.ev.map Ev.fl)) + ((x.regs.map Wo.fl).length + rowsLen (x.regs.map Wo.fl)) + ((x.words.map Wo.fl).length + rowsLen (x.words.map Wo.fl)) + x.wrote.length + x.read.length := by simp [Rs.fl, recLen, Fl.len] <;> omega
  rw [e] at h
  refine toResultR x.fin x.code x.who x.mod x.low x.steps x.ev x.regs x.words x.wrote x.read (toEventSF _ (by omega) fun q hq => ?_) (toWordSF _ (by omega) fun q _ => toWordR q.t q.n q.l q.h q.a q.p q.s) (toWordSF _ (by omega) fun q _ => toWordR q.t q.n q.l q.h q.a q.p q.s) (toIntF _ (by omega)) (toIntF _ (by omega))
  have := rec_le (f := Ev.fl) hq
  have e2 : recLen q.fl = (q.args.map Ag.fl).length + rowsLen (q.args.map Ag.fl) := by simp [Ev.fl, recLen, Fl.len]
  rw [e2] at this
  exact toEventR q.kind q.fr q.to q.proc q.args q.n (toArgSF _ (by omega) fun z _ => toArgR z.arr z.n)

end Go.Proofs.Ytpkbeeicffoaoaa

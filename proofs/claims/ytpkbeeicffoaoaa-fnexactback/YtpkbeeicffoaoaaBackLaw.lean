/- The law of Back returns true at every argument, and writes nothing that was there. By mkbacklaw.py. -/
import Derived.Test.YtpkbeeicffoaoaaBkImpl
import Derived.Test.YtpkbeeicffoaoaaBkMark
import Derived.Test.YtpkbeeicffoaoaaBkOpen
namespace Go.Proofs.Ytpkbeeicffoaoaa
open Go.RowKit
set_option linter.unusedVariables false
set_option linter.unusedSimpArgs false
set_option maxRecDepth 100000

/-- What was handed in stays, and what the specification told. -/
structure Lz (w : World) (rv : List Value) (vw : Value) (aw : List (Value × Ac)) (lw hw : Nat) (W : World) : Prop where
  y : Below w.heap.size w W
  b : Blk W w.heap.size 26 rv
  s : Sc W lw hw vw aw
theorem Lz.step {w W W' : World} {rv : List Value} {vw : Value} {aw : List (Value × Ac)} {lw hw : Nat} (h : Lz w rv vw aw lw hw W) (hb : Below W.heap.size W W') : Lz w rv vw aw lw hw W' := ⟨h.y.trans (hb.mono h.y.size), blk_below h.b hb, h.s.below hb⟩
theorem Lz.out {w W W' : World} {rv : List Value} {vw : Value} {aw : List (Value × Ac)} {lw hw lo hi : Nat} (h : Lz w rv vw aw lw hw W) (ho : Out lo hi W W') (h1 : w.heap.size < lo) (h2 : hw ≤ lo) : Lz w rv vw aw lw hw W' :=
  ⟨⟨ho.os.trans h.y.os, ho.tape.trans h.y.tape, ho.output.trans h.y.output, Nat.le_trans h.y.size ho.size, fun k hk => (ho.block k (Nat.lt_of_lt_of_le hk h.y.size) (.inl (by omega))).trans (h.y.block k hk)⟩, ho.blk h.b (.inl h1), h.s.keep fun g T _ b ⟨c, hc⟩ _ => ho.block g (Array.getElem?_eq_some_iff.1 hc).1 (.inl (by omega))⟩
theorem Sc.out {W W' : World} {lo hi lg hg : Nat} {v : Value} {l : List (Value × Ac)} (h : Sc W lg hg v l) (ho : Out lo hi W W') (hd : hi ≤ lg) : Sc W' lg hg v l := h.keep fun g T a _ ⟨c, hc⟩ _ => ho.block g (Array.getElem?_eq_some_iff.1 hc).1 (.inr (by omega))
/-- And what the program was given and told. -/
structure Ly (w : World) (rv : List Value) (vw : Value) (aw : List (Value × Ac)) (lw hw : Nat) (x : Rs) (l : List Bool) (gX lo0 hi0 lo1 hi1 lg hg : Nat) (us : List Value) (v1 vg : Value) (ag : List (Value × Ac)) (W : World) : Prop where
  z : Lz w rv vw aw lw hw W
  bx : Blk W gX 35 us
  hx : RecHas W lo0 hi0 x.fl us
  h1 : (Fl.l 1 (tfs l)).Has W lo1 hi1 v1
  sg : Sc W lg hg vg ag
theorem Ly.step {w W W' : World} {rv us : List Value} {vw v1 vg : Value} {aw ag : List (Value × Ac)} {lw hw gX lo0 hi0 lo1 hi1 lg hg : Nat} {x : Rs} {l : List Bool} (h : Ly w rv vw aw lw hw x l gX lo0 hi0 lo1 hi1 lg hg us v1 vg ag W) (hb : Below W.heap.size W W') (h0 : hi0 ≤ W.heap.size) (h1 : hi1 ≤ W.heap.size) : Ly w rv vw aw lw hw x l gX lo0 hi0 lo1 hi1 lg hg us v1 vg ag W' :=
  ⟨h.z.step hb, blk_below h.bx hb, h.hx.stays (Stays.of hb h0), h.h1.stays (Stays.of hb h1), h.sg.below hb⟩
theorem eqAcsB (l : List Ac) : EqF 9 (.l 5 (l.map Ac.fl)) := eqActionSF _ fun q _ => eqActionR q.kind q.to q.proc q.args q.n (eqArgSF _ fun z _ => eqArgR z.arr z.n)
theorem awt_le {B : Nat} : ∀ {l : List (Value × Ac)}, (∀ z ∈ l, z.2.args.length ≤ B) → awt l ≤ l.length * (4 + 2 * B) := by
  intro l
  induction l with
  | nil => intro _; simp [awt]
  | cons z l ih =>
    intro h
    have h1 := h z (by simp)
    have h2 := ih fun y hy => h y (by simp [hy])
    simp only [awt, Ac.wt, List.length_cons, Nat.add_mul]
    omega
theorem backS_args {x : Rs} {l : List Bool} (h : ∀ e ∈ x.ev, e.args.length ≤ 1048576) : ∀ r ∈ backS x l, r.args.length ≤ 1048576 := by
  intro r hr
  unfold backS at hr
  split at hr
  · unfold backA at hr
    rcases List.mem_append.1 hr with hr | hr
    · unfold actsOf at hr
      obtain ⟨e, he, hev⟩ := List.mem_filterMap.1 hr
      have hm := (List.mem_filter.1 he).1
      have hb := h e hm
      unfold evA at hev
      (repeat' split at hev) <;> first | (cases hev; first | exact hb | (simp; done)) | cases hev
    · unfold lastA at hr
      (repeat' split at hr) <;> simp at hr <;> (rw [hr]; simp)
  · simp at hr
theorem backS_len (x : Rs) (l : List Bool) : (backS x l).length ≤ 2000 := by
  unfold backS
  split
  · rename_i h
    unfold backOk at h
    exact (of_decide_eq_true h).2.2
  · simp

set_option maxHeartbeats 16000000 in
theorem back_walk (x : Rs) (vs : List Value) (w : World) (h : RdVals w x.fl vs) (l : List Bool) (v : Value) (hv : (Fl.l 1 (tfs l)).Rd w v) :
    Calls Try.prog 3 #[.agg vs.toArray, v] w fun e w' => e = .returned (.bool true) ∧ Below w.heap.size w w' := by
  have Hh : Hid (RdVals w x.fl vs) := h
  have Hv : Hid ((Fl.l 1 (tfs l)).Rd w v) := hv
  obtain ⟨a, c, rfl, hLw⟩ := hv.list
  rw [tfs_len] at *
  obtain ⟨oa6, oc6, oa7, on7, oc7, oa8, on8, oc8, oa9, on9, oc9, oa10, on10, oc10, rfl, _⟩ := rsShape h
  generalize x.ev.length = on6 at Hh ⊢
  have h9 := hLw.len9
  rw [tfs_len] at h9
  obtain ⟨n, hn⟩ : ∃ z, z = l.length := ⟨_, rfl⟩
  have HN : Hid (l.length = n) := hn.symm
  rw [← hn] at Hv h9 ⊢
  have x0 := Blk.new w 26 [.int .i64 x.fin, .int .i64 x.code, .int .i64 x.who, .int .i64 x.mod, .int .i64 x.low, .int .i64 x.steps, .slice oa6 on6 oc6, .slice oa7 on7 oc7, .slice oa8 on8 oc8, .slice oa9 on9 oc9, .slice oa10 on10 oc10]
  have y0 : Below w.heap.size w (w.alloc (.cells #[.int .i64 x.fin, .int .i64 x.code, .int .i64 x.who, .int .i64 x.mod, .int .i64 x.low, .int .i64 x.steps, .slice oa6 on6 oc6, .slice oa7 on7 oc7, .slice oa8 on8 oc8, .slice oa9 on9 oc9, .slice oa10 on10 oc10] 26 (0, 0))) := (Below.refl _ _).alloc (Nat.le_refl _) _
  simp only [List.toArray] at x0
  clear h hn hv hLw
  go_enter Try.func3, Try.ntmps3
  go_upto_region 1 with fail
  generalize w.alloc (.cells #[.int .i64 x.fin, .int .i64 x.code, .int .i64 x.who, .int .i64 x.mod, .int .i64 x.low, .int .i64 x.steps, .slice oa6 on6 oc6, .slice oa7 on7 oc7, .slice oa8 on8 oc8, .slice oa9 on9 oc9, .slice oa10 on10 oc10] 26 (0, 0)) = w0 at *
  by_cases hbig : n ≤ 1048576
  · have hb1 : ¬ ((n : Int) > 1048576) := by omega
    have k0 := x0.cell (i := 0) rfl
    have k1 := x0.cell (i := 1) rfl
    have k2 := x0.cell (i := 2) rfl
    have k3 := x0.cell (i := 3) rfl
    have k4 := x0.cell (i := 4) rfl
    have k5 := x0.cell (i := 5) rfl
    have k6 := x0.cell (i := 6) rfl
    have k7 := x0.cell (i := 7) rfl
    have k8 := x0.cell (i := 8) rfl
    have k9 := x0.cell (i := 9) rfl
    have k10 := x0.cell (i := 10) rfl
    have H1 := szRs x w [.int .i64 x.fin, .int .i64 x.code, .int .i64 x.who, .int .i64 x.mod, .int .i64 x.low, .int .i64 x.steps, .slice oa6 on6 oc6, .slice oa7 on7 oc7, .slice oa8 on8 oc8, .slice oa9 on9 oc9, .slice oa10 on10 oc10] Hh.out w0 1048576 y0 (by omega) (by omega)
    simp only [List.toArray] at H1
    generalize hNN : recLen x.fl = Nn at H1
    by_cases hs : (Nn : Int) ≤ 1048576
    · rw [szL_yes hs] at H1
      have hneg : ¬ ((1048576 : Int) - (Nn : Int) < 0) := by omega
      have hsz : Hid (recLen x.fl ≤ 1048576) := by show _ ≤ _; omega
      have HAG : Hid (∀ e ∈ x.ev, e.args.length ≤ 1048576) := fun e he => by
        have h0 := hsz.out
        have e1 : recLen x.fl = ((x.ev.map Ev.fl).length + rowsLen (x.ev.map Ev.fl)) + ((x.regs.map Wo.fl).length + rowsLen (x.regs.map Wo.fl)) + ((x.words.map Wo.fl).length + rowsLen (x.words.map Wo.fl)) + x.wrote.length + x.read.length := by simp [Rs.fl, recLen, Fl.len] <;> omega
        have := rec_le (f := Ev.fl) he
        have e2 : recLen e.fl = (e.args.map Ag.fl).length + rowsLen (e.args.map Ag.fl) := by simp [Ev.fl, recLen, Fl.len]
        rw [e2, List.length_map] at this
        omega
      clear hNN
      have TO : Hid (∀ (W : World), Below w.heap.size w W → Calls Try.prog 6 #[.agg #[.int .i64 x.fin, .int .i64 x.code, .int .i64 x.who, .int .i64 x.mod, .int .i64 x.low, .int .i64 x.steps, .slice oa6 on6 oc6, .slice oa7 on7 oc7, .slice oa8 on8 oc8, .slice oa9 on9 oc9, .slice oa10 on10 oc10]] W fun e w' => ∃ us, e = .returned (.agg (List.toArray us)) ∧ us.length = 11 ∧ RecHas w' W.heap.size w'.heap.size x.fl us ∧ Below W.heap.size W w') := fun W hb => toRs x hsz.out w [.int .i64 x.fin, .int .i64 x.code, .int .i64 x.who, .int .i64 x.mod, .int .i64 x.low, .int .i64 x.steps, .slice oa6 on6 oc6, .slice oa7 on7 oc7, .slice oa8 on8 oc8, .slice oa9 on9 oc9, .slice oa10 on10 oc10] Hh.out W hb
      have TB : Hid (∀ (W : World), Below w.heap.size w W → Calls Try.prog 7 #[.slice a n c] W fun e w' => ∃ g, e = .returned (.slice (some ⟨g, 0, none⟩) n n) ∧ (Fl.l 1 (tfs l)).Has w' W.heap.size w'.heap.size (.slice (some ⟨g, 0, none⟩) n n) ∧ Below W.heap.size W w') := by
        intro W hb
        refine (toBools l (by rw [HN.out]; exact hbig) w _ Hv.out W hb).mono ?_
        rintro e w' ⟨g, m, rfl, hh, hb'⟩
        have hq := hh
        unfold Fl.Has at hq
        obtain ⟨g', _, _, e, _⟩ := hq
        have hm : m = n := by
          simp only [Value.slice.injEq, Option.some.injEq, Addr.mk.injEq, and_true, tfs_len, HN.out] at e
          exact e.2.1
        subst hm
        exact ⟨g, rfl, hh, hb'⟩
      have SP : Hid (∀ (us : List Value) (g : Nat) (lo hi : Nat) (W : World), RdVals W x.fl us → (Fl.l 1 (tfs l)).Has W lo hi (.slice (some ⟨g, 0, none⟩) n n) → Calls Try.prog 5 #[.agg us.toArray, .slice (some ⟨g, 0, none⟩) n n] W (BkFin x l W)) := by
        intro us g lo hi W hr hh
        obtain ⟨a', c', e, hl⟩ := hh.rd.list
        simp only [Value.slice.injEq] at e
        rw [← e.1, ← e.2.2] at hl
        exact specBack x l us _ n n W hr hl HN.out hsz.out hbig
      have IM : Hid (∀ (us : List Value) (g : Nat) (lo hi : Nat) (W : World), RdVals W x.fl us → (Fl.l 1 (tfs l)).Has W lo hi (.slice (some ⟨g, 0, none⟩) n n) → Calls Try.prog 8 #[.agg us.toArray, .slice (some ⟨g, 0, none⟩) n n] W (BkFin x l W)) := by
        intro us g lo hi W hr hh
        obtain ⟨a', c', e, hl⟩ := hh.rd.list
        simp only [Value.slice.injEq] at e
        rw [← e.1, ← e.2.2] at hl
        exact implBack x l us _ n n W hr hl HN.out hsz.out hbig
      have EA : Hid (EqF 9 (.l 5 ((backS x l).map Ac.fl))) := eqAcsB _
      have ER : Hid (EqR 10 x.fl) := eqRs x hsz.out
      have EB : Hid (EqF 11 (.l 1 (tfs l))) := eqBools l
      go_wp2_with fail
      refine H1.mono ?_
      rintro e w1 ⟨rfl, b1⟩
      have y1 : Below w.heap.size w w1 := y0.trans (b1.mono y0.size)
      have x1 := blk_below x0 b1
      clear H1 k0 k1 k2 k3 k4 k5 k6 k7 k8 k9 k10 x0 y0 b1
      have k0 := x1.cell (i := 0) rfl
      have k1 := x1.cell (i := 1) rfl
      have k2 := x1.cell (i := 2) rfl
      have k3 := x1.cell (i := 3) rfl
      have k4 := x1.cell (i := 4) rfl
      have k5 := x1.cell (i := 5) rfl
      have k6 := x1.cell (i := 6) rfl
      have k7 := x1.cell (i := 7) rfl
      have k8 := x1.cell (i := 8) rfl
      have k9 := x1.cell (i := 9) rfl
      have k10 := x1.cell (i := 10) rfl
      -- the specification
      have HC := TO.out w1 y1
      go_wp2_with fail
      refine HC.mono ?_
      rintro e w2 ⟨us, rfl, hl11, hhm, bm⟩
      obtain ⟨ma6, mc6, ma7, mn7, mc7, ma8, mn8, mc8, ma9, mn9, mc9, ma10, mn10, mc10, rfl, lrm⟩ := rsShape hhm.vals
      clear hl11 lrm HC
      generalize x.ev.length = mn6 at hhm ⊢
      have y2 : Below w.heap.size w w2 := y1.trans (bm.mono y1.size)
      have x2 := blk_below x1 bm
      have HC := TB.out w2 y2
      clear k0 k1 k2 k3 k4 k5 k6 k7 k8 k9 k10
      go_wp2_with fail
      refine HC.mono ?_
      rintro e w3 ⟨g3, rfl, hh3, b3⟩
      have y3 : Below w.heap.size w w3 := y2.trans (b3.mono y2.size)
      have x3 := blk_below x2 b3
      clear HC
      have HC := SP.out [.int .i64 x.fin, .int .i64 x.code, .int .i64 x.who, .int .i64 x.mod, .int .i64 x.low, .int .i64 x.steps, .slice ma6 mn6 mc6, .slice ma7 mn7 mc7, .slice ma8 mn8 mc8, .slice ma9 mn9 mc9, .slice ma10 mn10 mc10] g3 _ _ w3 ((RecHas.vals hhm).below b3) hh3
      simp only [List.toArray] at HC
      go_wp2_with fail
      refine HC.mono ?_
      rintro e w4 ⟨b4, vw, aw, rfl, haw, hsw⟩
      have Z4 : Lz w [.int .i64 x.fin, .int .i64 x.code, .int .i64 x.who, .int .i64 x.mod, .int .i64 x.low, .int .i64 x.steps, .slice oa6 on6 oc6, .slice oa7 on7 oc7, .slice oa8 on8 oc8, .slice oa9 on9 oc9, .slice oa10 on10 oc10] vw aw w3.heap.size w4.heap.size w4 := ⟨y3.trans (b4.mono y3.size), blk_below x3 b4, hsw⟩
      have HAW : Hid (aw.map (fun z => z.2) = backS x l) := haw
      obtain ⟨awa, awc, hvw, _⟩ := owns_shape hsw.row.own
      obtain ⟨nw, hnw⟩ : ∃ z, z = aw.length := ⟨_, rfl⟩
      rw [← hnw] at hvw
      clear hnw
      subst hvw
      have q23 : w.heap.size < w3.heap.size := Nat.lt_of_lt_of_le x1.lt (Nat.le_trans bm.size b3.size)
      have q34 := b4.size
      clear HC hhm bm x1 x2 x3 y1 y2 y3 hh3 b3 hsw haw b4
      generalize w3.heap.size = lw at *
      have x4 := Z4.b
      have k0 := x4.cell (i := 0) rfl
      have k1 := x4.cell (i := 1) rfl
      have k2 := x4.cell (i := 2) rfl
      have k3 := x4.cell (i := 3) rfl
      have k4 := x4.cell (i := 4) rfl
      have k5 := x4.cell (i := 5) rfl
      have k6 := x4.cell (i := 6) rfl
      have k7 := x4.cell (i := 7) rfl
      have k8 := x4.cell (i := 8) rfl
      have k9 := x4.cell (i := 9) rfl
      have k10 := x4.cell (i := 10) rfl
      -- the program
      have HC := TO.out w4 Z4.y
      go_wp2_with fail
      refine HC.mono ?_
      rintro e w5 ⟨us, rfl, hl11, hhu, bu⟩
      obtain ⟨ua6, uc6, ua7, un7, uc7, ua8, un8, uc8, ua9, un9, uc9, ua10, un10, uc10, rfl, lru⟩ := rsShape hhu.vals
      clear hl11 lru HC
      generalize x.ev.length = un6 at hhu ⊢
      have xX := Blk.new w5 35 [.int .i64 x.fin, .int .i64 x.code, .int .i64 x.who, .int .i64 x.mod, .int .i64 x.low, .int .i64 x.steps, .slice ua6 un6 uc6, .slice ua7 un7 uc7, .slice ua8 un8 uc8, .slice ua9 un9 uc9, .slice ua10 un10 uc10]
      have bX : Below w5.heap.size w5 (w5.alloc (.cells #[.int .i64 x.fin, .int .i64 x.code, .int .i64 x.who, .int .i64 x.mod, .int .i64 x.low, .int .i64 x.steps, .slice ua6 un6 uc6, .slice ua7 un7 uc7, .slice ua8 un8 uc8, .slice ua9 un9 uc9, .slice ua10 un10 uc10] 35 (0, 0))) := (Below.refl _ _).alloc (Nat.le_refl _) _
      have Z6 := (Z4.step bu).step bX
      have hx6 := hhu.stays (Stays.of bX (Nat.le_refl _))
      have s6 : (w5.alloc (.cells #[.int .i64 x.fin, .int .i64 x.code, .int .i64 x.who, .int .i64 x.mod, .int .i64 x.low, .int .i64 x.steps, .slice ua6 un6 uc6, .slice ua7 un7 uc7, .slice ua8 un8 uc8, .slice ua9 un9 uc9, .slice ua10 un10 uc10] 35 (0, 0))).heap.size = w5.heap.size + 1 := by simp
      have q45 := bu.size
      simp only [List.toArray] at xX
      clear k0 k1 k2 k3 k4 k5 k6 k7 k8 k9 k10 Z4 bu hhu x4 bX
      go_upto_region 9 with fail
      generalize w5.alloc (.cells #[.int .i64 x.fin, .int .i64 x.code, .int .i64 x.who, .int .i64 x.mod, .int .i64 x.low, .int .i64 x.steps, .slice ua6 un6 uc6, .slice ua7 un7 uc7, .slice ua8 un8 uc8, .slice ua9 un9 uc9, .slice ua10 un10 uc10] 35 (0, 0)) = w6 at *
      have q56 : w5.heap.size + 1 ≤ w6.heap.size ∧ w6.heap.size ≤ w5.heap.size + 1 := by omega
      clear s6
      generalize w5.heap.size = gX at *
      generalize w4.heap.size = hw at *
      have HC := TB.out w6 Z6.y
      go_wp2_with fail
      refine HC.mono ?_
      rintro e w7 ⟨g7, rfl, hh7, b7⟩
      have Z7 := Z6.step b7
      have xX7 := blk_below xX b7
      have hx7 := hx6.stays (Stays.of b7 (by omega))
      have q67 := b7.size
      clear HC Z6 xX hx6 b7
      have k0 := xX7.cell (i := 0) rfl
      have k1 := xX7.cell (i := 1) rfl
      have k2 := xX7.cell (i := 2) rfl
      have k3 := xX7.cell (i := 3) rfl
      have k4 := xX7.cell (i := 4) rfl
      have k5 := xX7.cell (i := 5) rfl
      have k6 := xX7.cell (i := 6) rfl
      have k7 := xX7.cell (i := 7) rfl
      have k8 := xX7.cell (i := 8) rfl
      have k9 := xX7.cell (i := 9) rfl
      have k10 := xX7.cell (i := 10) rfl
      have HC := IM.out [.int .i64 x.fin, .int .i64 x.code, .int .i64 x.who, .int .i64 x.mod, .int .i64 x.low, .int .i64 x.steps, .slice ua6 un6 uc6, .slice ua7 un7 uc7, .slice ua8 un8 uc8, .slice ua9 un9 uc9, .slice ua10 un10 uc10] g7 _ _ w7 hx7.vals hh7
      simp only [List.toArray] at HC
      go_wp2_with fail
      refine HC.mono ?_
      rintro e w8 ⟨b8, vg, ag, rfl, hag, hsg⟩
      have Y8 : Ly w [.int .i64 x.fin, .int .i64 x.code, .int .i64 x.who, .int .i64 x.mod, .int .i64 x.low, .int .i64 x.steps, .slice oa6 on6 oc6, .slice oa7 on7 oc7, .slice oa8 on8 oc8, .slice oa9 on9 oc9, .slice oa10 on10 oc10] (.slice awa nw awc) aw lw hw x l gX hw gX w6.heap.size w7.heap.size w7.heap.size w8.heap.size [.int .i64 x.fin, .int .i64 x.code, .int .i64 x.who, .int .i64 x.mod, .int .i64 x.low, .int .i64 x.steps, .slice ua6 un6 uc6, .slice ua7 un7 uc7, .slice ua8 un8 uc8, .slice ua9 un9 uc9, .slice ua10 un10 uc10] (.slice (some ⟨g7, 0, none⟩) n n) vg ag w8 := ⟨Z7.step b8, blk_below xX7 b8, hx7.stays (Stays.of b8 (by omega)), hh7.stays (Stays.of b8 (Nat.le_refl _)), hsg⟩
      have HAA : Hid (ag.map (fun z => z.2) = backS x l) := hag
      have q78 := b8.size
      obtain ⟨aga, agc, hvg, _⟩ := owns_shape hsg.row.own
      obtain ⟨ng, hng⟩ : ∃ z, z = ag.length := ⟨_, rfl⟩
      have HNG : Hid (ag.length = ng) := hng.symm
      rw [← hng] at hvg
      clear hng
      subst hvg
      clear HC k0 k1 k2 k3 k4 k5 k6 k7 k8 k9 k10 Z7 xX7 hx7 hh7 b8 hsg hag
      generalize w6.heap.size = lo1 at *
      generalize w7.heap.size = hi1 at *
      obtain ⟨hg, hhg⟩ : ∃ z, z = w8.heap.size := ⟨_, rfl⟩
      rw [← hhg] at Y8 q78
      have qg : hg ≤ w8.heap.size := by omega
      clear hhg
      have HOK : Hid (∀ b : Bool, (b != b) = false) := by intro b; cases b <;> rfl
      obtain ⟨ok, hokE⟩ : ∃ z, z = backOk x l := ⟨_, rfl⟩
      have HOKE : Hid (backOk x l = ok) := hokE.symm
      rw [← hokE]
      have hok := HOK.out ok
      clear hokE
      have RA : Hid (∀ {W : World} {lo hi : Nat} {v : Value} {ac : List (Value × Ac)}, ac.map (fun z => z.2) = backS x l → Sc W lo hi v ac → (Fl.l 5 ((backS x l).map Ac.fl)).Rd W v) := fun he hs => by rw [← he]; exact hs.rd
      have HC := EA.out w8 _ _ (RA.out HAA.out Y8.sg) (RA.out HAW.out Y8.z.s) w8 (Below.refl _ _)
      go_wp2_with fail
      refine HC.mono ?_
      rintro e w9 ⟨rfl, b9⟩
      have Y9 := Y8.step b9 (by omega) (by omega)
      have qg9 := Nat.le_trans qg b9.size
      clear HC Y8 b9 qg
      go_wp2_with fail
      -- what was handed over is as it was
      have yd : Below w9.heap.size w9 w9.drew := (Below.refl _ _).drew
      have Yd := Y9.step yd (by omega) (by omega)
      have HSB : Hid (∀ W : World, Ly w [.int .i64 x.fin, .int .i64 x.code, .int .i64 x.who, .int .i64 x.mod, .int .i64 x.low, .int .i64 x.steps, .slice oa6 on6 oc6, .slice oa7 on7 oc7, .slice oa8 on8 oc8, .slice oa9 on9 oc9, .slice oa10 on10 oc10] (.slice awa nw awc) aw lw hw x l gX hw gX lo1 hi1 hi1 hg [.int .i64 x.fin, .int .i64 x.code, .int .i64 x.who, .int .i64 x.mod, .int .i64 x.low, .int .i64 x.steps, .slice ua6 un6 uc6, .slice ua7 un7 uc7, .slice ua8 un8 uc8, .slice ua9 un9 uc9, .slice ua10 un10 uc10] (.slice (some ⟨g7, 0, none⟩) n n) (.slice aga ng agc) ag W → (W.cell? ⟨gX, 0, none⟩ = some (.int .i64 x.fin) ∧ W.cell? ⟨gX, 1, none⟩ = some (.int .i64 x.code) ∧ W.cell? ⟨gX, 2, none⟩ = some (.int .i64 x.who) ∧ W.cell? ⟨gX, 3, none⟩ = some (.int .i64 x.mod) ∧ W.cell? ⟨gX, 4, none⟩ = some (.int .i64 x.low) ∧ W.cell? ⟨gX, 5, none⟩ = some (.int .i64 x.steps) ∧ W.cell? ⟨gX, 6, none⟩ = some (.slice ua6 un6 uc6) ∧ W.cell? ⟨gX, 7, none⟩ = some (.slice ua7 un7 uc7) ∧ W.cell? ⟨gX, 8, none⟩ = some (.slice ua8 un8 uc8) ∧ W.cell? ⟨gX, 9, none⟩ = some (.slice ua9 un9 uc9) ∧ W.cell? ⟨gX, 10, none⟩ = some (.slice ua10 un10 uc10)) ∧ (W.cell? ⟨w.heap.size, 0, none⟩ = some (.int .i64 x.fin) ∧ W.cell? ⟨w.heap.size, 1, none⟩ = some (.int .i64 x.code) ∧ W.cell? ⟨w.heap.size, 2, none⟩ = some (.int .i64 x.who) ∧ W.cell? ⟨w.heap.size, 3, none⟩ = some (.int .i64 x.mod) ∧ W.cell? ⟨w.heap.size, 4, none⟩ = some (.int .i64 x.low) ∧ W.cell? ⟨w.heap.size, 5, none⟩ = some (.int .i64 x.steps) ∧ W.cell? ⟨w.heap.size, 6, none⟩ = some (.slice oa6 on6 oc6) ∧ W.cell? ⟨w.heap.size, 7, none⟩ = some (.slice oa7 on7 oc7) ∧ W.cell? ⟨w.heap.size, 8, none⟩ = some (.slice oa8 on8 oc8) ∧ W.cell? ⟨w.heap.size, 9, none⟩ = some (.slice oa9 on9 oc9) ∧ W.cell? ⟨w.heap.size, 10, none⟩ = some (.slice oa10 on10 oc10))) := fun W hY => ⟨⟨hY.bx.cell (i := 0) rfl, hY.bx.cell (i := 1) rfl, hY.bx.cell (i := 2) rfl, hY.bx.cell (i := 3) rfl, hY.bx.cell (i := 4) rfl, hY.bx.cell (i := 5) rfl, hY.bx.cell (i := 6) rfl, hY.bx.cell (i := 7) rfl, hY.bx.cell (i := 8) rfl, hY.bx.cell (i := 9) rfl, hY.bx.cell (i := 10) rfl⟩, ⟨hY.z.b.cell (i := 0) rfl, hY.z.b.cell (i := 1) rfl, hY.z.b.cell (i := 2) rfl, hY.z.b.cell (i := 3) rfl, hY.z.b.cell (i := 4) rfl, hY.z.b.cell (i := 5) rfl, hY.z.b.cell (i := 6) rfl, hY.z.b.cell (i := 7) rfl, hY.z.b.cell (i := 8) rfl, hY.z.b.cell (i := 9) rfl, hY.z.b.cell (i := 10) rfl⟩⟩
      have hS0 := HSB.out _ Yd
      refine wp_region_held_drew (S := fun W => (W.cell? ⟨gX, 0, none⟩ = some (.int .i64 x.fin) ∧ W.cell? ⟨gX, 1, none⟩ = some (.int .i64 x.code) ∧ W.cell? ⟨gX, 2, none⟩ = some (.int .i64 x.who) ∧ W.cell? ⟨gX, 3, none⟩ = some (.int .i64 x.mod) ∧ W.cell? ⟨gX, 4, none⟩ = some (.int .i64 x.low) ∧ W.cell? ⟨gX, 5, none⟩ = some (.int .i64 x.steps) ∧ W.cell? ⟨gX, 6, none⟩ = some (.slice ua6 un6 uc6) ∧ W.cell? ⟨gX, 7, none⟩ = some (.slice ua7 un7 uc7) ∧ W.cell? ⟨gX, 8, none⟩ = some (.slice ua8 un8 uc8) ∧ W.cell? ⟨gX, 9, none⟩ = some (.slice ua9 un9 uc9) ∧ W.cell? ⟨gX, 10, none⟩ = some (.slice ua10 un10 uc10)) ∧ (W.cell? ⟨w.heap.size, 0, none⟩ = some (.int .i64 x.fin) ∧ W.cell? ⟨w.heap.size, 1, none⟩ = some (.int .i64 x.code) ∧ W.cell? ⟨w.heap.size, 2, none⟩ = some (.int .i64 x.who) ∧ W.cell? ⟨w.heap.size, 3, none⟩ = some (.int .i64 x.mod) ∧ W.cell? ⟨w.heap.size, 4, none⟩ = some (.int .i64 x.low) ∧ W.cell? ⟨w.heap.size, 5, none⟩ = some (.int .i64 x.steps) ∧ W.cell? ⟨w.heap.size, 6, none⟩ = some (.slice oa6 on6 oc6) ∧ W.cell? ⟨w.heap.size, 7, none⟩ = some (.slice oa7 on7 oc7) ∧ W.cell? ⟨w.heap.size, 8, none⟩ = some (.slice oa8 on8 oc8) ∧ W.cell? ⟨w.heap.size, 9, none⟩ = some (.slice oa9 on9 oc9) ∧ W.cell? ⟨w.heap.size, 10, none⟩ = some (.slice oa10 on10 oc10))) (by kernel_rfl) hS0 (fun hHeld => ?_)
      refine wpAnyH_take (i := 0) (v := ?v501) rfl (by kernel_rfl) (by kernel_rfl) (by kernel_rfl) (fun _ _ _ h => h) (.inl ⟨by rfl, ?y501⟩) hHeld ?_
      case y501 => intro w hSw; (try dsimp only at hSw); go_simp; first | done | rfl
      refine wpAnyH_take (i := 1) (v := ?v502) rfl (by kernel_rfl) (by kernel_rfl) (by kernel_rfl) (fun _ _ _ h => h) (.inl ⟨by rfl, ?y502⟩) hHeld ?_
      case y502 => intro w hSw; (try dsimp only at hSw); go_simp; first | done | rfl
      try simp only [Act.put, List.getElem_toArray, List.getElem_cons_zero, List.getElem_cons_succ, List.setIfInBounds_toArray, List.set_cons_zero, List.set_cons_succ]
      have HC := TO.out w9.drew Yd.z.y
      refine wpAnyH_ready (rs := [2]) (by kernel_rfl) (by simp) ?_
      refine AllReadyH.cons (i := 2) (o := ?o503) ?i503 (fun K hK => ?_) AllReadyH.nil
      case i503 => exact rfl
      go_simp
      (with_reducible refine HC.mono ?_)
      rintro e wa ⟨us, rfl, hl11, hht, bt⟩
      obtain ⟨ta6, tc6, ta7, tn7, tc7, ta8, tn8, tc8, ta9, tn9, tc9, ta10, tn10, tc10, rfl, lrt⟩ := rsShape hht.vals
      clear hl11 lrt
      generalize x.ev.length = tn6 at hht ⊢
      have Ya := Yd.step bt (show gX ≤ w9.heap.size by omega) (show hi1 ≤ w9.heap.size by omega)
      have hSa := HSB.out _ Ya
      have qga := Nat.le_trans qg9 (show w9.heap.size ≤ wa.heap.size from bt.size)
      clear HC
      go_wp2_with fail
      refine hK.out _ _ (hSa) (fun hHeld => ?_)
      clear hK K
      try simp only [Act.put, List.getElem_toArray, List.getElem_cons_zero, List.getElem_cons_succ, List.setIfInBounds_toArray, List.set_cons_zero, List.set_cons_succ]
      have HC := ER.out wa [.int .i64 x.fin, .int .i64 x.code, .int .i64 x.who, .int .i64 x.mod, .int .i64 x.low, .int .i64 x.steps, .slice ua6 un6 uc6, .slice ua7 un7 uc7, .slice ua8 un8 uc8, .slice ua9 un9 uc9, .slice ua10 un10 uc10] [.int .i64 x.fin, .int .i64 x.code, .int .i64 x.who, .int .i64 x.mod, .int .i64 x.low, .int .i64 x.steps, .slice ta6 tn6 tc6, .slice ta7 tn7 tc7, .slice ta8 tn8 tc8, .slice ta9 tn9 tc9, .slice ta10 tn10 tc10] Ya.hx.vals hht.vals wa (Below.refl _ _)
      simp only [List.toArray] at HC
      refine wpAnyH_ready (rs := [3]) (by kernel_rfl) (by simp) ?_
      refine AllReadyH.cons (i := 3) (o := ?o504) ?i504 (fun K hK => ?_) AllReadyH.nil
      case i504 => exact rfl
      go_simp
      (with_reducible refine HC.mono ?_)
      rintro e wb ⟨rfl, bb⟩
      have Yb := Ya.step bb (by omega) (by omega)
      have hSb := HSB.out _ Yb
      have qgb := Nat.le_trans qga bb.size
      clear HC
      go_wp2_with fail
      refine hK.out _ _ (hSb) (fun hHeld => ?_)
      clear hK K
      try simp only [Act.put, List.getElem_toArray, List.getElem_cons_zero, List.getElem_cons_succ, List.setIfInBounds_toArray, List.set_cons_zero, List.set_cons_succ]
      refine wpAnyH_take (i := 4) (v := ?v505) rfl (by kernel_rfl) (by kernel_rfl) (by kernel_rfl) (fun _ _ _ h => h) (.inl ⟨by rfl, ?y505⟩) hHeld ?_
      case y505 => intro w hSw; (try dsimp only at hSw); go_simp; first | done | rfl
      try simp only [Act.put, List.getElem_toArray, List.getElem_cons_zero, List.getElem_cons_succ, List.setIfInBounds_toArray, List.set_cons_zero, List.set_cons_succ]
      refine wpAnyH_done (by kernel_rfl) ?_ _
      clear hHeld hSa hSb hS0 Ya Yd Y9 hht bt bb yd qga qg9 HSB
      have HC := TB.out wb Yb.z.y
      go_wp2_with fail
      refine HC.mono ?_
      rintro e wc ⟨gc, rfl, hhc, bc⟩
      have Yc := Yb.step bc (by omega) (by omega)
      have qgc := Nat.le_trans qgb bc.size
      clear HC
      have HC := EB.out wc _ _ Yc.h1.rd hhc.rd wc (Below.refl _ _)
      go_wp2_with fail
      refine HC.mono ?_
      rintro e wd ⟨rfl, bd⟩
      have Yd := Yc.step bd (by omega) (by omega)
      have qgd := Nat.le_trans qgc bd.size
      clear HC Yb Yc hhc bc bd qgb qgc
      -- marks over what was handed over
      have HC := mkResult x wd hw gX [.int .i64 x.fin, .int .i64 x.code, .int .i64 x.who, .int .i64 x.mod, .int .i64 x.low, .int .i64 x.steps, .slice ua6 un6 uc6, .slice ua7 un7 uc7, .slice ua8 un8 uc8, .slice ua9 un9 uc9, .slice ua10 un10 uc10] 1 Yd.hx (by omega) (by omega) (by have := hsz.out; omega)
      simp only [List.toArray] at HC
      have xd := Yd.bx
      have k0 := xd.cell (i := 0) rfl
      have k1 := xd.cell (i := 1) rfl
      have k2 := xd.cell (i := 2) rfl
      have k3 := xd.cell (i := 3) rfl
      have k4 := xd.cell (i := 4) rfl
      have k5 := xd.cell (i := 5) rfl
      have k6 := xd.cell (i := 6) rfl
      have k7 := xd.cell (i := 7) rfl
      have k8 := xd.cell (i := 8) rfl
      have k9 := xd.cell (i := 9) rfl
      have k10 := xd.cell (i := 10) rfl
      go_wp2_with fail
      refine HC.mono ?_
      rintro e we ⟨⟨ke, rfl, hke1, hke2⟩, oe⟩
      have Ze := Yd.z.out oe (by omega) (Nat.le_refl _)
      have h1e := Yd.h1.stays (oe.stays (by omega) (.inr (by omega)))
      have sge := Yd.sg.out oe (by omega)
      have qge := Nat.le_trans qgd oe.size
      clear HC Yd oe xd k0 k1 k2 k3 k4 k5 k6 k7 k8 k9 k10 qgd
      have HC := mkBools l we lo1 hi1 _ ke h1e (by omega) (by omega) (by simp only [Fl.len, rowsLen_tfs, tfs_len, HN.out]; have := hsz.out; omega)
      go_wp2_with fail
      refine HC.mono ?_
      rintro e wf ⟨⟨kf, rfl, hkf1, hkf2⟩, of⟩
      have Zf := Ze.out of (by omega) (by omega)
      have sgf := sge.out of (Nat.le_refl _)
      have qgf := Nat.le_trans qge of.size
      have hkf : ¬ (kf < 0) := by omega
      clear HC Ze h1e sge of qge hkf2
      have HC := EA.out wf _ _ (RA.out HAA.out sgf) (RA.out HAW.out Zf.s) wf (Below.refl _ _)
      go_wp2_with fail
      refine HC.mono ?_
      rintro e wg ⟨rfl, bg⟩
      have Zg := Zf.step bg
      have sgg := sgf.below bg
      have qgg := Nat.le_trans qgf bg.size
      clear HC Zf sgf bg qgf
      have hwt : 1 + awt ag ≤ 10000000000000 := by
        have h1 := awt_le (B := 1048576) (l := ag) (fun z hz => backS_args HAG.out z.2 (by rw [← HAA.out]; exact List.mem_map_of_mem hz))
        have h2 : ag.length ≤ 2000 := by have := backS_len x l; rw [← HAA.out, List.length_map] at this; exact this
        have h3 := Nat.mul_le_mul_right (4 + 2 * 1048576) h2
        omega
      have hgl : ag.length ≤ 1048576 := by have := backS_len x l; rw [← HAA.out, List.length_map] at this; omega
      have HC := markAc hi1 hg _ ag 1 wg sgg (by omega) hwt hgl
      go_wp2_with fail
      refine HC.mono ?_
      rintro e wh ⟨rfl, mk⟩
      have Zh := Zg.out mk.out (by omega) (by omega)
      have sgh := mk.sc
      have qgh := Nat.le_trans qgg mk.out.size
      clear HC Zg sgg mk qgg
      have hq1 : ¬ (((1 + awt ag : Nat) : Int) < 0) := by omega
      have hq2 : (((1 + awt ag : Nat) : Int) != ((1 + awt ag : Nat) : Int)) = false := by simp
      have HC := heldAc hi1 hg _ ag 1 wh sgh (by omega) hwt hgl
      have HC9 : Hid (∀ W : World, Sc W hi1 hg (.slice aga ng agc) (mkA 1 ag) → Calls Try.prog 15 #[.slice aga ng agc, .int .i64 1] W fun e w' => e = .returned (.int .i64 ((1 + awt ag : Nat) : Int)) ∧ w' = W) := fun W hs => heldAc hi1 hg _ ag 1 W hs (by omega) hwt hgl
      generalize ((1 + awt ag : Nat) : Int) = kz at *
      go_wp2_with fail
      refine HC.mono ?_
      rintro e wh ⟨rfl, rfl⟩
      clear HC hwt
      have xh := Zh.b
      have k0 := xh.cell (i := 0) rfl
      have k1 := xh.cell (i := 1) rfl
      have k2 := xh.cell (i := 2) rfl
      have k3 := xh.cell (i := 3) rfl
      have k4 := xh.cell (i := 4) rfl
      have k5 := xh.cell (i := 5) rfl
      have k6 := xh.cell (i := 6) rfl
      have k7 := xh.cell (i := 7) rfl
      have k8 := xh.cell (i := 8) rfl
      have k9 := xh.cell (i := 9) rfl
      have k10 := xh.cell (i := 10) rfl
      -- once more
      have HC := TO.out wh Zh.y
      go_wp2_with fail
      refine HC.mono ?_
      rintro e wi ⟨us, rfl, hl11, hhr, br⟩
      obtain ⟨ra6, rc6, ra7, rn7, rc7, ra8, rn8, rc8, ra9, rn9, rc9, ra10, rn10, rc10, rfl, lrr⟩ := rsShape hhr.vals
      clear hl11 lrr HC
      generalize x.ev.length = rn6 at hhr ⊢
      have Zi := Zh.step br
      have sgi := sgh.below br
      have hhri := hhr
      clear k0 k1 k2 k3 k4 k5 k6 k7 k8 k9 k10 xh Zh sgh
      have HC := TB.out wi Zi.y
      go_wp2_with fail
      refine HC.mono ?_
      rintro e wj ⟨gj, rfl, hhj, bj⟩
      have Zj := Zi.step bj
      have sgj := sgi.below bj
      clear HC
      have HC := IM.out [.int .i64 x.fin, .int .i64 x.code, .int .i64 x.who, .int .i64 x.mod, .int .i64 x.low, .int .i64 x.steps, .slice ra6 rn6 rc6, .slice ra7 rn7 rc7, .slice ra8 rn8 rc8, .slice ra9 rn9 rc9, .slice ra10 rn10 rc10] gj _ _ wj ((RecHas.vals hhr).below bj) hhj
      simp only [List.toArray] at HC
      go_wp2_with fail
      refine HC.mono ?_
      rintro e wk ⟨bk, vh, ah, rfl, hah, hsh⟩
      rw [HOKE.out]
      have Zk := Zj.step bk
      have sgk := sgj.below bk
      obtain ⟨aha, ahc, hvh, _⟩ := owns_shape hsh.row.own
      obtain ⟨nh, hnh⟩ : ∃ z, z = ah.length := ⟨_, rfl⟩
      rw [← hnh] at hvh
      clear hnh
      subst hvh
      clear HC Zi Zj sgi sgj hhr hhri hhj bj bk br
      have HC := EA.out wk _ _ (RA.out hah hsh) (RA.out HAW.out Zk.s) wk (Below.refl _ _)
      go_wp2_with fail
      refine HC.mono ?_
      rintro e wl ⟨rfl, bl⟩
      have Zl := Zk.step bl
      have sgl := sgk.below bl
      clear HC Zk sgk bl hsh hah
      have HC := HC9.out wl sgl
      have HB : Hid (Below w.heap.size w wl) := Zl.y
      clear Zl sgl
      go_wp2_with fail
      refine HC.mono ?_
      rintro e wl ⟨rfl, rfl⟩
      clear HC
      go_wp2_with fail
      go_ret
      exact ⟨rfl, HB.out⟩
    · rw [szL_no hs] at H1
      clear hNN
      go_wp2_with fail
      refine H1.mono ?_
      rintro e w1 ⟨rfl, hb⟩
      have HB : Hid (Below w.heap.size w w1) := y0.trans (hb.mono y0.size)
      clear H1 k0 k1 k2 k3 k4 k5 k6 k7 k8 k9 k10 hb y0
      go_wp2_with fail
      go_ret
      exact ⟨rfl, HB.out⟩
  · have hb1 : (n : Int) > 1048576 := by omega
    go_wp2_with fail
    go_ret
    exact ⟨rfl, y0⟩
end Go.Proofs.Ytpkbeeicffoaoaa

/- What bytes did, as a script: the specification's body. By mkbkspec.py. -/
import Derived.Test.YtpkbeeicffoaoaaBkWild
namespace Go.Proofs.Ytpkbeeicffoaoaa
open Go.RowKit
set_option linter.unusedVariables false
set_option linter.unusedSimpArgs false
set_option maxRecDepth 100000

theorem LRow.len9 {w : World} {a : Option Addr} {c k : Nat} {rs : List (List Fl)} (h : LRow w a c k rs) : rs.length ≤ 9223372036854775807 := by
  have h1 := h.cap
  have h2 := h.most
  unfold maxLen at h2
  omega
theorem rsShape {w : World} {x : Rs} {vs : List Value} (h : RdVals w x.fl vs) : ∃ a6 c6 a7 n7 c7 a8 n8 c8 a9 n9 c9 a10 n10 c10, vs = [.int .i64 x.fin, .int .i64 x.code, .int .i64 x.who, .int .i64 x.mod, .int .i64 x.low, .int .i64 x.steps, .slice a6 x.ev.length c6, .slice a7 n7 c7, .slice a8 n8 c8, .slice a9 n9 c9, .slice a10 n10 c10] ∧ LRow w a6 c6 6 (x.ev.map Ev.fl) := by
  obtain ⟨v0, _, rfl, rfl, v1, _, rfl, rfl, v2, _, rfl, rfl, v3, _, rfl, rfl, v4, _, rfl, rfl, v5, _, rfl, rfl, v6, _, rfl, h6, v7, _, rfl, h7, v8, _, rfl, h8, v9, _, rfl, h9, v10, _, rfl, h10, rfl⟩ := h
  obtain ⟨a6, c6, rfl, l6⟩ := h6.list
  obtain ⟨a7, c7, rfl, l7⟩ := h7.list
  obtain ⟨a8, c8, rfl, l8⟩ := h8.list
  obtain ⟨a9, c9, rfl, _⟩ := h9
  obtain ⟨a10, c10, rfl, _⟩ := h10
  exact ⟨a6, c6, a7, _, c7, a8, _, c8, a9, _, c9, a10, _, c10, by rw [List.length_map], l6⟩
theorem evCells {w : World} {b off c j : Nat} {l : List Ev} {e : Ev} (h : LRow w (some ⟨b, off, none⟩) c 6 (l.map Ev.fl)) (he : l[j]? = some e) : ∃ ag cg, LRow w ag cg 2 (e.args.map Ag.fl) ∧ w.cell? ⟨b, off + j * 6, none⟩ = some (.int .i64 e.kind) ∧ w.cell? ⟨b, off + j * 6 + 1, none⟩ = some (.int .i64 e.fr) ∧ w.cell? ⟨b, off + j * 6 + 2, none⟩ = some (.int .i64 e.to) ∧ w.cell? ⟨b, off + j * 6 + 3, none⟩ = some (.int .i64 e.proc) ∧ w.cell? ⟨b, off + j * 6 + 4, none⟩ = some (.slice ag e.args.length cg) ∧ w.cell? ⟨b, off + j * 6 + 5, none⟩ = some (.int .i64 e.n) := by
  obtain ⟨vs, hvs, hcl⟩ := (h.el (show (l.map Ev.fl)[j]? = some e.fl by rw [List.getElem?_map, he]; rfl)).vals
  obtain ⟨v0, _, rfl, rfl, v1, _, rfl, rfl, v2, _, rfl, rfl, v3, _, rfl, rfl, v4, _, rfl, h4, v5, _, rfl, rfl, rfl⟩ := hvs
  obtain ⟨ag, cg, rfl, lg⟩ := h4.list
  rw [List.length_map] at hcl
  exact ⟨ag, cg, lg, hcl 0 _ rfl, hcl 1 _ rfl, hcl 2 _ rfl, hcl 3 _ rfl, hcl 4 _ rfl, hcl 5 _ rfl⟩
theorem acts_next {l : List Bool} {es : List Ev} {j : Nat} {e : Ev} (h : es[j]? = some e) : actsOf l (es.take (j + 1)) = actsOf l (es.take j) ++ (if wildAt l e.fr = true then (evA e).toList else []) := by
  obtain ⟨hj, rfl⟩ := List.getElem?_eq_some_iff.1 h
  unfold actsOf
  rw [List.take_succ_eq_append_getElem hj, List.filter_append, List.filterMap_append]
  congr 1
  cases hw : wildAt l es[j].fr
  · simp [hw]
  · simp only [List.filter_cons, hw, if_true, List.filter_nil, List.filterMap_cons, List.filterMap_nil]
    cases evA es[j] <;> rfl
theorem own_emptyG (w : World) : (w.alloc (.cells #[] 89)).ownsRow w.heap.size 89 2 (.slice (some ⟨w.heap.size, 0, none⟩) 0 0) 0 (flatG []) := World.ownsRow_made w #[] 0 (Nat.le_refl _) (by unfold maxLen; omega) rfl

/-- How far the specification has come: a script of what the first j events tell. -/
structure Bs (x : Rs) (l : List Bool) (w : World) (rv : List Value) (j : Nat) (v : Value) (wr : World) : Prop where
  ex : ∃ acs : List (Value × Ac), acs.map (fun y => y.2) = actsOf l (x.ev.take j) ∧ acs.length ≤ j ∧ Sc wr w.heap.size wr.heap.size v acs
  box : Blk wr w.heap.size 35 rv
  b : Below w.heap.size w wr
/-- An action more: its arguments made and its block filled in worlds that leave what was there. -/
theorem Bs.push {x : Rs} {l : List Bool} {w wr w8 w9 : World} {rv : List Value} {j c0 : Nat} {v v' c : Value} {e : Ev} {r : Ac} {acs : List (Value × Ac)} (h : Bs x l w rv j v wr) (hacs : acs.map (fun y => y.2) = actsOf l (x.ev.take j)) (hal : acs.length ≤ j) (hsc : Sc wr w.heap.size wr.heap.size v acs)
    (he : x.ev[j]? = some e) (hw : wildAt l e.fr = true) (hr : evA e = some r) (hb : Below wr.heap.size wr w8) (hc0 : wr.heap.size ≤ c0) (hcs : c0 ≤ w8.heap.size) (hc : Pc w8 89 2 c0 w8.heap.size c r.args.length (flatG r.args))
    (ho : w9.ownsRow w.heap.size 53 5 v' (acs.length + 1) (flatA acs ++ r.vals c)) (hg : w8.grownBy w9 v.ownBlock) : Bs x l w rv (j + 1) v' w9 := by
  have s8 := hsc.stays (w' := w8) (Stays.of hb (Nat.le_refl _))
  refine ⟨⟨acs ++ [(c, r)], ?_, by simp; omega, ?_⟩, ?_, ?_⟩
  · rw [acts_next he, hw, hr, List.map_append, hacs]; rfl
  · exact s8.push h.b.size hc0 hc hcs ho hg
  · exact s8.blk hg (h.box.below hb h.box.lt) (by decide)
  · exact (h.b.trans (hb.mono h.b.size)).grown hg (Nat.le_trans h.b.size hb.size) (fun k hk => (hsc.row.own.lt k hk).1)
theorem Bs.skip {x : Rs} {l : List Bool} {w wr w8 : World} {rv : List Value} {j : Nat} {v : Value} {e : Ev} (h : Bs x l w rv j v wr) (he : x.ev[j]? = some e) (hw : wildAt l e.fr = false ∨ evA e = none) (hb : Below wr.heap.size wr w8) : Bs x l w rv (j + 1) v w8 := by
  obtain ⟨acs, h1, h2, h3⟩ := h.ex
  refine ⟨⟨acs, ?_, by omega, (h3.stays (Stays.of hb (Nat.le_refl _))).wide (Nat.le_refl _) hb.size⟩, h.box.below hb h.box.lt, h.b.trans (hb.mono h.b.size)⟩
  rw [acts_next he, h1]
  rcases hw with hw | hw
  · simp [hw]
  · simp [hw]

set_option maxHeartbeats 8000000 in
theorem specBack (x : Rs) (l : List Bool) (vs : List Value) (a : Option Addr) (n c : Nat) (w : World) (h : RdVals w x.fl vs) (hL : LRow w a c 1 (tfs l)) (hn : l.length = n) (hs : recLen x.fl ≤ 1048576) (h9 : n ≤ 1048576) :
    Calls Try.prog 5 #[.agg vs.toArray, .slice a n c] w (BkFin x l w) := by
  obtain ⟨a6, c6, a7, n7, c7, a8, n8, c8, a9, n9, c9, a10, n10, c10, rfl, hE⟩ := rsShape h
  have hel : x.ev.length ≤ 1048576 := by
    have e : recLen x.fl = ((x.ev.map Ev.fl).length + rowsLen (x.ev.map Ev.fl)) + ((x.regs.map Wo.fl).length + rowsLen (x.regs.map Wo.fl)) + ((x.words.map Wo.fl).length + rowsLen (x.words.map Wo.fl)) + x.wrote.length + x.read.length := by simp [Rs.fl, recLen, Fl.len] <;> omega
    rw [e, List.length_map] at hs
    omega
  have HAG : Hid (∀ e ∈ x.ev, e.args.length ≤ 1048576) := fun e he => by
    have e1 : recLen x.fl = ((x.ev.map Ev.fl).length + rowsLen (x.ev.map Ev.fl)) + ((x.regs.map Wo.fl).length + rowsLen (x.regs.map Wo.fl)) + ((x.words.map Wo.fl).length + rowsLen (x.words.map Wo.fl)) + x.wrote.length + x.read.length := by simp [Rs.fl, recLen, Fl.len] <;> omega
    have := rec_le (f := Ev.fl) he
    have e2 : recLen e.fl = (e.args.map Ag.fl).length + rowsLen (e.args.map Ag.fl) := by simp [Ev.fl, recLen, Fl.len]
    rw [e2, List.length_map] at this
    omega
  obtain ⟨n6, hn6⟩ : ∃ z, z = x.ev.length := ⟨_, rfl⟩
  have HN6 : Hid (x.ev.length = n6) := hn6.symm
  rw [← hn6] at hel ⊢
  have HLE : Hid (LRow w a6 c6 6 (x.ev.map Ev.fl)) := hE
  have HLW : Hid (LRow w a c 1 (tfs l)) := hL
  have HNN : Hid (l.length = n) := hn
  have xR := Blk.new w 35 [.int .i64 x.fin, .int .i64 x.code, .int .i64 x.who, .int .i64 x.mod, .int .i64 x.low, .int .i64 x.steps, .slice a6 n6 c6, .slice a7 n7 c7, .slice a8 n8 c8, .slice a9 n9 c9, .slice a10 n10 c10]
  have yR : Below w.heap.size w (w.alloc (.cells #[.int .i64 x.fin, .int .i64 x.code, .int .i64 x.who, .int .i64 x.mod, .int .i64 x.low, .int .i64 x.steps, .slice a6 n6 c6, .slice a7 n7 c7, .slice a8 n8 c8, .slice a9 n9 c9, .slice a10 n10 c10] 35 (0, 0))) := (Below.refl _ _).alloc (Nat.le_refl _) _
  simp only [List.toArray] at xR
  clear h hE hL hn hn6 hs
  by_cases hr : 1 ≤ n ∧ n ≤ 8
  · have l1 : ¬ ((n : Int) < 1) := by omega
    have l2 : ¬ ((n : Int) > 8) := by omega
    have B0 : Hid (Bs x l w [.int .i64 x.fin, .int .i64 x.code, .int .i64 x.who, .int .i64 x.mod, .int .i64 x.low, .int .i64 x.steps, .slice a6 n6 c6, .slice a7 n7 c7, .slice a8 n8 c8, .slice a9 n9 c9, .slice a10 n10 c10] 0 (.slice none 0 0) (w.alloc (.cells #[.int .i64 x.fin, .int .i64 x.code, .int .i64 x.who, .int .i64 x.mod, .int .i64 x.low, .int .i64 x.steps, .slice a6 n6 c6, .slice a7 n7 c7, .slice a8 n8 c8, .slice a9 n9 c9, .slice a10 n10 c10] 35 (0, 0)))) := ⟨⟨[], by simp [actsOf], by simp, Sc.nil _ _ _⟩, xR, yR⟩
    go_enter Try.func5, Try.ntmps5
    go_upto_region 3 with fail
    generalize w.alloc (.cells #[.int .i64 x.fin, .int .i64 x.code, .int .i64 x.who, .int .i64 x.mod, .int .i64 x.low, .int .i64 x.steps, .slice a6 n6 c6, .slice a7 n7 c7, .slice a8 n8 c8, .slice a9 n9 c9, .slice a10 n10 c10] 35 (0, 0)) = w1 at *
    clear xR yR
    go_wp2_with fail
    go_loopw [6, 7, 8, 9] (fun v i _ _ wr => ∃ j : Nat, j ≤ n6 ∧ i = .int .i64 j ∧ ∃ v', v = v' ∧ Hid (Bs x l w [.int .i64 x.fin, .int .i64 x.code, .int .i64 x.who, .int .i64 x.mod, .int .i64 x.low, .int .i64 x.steps, .slice a6 n6 c6, .slice a7 n7 c7, .slice a8 n8 c8, .slice a9 n9 c9, .slice a10 n10 c10] j v' wr)) (fun _ i _ _ _ => n6 - (intOf i).toNat)
    case atStart => exact ⟨0, Nat.zero_le _, rfl, _, rfl, B0⟩
    case round =>
      obtain ⟨j, hj, rfl, v, rfl, hst⟩ := hrel
      clear B0
      have st := hst.out
      clear hst
      obtain ⟨acs, hacs, hal, hsc⟩ := st.ex
      obtain ⟨av, cv, rfl, _, _, _, _⟩ := owns_shape hsc.row.own
      obtain ⟨m, hm⟩ : ∃ z, z = acs.length := ⟨_, rfl⟩
      have HM : Hid (acs.length = m) := hm.symm
      rw [← hm] at st hsc ⊢
      have hmj : m ≤ j := by omega
      clear hm
      by_cases hlt : j < n6
      · have p6 := st.box.cell (i := 6) rfl
        have hbs := st.b.size
        obtain ⟨e, he⟩ : ∃ e, x.ev[j]? = some e := ⟨_, List.getElem?_eq_getElem (by rw [HN6.out]; exact hlt)⟩
        obtain ⟨b, off, rfl⟩ := LRow.addr HLE.out (by rw [List.length_map, HN6.out]; omega)
        obtain ⟨ag, cg, hLg, z0, z1, z2, z3, z4, z5⟩ := evCells HLE.out he
        replace z0 := cell_on z0 st.b
        replace z1 := cell_on z1 st.b
        replace z2 := cell_on z2 st.b
        replace z3 := cell_on z3 st.b
        replace z4 := cell_on z4 st.b
        replace z5 := cell_on z5 st.b
        have hng9 := HAG.out e (List.mem_of_getElem? he)
        obtain ⟨ng, hng⟩ : ∃ z, z = e.args.length := ⟨_, rfl⟩
        have HNG : Hid (e.args.length = ng) := hng.symm
        have HLG : Hid (LRow w ag cg 2 (e.args.map Ag.fl)) := hLg
        have HE : Hid (x.ev[j]? = some e) := he
        rw [← hng] at z4 hng9
        obtain ⟨kd, hkd⟩ : ∃ z, z = e.kind := ⟨_, rfl⟩
        obtain ⟨fr, hfr⟩ : ∃ z, z = e.fr := ⟨_, rfl⟩
        obtain ⟨tt, htt⟩ : ∃ z, z = e.to := ⟨_, rfl⟩
        obtain ⟨pp, hpp⟩ : ∃ z, z = e.proc := ⟨_, rfl⟩
        obtain ⟨nn, hnn⟩ : ∃ z, z = e.n := ⟨_, rfl⟩
        have HKD : Hid (kd = e.kind) := hkd
        have HEV : Hid (e = ⟨kd, fr, tt, pp, e.args, nn⟩) := by rw [hkd, hfr, htt, hpp, hnn]; rfl
        have HFR : Hid (fr = e.fr) := hfr
        rw [← hkd] at z0
        rw [← hfr] at z1
        rw [← htt] at z2
        rw [← hpp] at z3
        rw [← hnn] at z5
        clear he hng hLg hkd hfr htt hpp hnn
        have xE := Blk.new wr 50 [.int .i64 kd, .int .i64 fr, .int .i64 tt, .int .i64 pp, .slice ag ng cg, .int .i64 nn]
        have y1 : Below wr.heap.size wr (wr.alloc (.cells #[.int .i64 kd, .int .i64 fr, .int .i64 tt, .int .i64 pp, .slice ag ng cg, .int .i64 nn] 50 (0, 0))) := (Below.refl _ _).alloc (Nat.le_refl _) _
        have hs1 : (wr.alloc (.cells #[.int .i64 kd, .int .i64 fr, .int .i64 tt, .int .i64 pp, .slice ag ng cg, .int .i64 nn] 50 (0, 0))).heap.size = wr.heap.size + 1 := by simp
        simp only [List.toArray] at xE
        go_upto_region 8 with fail
        generalize wr.alloc (.cells #[.int .i64 kd, .int .i64 fr, .int .i64 tt, .int .i64 pp, .slice ag ng cg, .int .i64 nn] 50 (0, 0)) = w1 at *
        obtain ⟨gE, hgE⟩ : ∃ z, z = wr.heap.size := ⟨_, rfl⟩
        rw [← hgE] at xE
        rw [← hgE]
        have hgE1 : wr.heap.size ≤ gE ∧ gE ≤ wr.heap.size := by omega
        clear hgE
        have HWW := l12wildC l a n c fr w1 (LRow.below HLW.out (st.b.trans (y1.mono st.b.size))) HNN.out (by omega)
        have r1 := xE.cell (i := 1) rfl
        clear z0 z1 z2 z3 z4 z5
        cases hww : wildAt l fr
        · rw [hww] at HWW
          have HS : Hid (Bs x l w [.int .i64 x.fin, .int .i64 x.code, .int .i64 x.who, .int .i64 x.mod, .int .i64 x.low, .int .i64 x.steps, .slice (some ⟨b, off, none⟩) n6 c6, .slice a7 n7 c7, .slice a8 n8 c8, .slice a9 n9 c9, .slice a10 n10 c10] (j + 1) (.slice av m cv) w1) := st.skip HE.out (.inl (by rw [← HFR.out]; exact hww)) y1
          clear hww st hsc hacs
          go_wp2_with fail
          refine HWW.mono ?_
          rintro e9 w' ⟨rfl, rfl⟩
          go_wp2_with fail
          go_roundw
          case rel => exact ⟨j + 1, by omega, by go_num, _, rfl, HS⟩
          case measure => simp [intOf]; omega
        · rw [hww] at HWW
          have HWL : Hid (wildAt l e.fr = true) := by show _ = _; rw [← HFR.out]; exact hww
          clear hww
          go_wp2_with fail
          refine HWW.mono ?_
          rintro e9 w' ⟨rfl, rfl⟩
          have r5 := xE.cell (i := 5) rfl
          have xA := Blk.new w' 53 [.int .i64 0, .int .i64 0, .int .i64 0, .slice none 0 0, .int .i64 nn]
          have y2 : Below w'.heap.size w' (w'.alloc (.cells #[.int .i64 0, .int .i64 0, .int .i64 0, .slice none 0 0, .int .i64 nn] 53 (0, 0))) := (Below.refl _ _).alloc (Nat.le_refl _) _
          have yy := y1.trans (y2.mono y1.size)
          have xE2 := xE.old (o := .cells #[.int .i64 0, .int .i64 0, .int .i64 0, .slice none 0 0, .int .i64 nn] 53 (0, 0))
          simp only [List.toArray] at xA
          clear HWW
          go_upto_region 10 with fail
          generalize w'.alloc (.cells #[.int .i64 0, .int .i64 0, .int .i64 0, .slice none 0 0, .int .i64 nn] 53 (0, 0)) = w2 at *
          rw [hs1] at xA
          obtain ⟨gA, hgA⟩ : ∃ z, z = wr.heap.size + 1 := ⟨_, rfl⟩
          rw [← hgA] at xA
          rw [← hgA]
          have hgA1 : wr.heap.size + 1 ≤ gA ∧ gA ≤ wr.heap.size + 1 := by omega
          clear hgA
          clear r1 r5 xE
          have xE := xE2
          clear xE2
          have r0 := xE.cell (i := 0) rfl
          have r2 := xE.cell (i := 2) rfl
          by_cases hk0 : kd = 0
          · have hk := hk0
            have k0 : (kd == 0) = true := by simp; omega
            have f1 := xA.free 1
            have q1 := xA.cell (i := 1) rfl
            have x3 := xA.set (i := 1) (.int .i64 tt)
            have y3 : Below wr.heap.size wr (w2.setCell ⟨gA, 1, none⟩ (.int .i64 tt)) := yy.setCell (p := ⟨gA, 1, none⟩) (by show wr.heap.size ≤ gA; omega) _
            have e3 := xE.other (k := gA) (i := 1) (v := .int .i64 tt) (by omega)
            simp only [List.set_cons_succ, List.set_cons_zero] at x3
            go_upto_region 13 with fail
            generalize w2.setCell ⟨gA, 1, none⟩ (.int .i64 tt) = w3 at *
            clear q1 f1 xA xE r2
            have r3 := e3.cell (i := 3) rfl
            have f2 := x3.free 2
            have q2 := x3.cell (i := 2) rfl
            have x4 := x3.set (i := 2) (.int .i64 pp)
            have y4 : Below wr.heap.size wr (w3.setCell ⟨gA, 2, none⟩ (.int .i64 pp)) := y3.setCell (p := ⟨gA, 2, none⟩) (by show wr.heap.size ≤ gA; omega) _
            have e4 := e3.other (k := gA) (i := 2) (v := .int .i64 pp) (by omega)
            simp only [List.set_cons_succ, List.set_cons_zero] at x4
            go_upto_region 14 with fail
            generalize w3.setCell ⟨gA, 2, none⟩ (.int .i64 pp) = w4 at *
            clear q2 f2 x3 e3 r3
            have r4 : (w4.alloc (.cells #[] 89)).cell? ⟨gE, 4, none⟩ = some (.slice ag ng cg) := (e4.old (o := .cells #[] 89)).cell (i := 4) rfl
            have x5 := x4.old (o := .cells #[] 89)
            have y5 : Below wr.heap.size wr (w4.alloc (.cells #[] 89)) := y4.alloc y4.size _
            have oe := own_emptyG w4
            have HLG2 := LRow.below HLG.out (st.b.trans (y5.mono st.b.size))
            have hs4 := y4.size
            have hlA := x4.lt
            have hs5 : (w4.alloc (.cells #[] 89)).heap.size = w4.heap.size + 1 := by simp
            have HY : Hid (Below wr.heap.size wr (w4.alloc (.cells #[] 89)) ∧ Blk (w4.alloc (.cells #[] 89)) gA 53 [.int .i64 0, .int .i64 tt, .int .i64 pp, .slice none 0 0, .int .i64 nn]) := ⟨y5, x5⟩
            clear x4 e4 y3
            go_wp2_with (at_builtin; refine wpList_appendAg rfl _ _ rfl w4.heap.size _ 0 [] rfl oe ag ng cg e.args rfl HNG.out HLG2 (by omega) (by simp) ?_)
            intro va w6 o6 g6
            try rw [Nat.zero_add] at o6
            try rw [List.nil_append] at o6
            obtain ⟨y5, x5⟩ := HY.out
            have x6 : Blk w6 gA 53 [.int .i64 0, .int .i64 tt, .int .i64 pp, .slice none 0 0, .int .i64 nn] := (g6.block gA x5.lt (by simp only [Value.ownBlock, ne_eq, Option.some.injEq]; omega)).trans x5
            have y6 : Below wr.heap.size wr w6 := y5.grown g6 y5.size (fun k hk => by simp only [Value.ownBlock, Option.some.injEq] at hk; omega)
            obtain ⟨aa, ca, rfl, _, _, _, _⟩ := owns_shape o6
            have f3 := x6.free 3
            have q3 := x6.cell (i := 3) rfl
            have x7 := x6.set (i := 3) (.slice aa ng ca)
            have y7 : Below wr.heap.size wr (w6.setCell ⟨gA, 3, none⟩ (.slice aa ng ca)) := y6.setCell (p := ⟨gA, 3, none⟩) (by show wr.heap.size ≤ gA; omega) _
            have pc7 : Pc (w6.setCell ⟨gA, 3, none⟩ (.slice aa ng ca)) 89 2 w4.heap.size (w6.setCell ⟨gA, 3, none⟩ (.slice aa ng ca)).heap.size (.slice aa ng ca) e.args.length (flatG e.args) := by
              rw [HNG.out]
              have pc : Pc w6 89 2 w4.heap.size w6.heap.size (.slice aa ng ca) ng (flatG e.args) := ⟨o6, fun k hk => (o6.lt k hk).2⟩
              have := pc.stays (w' := w6.setCell ⟨gA, 3, none⟩ (.slice aa ng ca)) (fun g _ _ hc => heap_setCell_other w6 ⟨gA, 3, none⟩ g _ (fun e9 => by have e' : g = gA := e9; subst e'; exact absurd (blk_typ x6 hc) (by decide)))
              rw [show (w6.setCell ⟨gA, 3, none⟩ (.slice aa ng ca)).heap.size = w6.heap.size by simp]
              exact this
            simp only [List.set_cons_succ, List.set_cons_zero] at x7
            have hc04 : wr.heap.size ≤ w4.heap.size := hs4
            have hc4s : w4.heap.size ≤ (w6.setCell ⟨gA, 3, none⟩ (.slice aa ng ca)).heap.size := by have := g6.size; rw [hs5] at this; simp; omega
            clear HY y5 x5 o6 g6 oe x6 y6
            go_upto_region 22 with fail
            generalize w6.setCell ⟨gA, 3, none⟩ (.slice aa ng ca) = w7 at *
            generalize w4.heap.size = c0 at *
            clear q3 f3

            have t0 := x7.cell (i := 0) rfl
            have t1 := x7.cell (i := 1) rfl
            have t2 := x7.cell (i := 2) rfl
            have t3 := x7.cell (i := 3) rfl
            have t4 := x7.cell (i := 4) rfl
            have x8 := Blk.new w7 53 [.int .i64 0, .int .i64 tt, .int .i64 pp, .slice aa ng ca, .int .i64 nn]
            have y8 : Below w7.heap.size w7 (w7.alloc (.cells #[.int .i64 0, .int .i64 tt, .int .i64 pp, .slice aa ng ca, .int .i64 nn] 53 (0, 0))) := (Below.refl _ _).alloc (Nat.le_refl _) _
            have yw8 : Below wr.heap.size wr (w7.alloc (.cells #[.int .i64 0, .int .i64 tt, .int .i64 pp, .slice aa ng ca, .int .i64 nn] 53 (0, 0))) := y7.trans (y8.mono y7.size)
            have s8 := ((hsc.stays (Stays.of yw8 (Nat.le_refl _))).row.own)
            have hl8 := Nat.le_trans hbs yw8.size
            have HPU : Hid (∀ v' w9, w9.ownsRow w.heap.size 53 5 v' (m + 1) (flatA acs ++ Ac.vals (.slice aa ng ca) ⟨0, tt, pp, e.args, nn⟩) → World.grownBy (w7.alloc (.cells #[.int .i64 0, .int .i64 tt, .int .i64 pp, .slice aa ng ca, .int .i64 nn] 53 (0, 0))) w9 (Value.ownBlock (.slice av m cv)) → Bs x l w [.int .i64 x.fin, .int .i64 x.code, .int .i64 x.who, .int .i64 x.mod, .int .i64 x.low, .int .i64 x.steps, .slice (some ⟨b, off, none⟩) n6 c6, .slice a7 n7 c7, .slice a8 n8 c8, .slice a9 n9 c9, .slice a10 n10 c10] (j + 1) v' w9) := by
              intro v' w9 ho hg
              refine st.push (c0 := c0) (c := .slice aa ng ca) (r := ⟨0, tt, pp, e.args, nn⟩) hacs hal hsc HE.out HWL.out (by rw [HEV.out]; unfold evA; simp [← HKD.out, hk]) yw8 hc04 (Nat.le_trans hc4s y8.size) ?_ (by rw [HM.out]; exact ho) hg
              exact (pc7.stays (fun g _ h2 _ => y8.block g h2)).wide (Nat.le_refl _) y8.size
            simp only [List.toArray] at x8
            rw [HM.out] at s8
            clear st hsc hacs pc7 y8 yw8
            go_wp2_with (at_builtin; refine wpList_appendAc rfl _ _ rfl w.heap.size _ m acs rfl s8 w7.heap.size (.slice aa ng ca) ⟨0, tt, pp, e.args, nn⟩ rfl x8 rfl (by omega) hl8 ?_)
            intro v9 w9 ho9 hg9
            have HS : Hid _ := HPU.out v9 w9 ho9 hg9
            clear HPU ho9 hg9 x8 s8 t0 t1 t2 t3 t4 x7 y7 hl8
            go_wp2_with fail
            go_roundw
            case rel => exact ⟨j + 1, by omega, by go_num, _, rfl, HS⟩
            case measure => simp [intOf]; omega
          · by_cases hk1 : kd = 1
            · have hk := hk1
              have k0 : (kd == 0) = false := by simp; omega
              have k1 : (kd == 1) = true := by simp; omega
              have f0 := xA.free 0
              have q0 := xA.cell (i := 0) rfl
              have x7 := xA.set (i := 0) (.int .i64 1)
              have y7 : Below wr.heap.size wr (w2.setCell ⟨gA, 0, none⟩ (.int .i64 1)) := yy.setCell (p := ⟨gA, 0, none⟩) (by show wr.heap.size ≤ gA; omega) _
              simp only [List.set_cons_succ, List.set_cons_zero] at x7
              go_upto_region 22 with fail
              generalize w2.setCell ⟨gA, 0, none⟩ (.int .i64 1) = w7 at *
              clear q0 f0 xA
              have pc7 : Pc w7 89 2 wr.heap.size w7.heap.size (.slice none 0 0) 0 (flatG []) := Pc.nil _ _ _ _ _
              obtain ⟨c0, hc00⟩ : ∃ z, z = wr.heap.size := ⟨_, rfl⟩
              have hc04 : wr.heap.size ≤ c0 := by omega
              have hc4s : c0 ≤ w7.heap.size := by rw [hc00]; exact y7.size
              rw [← hc00] at pc7
              clear hc00

              have t0 := x7.cell (i := 0) rfl
              have t1 := x7.cell (i := 1) rfl
              have t2 := x7.cell (i := 2) rfl
              have t3 := x7.cell (i := 3) rfl
              have t4 := x7.cell (i := 4) rfl
              have x8 := Blk.new w7 53 [.int .i64 1, .int .i64 0, .int .i64 0, .slice none 0 0, .int .i64 nn]
              have y8 : Below w7.heap.size w7 (w7.alloc (.cells #[.int .i64 1, .int .i64 0, .int .i64 0, .slice none 0 0, .int .i64 nn] 53 (0, 0))) := (Below.refl _ _).alloc (Nat.le_refl _) _
              have yw8 : Below wr.heap.size wr (w7.alloc (.cells #[.int .i64 1, .int .i64 0, .int .i64 0, .slice none 0 0, .int .i64 nn] 53 (0, 0))) := y7.trans (y8.mono y7.size)
              have s8 := ((hsc.stays (Stays.of yw8 (Nat.le_refl _))).row.own)
              have hl8 := Nat.le_trans hbs yw8.size
              have HPU : Hid (∀ v' w9, w9.ownsRow w.heap.size 53 5 v' (m + 1) (flatA acs ++ Ac.vals (.slice none 0 0) ⟨1, 0, 0, [], nn⟩) → World.grownBy (w7.alloc (.cells #[.int .i64 1, .int .i64 0, .int .i64 0, .slice none 0 0, .int .i64 nn] 53 (0, 0))) w9 (Value.ownBlock (.slice av m cv)) → Bs x l w [.int .i64 x.fin, .int .i64 x.code, .int .i64 x.who, .int .i64 x.mod, .int .i64 x.low, .int .i64 x.steps, .slice (some ⟨b, off, none⟩) n6 c6, .slice a7 n7 c7, .slice a8 n8 c8, .slice a9 n9 c9, .slice a10 n10 c10] (j + 1) v' w9) := by
                intro v' w9 ho hg
                refine st.push (c0 := c0) (c := .slice none 0 0) (r := ⟨1, 0, 0, [], nn⟩) hacs hal hsc HE.out HWL.out (by rw [HEV.out]; unfold evA; simp [← HKD.out, hk]) yw8 hc04 (Nat.le_trans hc4s y8.size) ?_ (by rw [HM.out]; exact ho) hg
                exact (pc7.stays (fun g _ h2 _ => y8.block g h2)).wide (Nat.le_refl _) y8.size
              simp only [List.toArray] at x8
              rw [HM.out] at s8
              clear st hsc hacs pc7 y8 yw8
              go_wp2_with (at_builtin; refine wpList_appendAc rfl _ _ rfl w.heap.size _ m acs rfl s8 w7.heap.size (.slice none 0 0) ⟨1, 0, 0, [], nn⟩ rfl x8 rfl (by omega) hl8 ?_)
              intro v9 w9 ho9 hg9
              have HS : Hid _ := HPU.out v9 w9 ho9 hg9
              clear HPU ho9 hg9 x8 s8 t0 t1 t2 t3 t4 x7 y7 hl8
              go_wp2_with fail
              go_roundw
              case rel => exact ⟨j + 1, by omega, by go_num, _, rfl, HS⟩
              case measure => simp [intOf]; omega
            · by_cases hk2 : kd = 2
              · have hk := hk2
                have k0 : (kd == 0) = false := by simp; omega
                have k1 : (kd == 1) = false := by simp; omega
                have k2 : (kd == 2) = true := by simp; omega
                have f0 := xA.free 0
                have q0 := xA.cell (i := 0) rfl
                have x7 := xA.set (i := 0) (.int .i64 2)
                have y7 : Below wr.heap.size wr (w2.setCell ⟨gA, 0, none⟩ (.int .i64 2)) := yy.setCell (p := ⟨gA, 0, none⟩) (by show wr.heap.size ≤ gA; omega) _
                simp only [List.set_cons_succ, List.set_cons_zero] at x7
                go_upto_region 22 with fail
                generalize w2.setCell ⟨gA, 0, none⟩ (.int .i64 2) = w7 at *
                clear q0 f0 xA
                have pc7 : Pc w7 89 2 wr.heap.size w7.heap.size (.slice none 0 0) 0 (flatG []) := Pc.nil _ _ _ _ _
                obtain ⟨c0, hc00⟩ : ∃ z, z = wr.heap.size := ⟨_, rfl⟩
                have hc04 : wr.heap.size ≤ c0 := by omega
                have hc4s : c0 ≤ w7.heap.size := by rw [hc00]; exact y7.size
                rw [← hc00] at pc7
                clear hc00

                have t0 := x7.cell (i := 0) rfl
                have t1 := x7.cell (i := 1) rfl
                have t2 := x7.cell (i := 2) rfl
                have t3 := x7.cell (i := 3) rfl
                have t4 := x7.cell (i := 4) rfl
                have x8 := Blk.new w7 53 [.int .i64 2, .int .i64 0, .int .i64 0, .slice none 0 0, .int .i64 nn]
                have y8 : Below w7.heap.size w7 (w7.alloc (.cells #[.int .i64 2, .int .i64 0, .int .i64 0, .slice none 0 0, .int .i64 nn] 53 (0, 0))) := (Below.refl _ _).alloc (Nat.le_refl _) _
                have yw8 : Below wr.heap.size wr (w7.alloc (.cells #[.int .i64 2, .int .i64 0, .int .i64 0, .slice none 0 0, .int .i64 nn] 53 (0, 0))) := y7.trans (y8.mono y7.size)
                have s8 := ((hsc.stays (Stays.of yw8 (Nat.le_refl _))).row.own)
                have hl8 := Nat.le_trans hbs yw8.size
                have HPU : Hid (∀ v' w9, w9.ownsRow w.heap.size 53 5 v' (m + 1) (flatA acs ++ Ac.vals (.slice none 0 0) ⟨2, 0, 0, [], nn⟩) → World.grownBy (w7.alloc (.cells #[.int .i64 2, .int .i64 0, .int .i64 0, .slice none 0 0, .int .i64 nn] 53 (0, 0))) w9 (Value.ownBlock (.slice av m cv)) → Bs x l w [.int .i64 x.fin, .int .i64 x.code, .int .i64 x.who, .int .i64 x.mod, .int .i64 x.low, .int .i64 x.steps, .slice (some ⟨b, off, none⟩) n6 c6, .slice a7 n7 c7, .slice a8 n8 c8, .slice a9 n9 c9, .slice a10 n10 c10] (j + 1) v' w9) := by
                  intro v' w9 ho hg
                  refine st.push (c0 := c0) (c := .slice none 0 0) (r := ⟨2, 0, 0, [], nn⟩) hacs hal hsc HE.out HWL.out (by rw [HEV.out]; unfold evA; simp [← HKD.out, hk]) yw8 hc04 (Nat.le_trans hc4s y8.size) ?_ (by rw [HM.out]; exact ho) hg
                  exact (pc7.stays (fun g _ h2 _ => y8.block g h2)).wide (Nat.le_refl _) y8.size
                simp only [List.toArray] at x8
                rw [HM.out] at s8
                clear st hsc hacs pc7 y8 yw8
                go_wp2_with (at_builtin; refine wpList_appendAc rfl _ _ rfl w.heap.size _ m acs rfl s8 w7.heap.size (.slice none 0 0) ⟨2, 0, 0, [], nn⟩ rfl x8 rfl (by omega) hl8 ?_)
                intro v9 w9 ho9 hg9
                have HS : Hid _ := HPU.out v9 w9 ho9 hg9
                clear HPU ho9 hg9 x8 s8 t0 t1 t2 t3 t4 x7 y7 hl8
                go_wp2_with fail
                go_roundw
                case rel => exact ⟨j + 1, by omega, by go_num, _, rfl, HS⟩
                case measure => simp [intOf]; omega
              · by_cases hk3 : kd = 3
                · have hk := hk3
                  have k0 : (kd == 0) = false := by simp; omega
                  have k1 : (kd == 1) = false := by simp; omega
                  have k2 : (kd == 2) = false := by simp; omega
                  have k3 : (kd == 3) = true := by simp; omega
                  have f0 := xA.free 0
                  have q0 := xA.cell (i := 0) rfl
                  have x7 := xA.set (i := 0) (.int .i64 3)
                  have y7 : Below wr.heap.size wr (w2.setCell ⟨gA, 0, none⟩ (.int .i64 3)) := yy.setCell (p := ⟨gA, 0, none⟩) (by show wr.heap.size ≤ gA; omega) _
                  simp only [List.set_cons_succ, List.set_cons_zero] at x7
                  go_upto_region 21 with fail
                  generalize w2.setCell ⟨gA, 0, none⟩ (.int .i64 3) = w3 at *
                  clear q0 f0 xA
                  have f4 := x7.free 4
                  have q4 := x7.cell (i := 4) rfl
                  replace y7 : Below wr.heap.size wr (w3.setCell ⟨gA, 4, none⟩ (.int .i64 0)) := y7.setCell (p := ⟨gA, 4, none⟩) (by show wr.heap.size ≤ gA; omega) _
                  replace x7 := x7.set (i := 4) (.int .i64 0)
                  simp only [List.set_cons_succ, List.set_cons_zero] at x7
                  go_upto_region 22 with fail
                  generalize w3.setCell ⟨gA, 4, none⟩ (.int .i64 0) = w7 at *
                  clear q4 f4
                  have pc7 : Pc w7 89 2 wr.heap.size w7.heap.size (.slice none 0 0) 0 (flatG []) := Pc.nil _ _ _ _ _
                  obtain ⟨c0, hc00⟩ : ∃ z, z = wr.heap.size := ⟨_, rfl⟩
                  have hc04 : wr.heap.size ≤ c0 := by omega
                  have hc4s : c0 ≤ w7.heap.size := by rw [hc00]; exact y7.size
                  rw [← hc00] at pc7
                  clear hc00

                  have t0 := x7.cell (i := 0) rfl
                  have t1 := x7.cell (i := 1) rfl
                  have t2 := x7.cell (i := 2) rfl
                  have t3 := x7.cell (i := 3) rfl
                  have t4 := x7.cell (i := 4) rfl
                  have x8 := Blk.new w7 53 [.int .i64 3, .int .i64 0, .int .i64 0, .slice none 0 0, .int .i64 0]
                  have y8 : Below w7.heap.size w7 (w7.alloc (.cells #[.int .i64 3, .int .i64 0, .int .i64 0, .slice none 0 0, .int .i64 0] 53 (0, 0))) := (Below.refl _ _).alloc (Nat.le_refl _) _
                  have yw8 : Below wr.heap.size wr (w7.alloc (.cells #[.int .i64 3, .int .i64 0, .int .i64 0, .slice none 0 0, .int .i64 0] 53 (0, 0))) := y7.trans (y8.mono y7.size)
                  have s8 := ((hsc.stays (Stays.of yw8 (Nat.le_refl _))).row.own)
                  have hl8 := Nat.le_trans hbs yw8.size
                  have HPU : Hid (∀ v' w9, w9.ownsRow w.heap.size 53 5 v' (m + 1) (flatA acs ++ Ac.vals (.slice none 0 0) ⟨3, 0, 0, [], 0⟩) → World.grownBy (w7.alloc (.cells #[.int .i64 3, .int .i64 0, .int .i64 0, .slice none 0 0, .int .i64 0] 53 (0, 0))) w9 (Value.ownBlock (.slice av m cv)) → Bs x l w [.int .i64 x.fin, .int .i64 x.code, .int .i64 x.who, .int .i64 x.mod, .int .i64 x.low, .int .i64 x.steps, .slice (some ⟨b, off, none⟩) n6 c6, .slice a7 n7 c7, .slice a8 n8 c8, .slice a9 n9 c9, .slice a10 n10 c10] (j + 1) v' w9) := by
                    intro v' w9 ho hg
                    refine st.push (c0 := c0) (c := .slice none 0 0) (r := ⟨3, 0, 0, [], 0⟩) hacs hal hsc HE.out HWL.out (by rw [HEV.out]; unfold evA; simp [← HKD.out, hk]) yw8 hc04 (Nat.le_trans hc4s y8.size) ?_ (by rw [HM.out]; exact ho) hg
                    exact (pc7.stays (fun g _ h2 _ => y8.block g h2)).wide (Nat.le_refl _) y8.size
                  simp only [List.toArray] at x8
                  rw [HM.out] at s8
                  clear st hsc hacs pc7 y8 yw8
                  go_wp2_with (at_builtin; refine wpList_appendAc rfl _ _ rfl w.heap.size _ m acs rfl s8 w7.heap.size (.slice none 0 0) ⟨3, 0, 0, [], 0⟩ rfl x8 rfl (by omega) hl8 ?_)
                  intro v9 w9 ho9 hg9
                  have HS : Hid _ := HPU.out v9 w9 ho9 hg9
                  clear HPU ho9 hg9 x8 s8 t0 t1 t2 t3 t4 x7 y7 hl8
                  go_wp2_with fail
                  go_roundw
                  case rel => exact ⟨j + 1, by omega, by go_num, _, rfl, HS⟩
                  case measure => simp [intOf]; omega
                · skip
                  have k0 : (kd == 0) = false := by simp; omega
                  have k1 : (kd == 1) = false := by simp; omega
                  have k2 : (kd == 2) = false := by simp; omega
                  have k3 : (kd == 3) = false := by simp; omega
                  have HS : Hid (Bs x l w [.int .i64 x.fin, .int .i64 x.code, .int .i64 x.who, .int .i64 x.mod, .int .i64 x.low, .int .i64 x.steps, .slice (some ⟨b, off, none⟩) n6 c6, .slice a7 n7 c7, .slice a8 n8 c8, .slice a9 n9 c9, .slice a10 n10 c10] (j + 1) (.slice av m cv) w2) := st.skip HE.out (.inr (by unfold evA; rw [← HKD.out] at *; simp [hk0, hk1, hk2, hk3])) (y1.trans (y2.mono y1.size))
                  clear st hsc hacs
                  go_wp2_with fail
                  go_roundw
                  case rel => exact ⟨j + 1, by omega, by go_num, _, rfl, HS⟩
                  case measure => simp [intOf]; omega
      · have : n6 = j := by omega
        subst this
        have p6 := st.box.cell (i := 6) rfl
        rw [List.take_of_length_le (by rw [HN6.out]; exact Nat.le_refl _)] at hacs
        have p0 := st.box.cell (i := 0) rfl
        have p1 := st.box.cell (i := 1) rfl
        have p2 := st.box.cell (i := 2) rfl
        have hbs := st.b.size
        have hwrap : IntKind.i64.wrap ((n : Int) - 1) = (n : Int) - 1 := by rw [IntKind.wrap_i64]; omega
        by_cases hf2 : x.fin = 2
        · have g2 : (x.fin == 2) = true := by simpa using hf2
          have g1 : (x.fin == 1) = false := by simp; omega
          have HWW := l12wildC l a n c x.who wr (LRow.below HLW.out st.b) HNN.out (by omega)
          cases hww : wildAt l x.who
          · rw [hww] at HWW
            have HLA : Hid (backA x l = actsOf l x.ev) := by
              show _ = _
              unfold backA lastA
              rw [if_neg (by rw [hww]; simp), if_neg (by omega), List.append_nil]
            clear hww
            go_wp2_with fail
            refine HWW.mono ?_
            rintro e wr ⟨rfl, rfl⟩
            have hB9 := st.b
            have h9a : acs.map (fun y => y.2) = backA x l := by rw [hacs, HLA.out]
            clear st hacs
            by_cases hbig : 2000 < m
            · have hbig' : (2000 : Int) < ((m : Nat) : Int) := by omega
              have HE : Hid (backOk x l = false ∧ backS x l = []) := by
                have : backOk x l = false := by
                  unfold backOk
                  rw [decide_eq_false_iff_not]
                  intro hh
                  have e : (backA x l).length = m := by rw [← h9a, List.length_map]; exact HM.out
                  omega
                exact ⟨this, by unfold backS; rw [this]; rfl⟩
              have HB : Hid (Below w.heap.size w wr) := hB9
              clear h9a hsc hB9
              go_wp2_with fail
              go_ret2
              refine ⟨HB.out, .slice none 0 0, [], by rw [HE.out.1]; rfl, by rw [HE.out.2]; rfl, Sc.nil _ _ _⟩
            · have hbig' : ¬ ((2000 : Int) < ((m : Nat) : Int)) := by omega
              have HE : Hid (backOk x l = true ∧ backS x l = backA x l) := by
                have : backOk x l = true := by
                  unfold backOk
                  rw [decide_eq_true_iff]
                  have e : (backA x l).length = m := by rw [← h9a, List.length_map]; exact HM.out
                  exact ⟨by rw [HNN.out]; omega, by rw [HNN.out]; omega, by omega⟩
                exact ⟨this, by unfold backS; rw [this]; rfl⟩
              have HB : Hid (Below w.heap.size w wr ∧ acs.map (fun y => y.2) = backA x l ∧ Sc wr w.heap.size wr.heap.size (.slice av m cv) acs) := ⟨hB9, h9a, hsc⟩
              clear h9a hsc hB9
              go_wp2_with fail
              go_ret2
              exact ⟨HB.out.1, _, acs, by rw [HE.out.1]; rfl, by rw [HE.out.2]; exact HB.out.2.1, HB.out.2.2⟩
          · rw [hww] at HWW
            have HLA : Hid (backA x l = actsOf l x.ev ++ [⟨4, 0, 0, [], x.code⟩]) := by
              show _ = _
              unfold backA lastA
              rw [if_pos ⟨hf2, hww⟩]
            clear hww
            go_wp2_with fail
            refine HWW.mono ?_
            rintro e wr ⟨rfl, rfl⟩
            have xB := Blk.new wr 53 (Ac.vals (.slice none 0 0) ⟨4, 0, 0, [], x.code⟩)
            have yB : Below wr.heap.size wr (wr.alloc (.cells #[.int .i64 4, .int .i64 0, .int .i64 0, .slice none 0 0, .int .i64 (x.code)] 53 (0, 0))) := (Below.refl _ _).alloc (Nat.le_refl _) _
            have sB := (hsc.below yB).row.own
            have hlB := yB.size
            have HPU : Hid (∀ v' w9, w9.ownsRow w.heap.size 53 5 v' (m + 1) (flatA acs ++ Ac.vals (.slice none 0 0) ⟨4, 0, 0, [], x.code⟩) → World.grownBy (wr.alloc (.cells #[.int .i64 4, .int .i64 0, .int .i64 0, .slice none 0 0, .int .i64 (x.code)] 53 (0, 0))) w9 (Value.ownBlock (.slice av m cv)) → Below w.heap.size w w9 ∧ ∃ acs', acs'.map (fun y => y.2) = backA x l ∧ acs'.length = m + 1 ∧ Sc w9 w.heap.size w9.heap.size v' acs' ∧ Blk w9 w.heap.size 35 [.int .i64 x.fin, .int .i64 x.code, .int .i64 x.who, .int .i64 x.mod, .int .i64 x.low, .int .i64 x.steps, .slice a6 n6 c6, .slice a7 n7 c7, .slice a8 n8 c8, .slice a9 n9 c9, .slice a10 n10 c10]) := by
              intro v' w9 ho hg
              have s8 := hsc.below yB
              refine ⟨(st.b.trans (yB.mono st.b.size)).grown hg (Nat.le_trans st.b.size hlB) (fun k hk => (s8.row.own.lt k hk).1), acs ++ [(.slice none 0 0, ⟨4, 0, 0, [], x.code⟩)], ?_, by rw [List.length_append, HM.out]; rfl, ?_, ?_⟩
              · rw [List.map_append, hacs, HLA.out]; rfl
              · have := s8.push (c0 := wr.heap.size) (v' := v') (c := .slice none 0 0) (r := ⟨4, 0, 0, [], x.code⟩) st.b.size (Nat.le_refl _) (Pc.nil _ _ _ _ _) hlB (by rw [HM.out]; exact ho) hg
                exact this
              · exact s8.blk hg (st.box.below yB st.box.lt) (by decide)
            simp only [List.toArray, Ac.vals] at xB
            rw [HM.out] at sB
            clear st hsc hacs
            go_wp2_with (at_builtin; refine wpList_appendAc rfl _ _ rfl w.heap.size _ m acs rfl sB wr.heap.size (.slice none 0 0) ⟨4, 0, 0, [], x.code⟩ rfl xB rfl (by omega) (Nat.le_trans hbs hlB) ?_)
            intro v9 w9 ho9 hg9
            obtain ⟨hB9, acs9, h9a, h9b, h9c, h9d⟩ := HPU.out v9 w9 ho9 hg9
            clear HPU ho9 hg9 xB yB sB hlB p0 p1 p2
            have p0 := h9d.cell (i := 0) rfl
            obtain ⟨a9', c9', rfl, _, _, _, _⟩ := owns_shape h9c.row.own
            have hm9 : acs9.length = m + 1 := h9b
            have h9c' : Sc w9 w.heap.size w9.heap.size (.slice a9' (m + 1) c9') acs9 := by rw [hm9] at h9c; exact h9c
            rw [hm9]
            clear h9c
            by_cases hbig : 2000 < (m + 1)
            · have hbig' : (2000 : Int) < (((m + 1) : Nat) : Int) := by omega
              have HE : Hid (backOk x l = false ∧ backS x l = []) := by
                have : backOk x l = false := by
                  unfold backOk
                  rw [decide_eq_false_iff_not]
                  intro hh
                  have e : (backA x l).length = (m + 1) := by rw [← h9a, List.length_map]; exact hm9
                  omega
                exact ⟨this, by unfold backS; rw [this]; rfl⟩
              have HB : Hid (Below w.heap.size w w9) := hB9
              clear h9a h9c' hB9
              go_wp2_with fail
              go_ret2
              refine ⟨HB.out, .slice none 0 0, [], by rw [HE.out.1]; rfl, by rw [HE.out.2]; rfl, Sc.nil _ _ _⟩
            · have hbig' : ¬ ((2000 : Int) < (((m + 1) : Nat) : Int)) := by omega
              have HE : Hid (backOk x l = true ∧ backS x l = backA x l) := by
                have : backOk x l = true := by
                  unfold backOk
                  rw [decide_eq_true_iff]
                  have e : (backA x l).length = (m + 1) := by rw [← h9a, List.length_map]; exact hm9
                  exact ⟨by rw [HNN.out]; omega, by rw [HNN.out]; omega, by omega⟩
                exact ⟨this, by unfold backS; rw [this]; rfl⟩
              have HB : Hid (Below w.heap.size w w9 ∧ acs9.map (fun y => y.2) = backA x l ∧ Sc w9 w.heap.size w9.heap.size (.slice a9' (m + 1) c9') acs9) := ⟨hB9, h9a, h9c'⟩
              clear h9a h9c' hB9
              go_wp2_with fail
              go_ret2
              exact ⟨HB.out.1, _, acs9, by rw [HE.out.1]; rfl, by rw [HE.out.2]; exact HB.out.2.1, HB.out.2.2⟩
        · have g2 : (x.fin == 2) = false := by simpa using hf2
          by_cases hf1 : x.fin = 1
          · have g1 : (x.fin == 1) = true := by simpa using hf1
            obtain ⟨bw, ow, rfl, kw, hkw, hcw⟩ := wild_cell (LRow.below HLW.out st.b) HNN.out (i := (n : Int) - 1) (by omega) (by omega)
            obtain rfl : kw = n - 1 := by omega
            have htn : ((n : Int) - 1).toNat = n - 1 := by omega
            have hg0 : (0 : Int) ≤ (n : Int) - 1 := by omega
            have hgn : (n : Int) - 1 < (n : Int) := by omega
            clear hkw
            cases hww : wildAt l ((n : Int) - 1)
            · rw [hww] at hcw
              have HLA : Hid (backA x l = actsOf l x.ev) := by
                show _ = _
                unfold backA lastA
                rw [HNN.out, if_neg (by omega), if_neg (by rw [hww]; simp), List.append_nil]
              clear hww
              have hB9 := st.b
              have h9a : acs.map (fun y => y.2) = backA x l := by rw [hacs, HLA.out]
              clear st hacs
              by_cases hbig : 2000 < m
              · have hbig' : (2000 : Int) < ((m : Nat) : Int) := by omega
                have HE : Hid (backOk x l = false ∧ backS x l = []) := by
                  have : backOk x l = false := by
                    unfold backOk
                    rw [decide_eq_false_iff_not]
                    intro hh
                    have e : (backA x l).length = m := by rw [← h9a, List.length_map]; exact HM.out
                    omega
                  exact ⟨this, by unfold backS; rw [this]; rfl⟩
                have HB : Hid (Below w.heap.size w wr) := hB9
                clear h9a hsc hB9
                go_wp2_with fail
                go_ret2
                refine ⟨HB.out, .slice none 0 0, [], by rw [HE.out.1]; rfl, by rw [HE.out.2]; rfl, Sc.nil _ _ _⟩
              · have hbig' : ¬ ((2000 : Int) < ((m : Nat) : Int)) := by omega
                have HE : Hid (backOk x l = true ∧ backS x l = backA x l) := by
                  have : backOk x l = true := by
                    unfold backOk
                    rw [decide_eq_true_iff]
                    have e : (backA x l).length = m := by rw [← h9a, List.length_map]; exact HM.out
                    exact ⟨by rw [HNN.out]; omega, by rw [HNN.out]; omega, by omega⟩
                  exact ⟨this, by unfold backS; rw [this]; rfl⟩
                have HB : Hid (Below w.heap.size w wr ∧ acs.map (fun y => y.2) = backA x l ∧ Sc wr w.heap.size wr.heap.size (.slice av m cv) acs) := ⟨hB9, h9a, hsc⟩
                clear h9a hsc hB9
                go_wp2_with fail
                go_ret2
                exact ⟨HB.out.1, _, acs, by rw [HE.out.1]; rfl, by rw [HE.out.2]; exact HB.out.2.1, HB.out.2.2⟩
            · rw [hww] at hcw
              have HLA : Hid (backA x l = actsOf l x.ev ++ [⟨1, 0, 0, [], 0⟩]) := by
                show _ = _
                unfold backA lastA
                rw [HNN.out, if_neg (by omega), if_pos ⟨hf1, hww⟩]
              clear hww
              go_upto_region 26 with fail
              have xB := Blk.new wr 53 (Ac.vals (.slice none 0 0) ⟨1, 0, 0, [], 0⟩)
              have yB : Below wr.heap.size wr (wr.alloc (.cells #[.int .i64 1, .int .i64 0, .int .i64 0, .slice none 0 0, .int .i64 (0)] 53 (0, 0))) := (Below.refl _ _).alloc (Nat.le_refl _) _
              have sB := (hsc.below yB).row.own
              have hlB := yB.size
              have HPU : Hid (∀ v' w9, w9.ownsRow w.heap.size 53 5 v' (m + 1) (flatA acs ++ Ac.vals (.slice none 0 0) ⟨1, 0, 0, [], 0⟩) → World.grownBy (wr.alloc (.cells #[.int .i64 1, .int .i64 0, .int .i64 0, .slice none 0 0, .int .i64 (0)] 53 (0, 0))) w9 (Value.ownBlock (.slice av m cv)) → Below w.heap.size w w9 ∧ ∃ acs', acs'.map (fun y => y.2) = backA x l ∧ acs'.length = m + 1 ∧ Sc w9 w.heap.size w9.heap.size v' acs' ∧ Blk w9 w.heap.size 35 [.int .i64 x.fin, .int .i64 x.code, .int .i64 x.who, .int .i64 x.mod, .int .i64 x.low, .int .i64 x.steps, .slice a6 n6 c6, .slice a7 n7 c7, .slice a8 n8 c8, .slice a9 n9 c9, .slice a10 n10 c10]) := by
                intro v' w9 ho hg
                have s8 := hsc.below yB
                refine ⟨(st.b.trans (yB.mono st.b.size)).grown hg (Nat.le_trans st.b.size hlB) (fun k hk => (s8.row.own.lt k hk).1), acs ++ [(.slice none 0 0, ⟨1, 0, 0, [], 0⟩)], ?_, by rw [List.length_append, HM.out]; rfl, ?_, ?_⟩
                · rw [List.map_append, hacs, HLA.out]; rfl
                · have := s8.push (c0 := wr.heap.size) (v' := v') (c := .slice none 0 0) (r := ⟨1, 0, 0, [], 0⟩) st.b.size (Nat.le_refl _) (Pc.nil _ _ _ _ _) hlB (by rw [HM.out]; exact ho) hg
                  exact this
                · exact s8.blk hg (st.box.below yB st.box.lt) (by decide)
              simp only [List.toArray, Ac.vals] at xB
              rw [HM.out] at sB
              clear st hsc hacs
              go_wp2_with (at_builtin; refine wpList_appendAc rfl _ _ rfl w.heap.size _ m acs rfl sB wr.heap.size (.slice none 0 0) ⟨1, 0, 0, [], 0⟩ rfl xB rfl (by omega) (Nat.le_trans hbs hlB) ?_)
              intro v9 w9 ho9 hg9
              obtain ⟨hB9, acs9, h9a, h9b, h9c, h9d⟩ := HPU.out v9 w9 ho9 hg9
              clear HPU ho9 hg9 xB yB sB hlB p0 p1 p2
              have p0 := h9d.cell (i := 0) rfl
              obtain ⟨a9', c9', rfl, _, _, _, _⟩ := owns_shape h9c.row.own
              have hm9 : acs9.length = m + 1 := h9b
              have h9c' : Sc w9 w.heap.size w9.heap.size (.slice a9' (m + 1) c9') acs9 := by rw [hm9] at h9c; exact h9c
              rw [hm9]
              clear h9c
              by_cases hbig : 2000 < (m + 1)
              · have hbig' : (2000 : Int) < (((m + 1) : Nat) : Int) := by omega
                have HE : Hid (backOk x l = false ∧ backS x l = []) := by
                  have : backOk x l = false := by
                    unfold backOk
                    rw [decide_eq_false_iff_not]
                    intro hh
                    have e : (backA x l).length = (m + 1) := by rw [← h9a, List.length_map]; exact hm9
                    omega
                  exact ⟨this, by unfold backS; rw [this]; rfl⟩
                have HB : Hid (Below w.heap.size w w9) := hB9
                clear h9a h9c' hB9
                go_wp2_with fail
                go_ret2
                refine ⟨HB.out, .slice none 0 0, [], by rw [HE.out.1]; rfl, by rw [HE.out.2]; rfl, Sc.nil _ _ _⟩
              · have hbig' : ¬ ((2000 : Int) < (((m + 1) : Nat) : Int)) := by omega
                have HE : Hid (backOk x l = true ∧ backS x l = backA x l) := by
                  have : backOk x l = true := by
                    unfold backOk
                    rw [decide_eq_true_iff]
                    have e : (backA x l).length = (m + 1) := by rw [← h9a, List.length_map]; exact hm9
                    exact ⟨by rw [HNN.out]; omega, by rw [HNN.out]; omega, by omega⟩
                  exact ⟨this, by unfold backS; rw [this]; rfl⟩
                have HB : Hid (Below w.heap.size w w9 ∧ acs9.map (fun y => y.2) = backA x l ∧ Sc w9 w.heap.size w9.heap.size (.slice a9' (m + 1) c9') acs9) := ⟨hB9, h9a, h9c'⟩
                clear h9a h9c' hB9
                go_wp2_with fail
                go_ret2
                exact ⟨HB.out.1, _, acs9, by rw [HE.out.1]; rfl, by rw [HE.out.2]; exact HB.out.2.1, HB.out.2.2⟩
          · have g1 : (x.fin == 1) = false := by simpa using hf1
            have HLA : Hid (backA x l = actsOf l x.ev) := by
              show _ = _
              unfold backA lastA
              rw [if_neg (by omega), if_neg (by omega), List.append_nil]
            have hB9 := st.b
            have h9a : acs.map (fun y => y.2) = backA x l := by rw [hacs, HLA.out]
            clear st hacs
            by_cases hbig : 2000 < m
            · have hbig' : (2000 : Int) < ((m : Nat) : Int) := by omega
              have HE : Hid (backOk x l = false ∧ backS x l = []) := by
                have : backOk x l = false := by
                  unfold backOk
                  rw [decide_eq_false_iff_not]
                  intro hh
                  have e : (backA x l).length = m := by rw [← h9a, List.length_map]; exact HM.out
                  omega
                exact ⟨this, by unfold backS; rw [this]; rfl⟩
              have HB : Hid (Below w.heap.size w wr) := hB9
              clear h9a hsc hB9
              go_wp2_with fail
              go_ret2
              refine ⟨HB.out, .slice none 0 0, [], by rw [HE.out.1]; rfl, by rw [HE.out.2]; rfl, Sc.nil _ _ _⟩
            · have hbig' : ¬ ((2000 : Int) < ((m : Nat) : Int)) := by omega
              have HE : Hid (backOk x l = true ∧ backS x l = backA x l) := by
                have : backOk x l = true := by
                  unfold backOk
                  rw [decide_eq_true_iff]
                  have e : (backA x l).length = m := by rw [← h9a, List.length_map]; exact HM.out
                  exact ⟨by rw [HNN.out]; omega, by rw [HNN.out]; omega, by omega⟩
                exact ⟨this, by unfold backS; rw [this]; rfl⟩
              have HB : Hid (Below w.heap.size w wr ∧ acs.map (fun y => y.2) = backA x l ∧ Sc wr w.heap.size wr.heap.size (.slice av m cv) acs) := ⟨hB9, h9a, hsc⟩
              clear h9a hsc hB9
              go_wp2_with fail
              go_ret2
              exact ⟨HB.out.1, _, acs, by rw [HE.out.1]; rfl, by rw [HE.out.2]; exact HB.out.2.1, HB.out.2.2⟩
  · have HE : Hid (backOk x l = false ∧ backS x l = []) := by
      have : backOk x l = false := by
        unfold backOk
        rw [decide_eq_false_iff_not]
        intro hh
        rw [HNN.out] at hh
        omega
      exact ⟨this, by unfold backS; rw [this]; rfl⟩
    go_enter Try.func5, Try.ntmps5
    go_upto_region 1 with fail
    generalize w.alloc (.cells #[.int .i64 x.fin, .int .i64 x.code, .int .i64 x.who, .int .i64 x.mod, .int .i64 x.low, .int .i64 x.steps, .slice a6 n6 c6, .slice a7 n7 c7, .slice a8 n8 c8, .slice a9 n9 c9, .slice a10 n10 c10] 35 (0, 0)) = w1 at *
    clear xR
    by_cases hr1 : n < 1
    · have l1 : (n : Int) < 1 := by omega
      go_wp2_with fail
      go_ret2
      exact ⟨yR, .slice none 0 0, [], by rw [HE.out.1]; rfl, by rw [HE.out.2]; rfl, Sc.nil _ _ _⟩
    · have l1 : ¬ ((n : Int) < 1) := by omega
      have l2 : (n : Int) > 8 := by omega
      go_wp2_with fail
      go_ret2
      exact ⟨yR, .slice none 0 0, [], by rw [HE.out.1]; rfl, by rw [HE.out.2]; rfl, Sc.nil _ _ _⟩

end Go.Proofs.Ytpkbeeicffoaoaa

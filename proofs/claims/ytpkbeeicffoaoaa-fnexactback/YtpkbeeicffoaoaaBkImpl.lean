/- What bytes did, as a script: the program's body. By mkbkimpl.py. -/
import Derived.Test.YtpkbeeicffoaoaaBkSeq
namespace Go.Proofs.Ytpkbeeicffoaoaa
open Go.RowKit Go.Shelf
set_option linter.unusedVariables false
set_option linter.unusedSimpArgs false
set_option maxRecDepth 100000
attribute [local go_sem] Oper.semAt_some

theorem Sc.own {A C : World} {lo hi : Nat} {v : Value} {l : List (Value × Ac)} {row : Option Nat} (h : Sc A lo hi v l) (hg : A.grownBy C row) (hr : ∀ r, row = some r → ∃ o : Obj, A.heap[r]? = some o ∧ o.isCells = false) : Sc C lo hi v l :=
  h.keep fun g T _ _ ⟨c, hc⟩ _ => hg.block g (Array.getElem?_eq_some_iff.1 hc).1 (fun e => by
    obtain ⟨o, ho, hn⟩ := hr g e.symm
    rw [hc] at ho
    cases ho
    cases hn)
theorem Pc.ownr {A C : World} {T k lo hi n : Nat} {v : Value} {xs : List Value} {row : Option Nat} (h : Pc A T k lo hi v n xs) (hg : A.grownBy C row) (hr : ∀ r, row = some r → ∃ o : Obj, A.heap[r]? = some o ∧ o.isCells = false) : Pc C T k lo hi v n xs :=
  h.stays fun g _ _ ⟨c, hc⟩ => hg.block g (Array.getElem?_eq_some_iff.1 hc).1 (fun e => by
    obtain ⟨o, ho, hn⟩ := hr g e.symm
    rw [hc] at ho
    cases ho
    cases hn)

/-- Where the script stands. -/
structure Iz (w : World) (g4 g5 g6 : Nat) (pre : List AcR) (W : World) : Prop where
  ex : ∃ v acs, Blk W g6 29 [v] ∧ acs.map (fun z : Value × Ac => z.2) = pre.map AcR.ac ∧ Sc W w.heap.size W.heap.size v acs
  few : pre.length ≤ 2000
  r1 : Blk W g4 29 [.slice none 0 0]
  r2 : Blk W g5 4 [.bool false]
  b : Below w.heap.size w W
theorem Iz.own {w A C : World} {g4 g5 g6 : Nat} {pre : List AcR} {row : Option Nat} (h : Iz w g4 g5 g6 pre A) (hg : A.grownBy C row) (hr : ∀ r, row = some r → w.heap.size ≤ r ∧ ∃ o : Obj, A.heap[r]? = some o ∧ o.isCells = false) : Iz w g4 g5 g6 pre C := by
  obtain ⟨v, acs, h1, h2, h3⟩ := h.ex
  have hr' := fun r e => (hr r e).2
  exact ⟨⟨v, acs, blk_own h1 hg hr', h2, (h3.own hg hr').wide (Nat.le_refl _) hg.size⟩, h.few, blk_own h.r1 hg hr', blk_own h.r2 hg hr', h.b.grown hg h.b.size (fun k hk => (hr k hk).1)⟩
/-- An action has come. -/
structure Ay (w : World) (g4 g5 g6 : Nat) (pre : List AcR) (y : AcR) (Bx : Nat) (W : World) : Prop where
  ex : ∃ v acs c0, Blk W g6 29 [v] ∧ acs.map (fun z : Value × Ac => z.2) = pre.map AcR.ac ∧ Sc W w.heap.size c0 v acs ∧ w.heap.size ≤ c0 ∧ c0 ≤ W.heap.size ∧ Pc W 89 2 c0 W.heap.size (.slice y.a y.n y.c) y.ac.args.length (flatG y.ac.args)
  few : pre.length ≤ 2000
  bX : Blk W Bx 53 [.int .i64 y.ac.kind, .int .i64 y.ac.to, .int .i64 y.ac.proc, .slice y.a y.n y.c, .int .i64 y.ac.n]
  r1 : Blk W g4 29 [.slice none 0 0]
  r2 : Blk W g5 4 [.bool false]
  b : Below w.heap.size w W
theorem Ay.own {w A C : World} {g4 g5 g6 Bx : Nat} {pre : List AcR} {y : AcR} {row : Option Nat} (h : Ay w g4 g5 g6 pre y Bx A) (hg : A.grownBy C row) (hr : ∀ r, row = some r → w.heap.size ≤ r ∧ ∃ o : Obj, A.heap[r]? = some o ∧ o.isCells = false) : Ay w g4 g5 g6 pre y Bx C := by
  obtain ⟨v, acs, c0, h1, h2, h3, h4, h5, h6⟩ := h.ex
  have hr' := fun r e => (hr r e).2
  exact ⟨⟨v, acs, c0, blk_own h1 hg hr', h2, h3.own hg hr', h4, Nat.le_trans h5 hg.size, (h6.ownr hg hr').wide (Nat.le_refl _) hg.size⟩, h.few, blk_own h.bX hg hr', blk_own h.r1 hg hr', blk_own h.r2 hg hr', h.b.grown hg h.b.size (fun k hk => (hr k hk).1)⟩
theorem Iz.come {w X0 X : World} {g4 g5 g6 : Nat} {pre : List AcR} {y : AcR} (h : Iz w g4 g5 g6 pre X0) (hb : Below X0.heap.size X0 X) (hx : y.Xp X0 X) : Ay w g4 g5 g6 pre y X.heap.size (X.alloc (.cells #[.int .i64 y.ac.kind, .int .i64 y.ac.to, .int .i64 y.ac.proc, .slice y.a y.n y.c, .int .i64 y.ac.n] 53 (0, 0))) := by
  obtain ⟨v, acs, h1, h2, h3⟩ := h.ex
  have yA : Below X.heap.size X (X.alloc (.cells #[.int .i64 y.ac.kind, .int .i64 y.ac.to, .int .i64 y.ac.proc, .slice y.a y.n y.c, .int .i64 y.ac.n] 53 (0, 0))) := (Below.refl _ _).alloc (Nat.le_refl _) _
  have Y : Below X0.heap.size X0 (X.alloc (.cells #[.int .i64 y.ac.kind, .int .i64 y.ac.to, .int .i64 y.ac.proc, .slice y.a y.n y.c, .int .i64 y.ac.n] 53 (0, 0))) := hb.trans (yA.mono hb.size)
  exact ⟨⟨v, acs, X0.heap.size, blk_below h1 Y, h2, h3.below Y, h.b.size, Y.size, (hx.stays (fun g _ k _ => yA.block g k)).wide (Nat.le_refl _) yA.size⟩, h.few, Blk.new X _ _, blk_below h.r1 Y, blk_below h.r2 Y, h.b.trans (Y.mono h.b.size)⟩

theorem Ay.push {w X X1 X2 : World} {g4 g5 g6 Bx m c0 : Nat} {pre : List AcR} {y : AcR} {v v' : Value} {acs : List (Value × Ac)} (h : Ay w g4 g5 g6 pre y Bx X) (h1 : Blk X g6 29 [v]) (h2 : acs.map (fun z : Value × Ac => z.2) = pre.map AcR.ac) (h3 : Sc X w.heap.size c0 v acs) (h4 : w.heap.size ≤ c0) (h5 : c0 ≤ X.heap.size) (h6 : Pc X 89 2 c0 X.heap.size (.slice y.a y.n y.c) y.ac.args.length (flatG y.ac.args))
    (hX1 : Below X.heap.size X X1) (hm : acs.length = m) (hm2 : m + 1 ≤ 2000) (ho : X2.ownsRow w.heap.size 53 5 v' (m + 1) (flatA acs ++ y.ac.vals (.slice y.a y.n y.c))) (hg : X1.grownBy X2 v.ownBlock) (hg46 : g4 ≠ g6) (hw6 : w.heap.size ≤ g6) :
    Blk X2 g6 29 [v] ∧ Iz w g4 g5 g6 (pre ++ [y]) (X2.setCell ⟨g6, 0, none⟩ v') ∧ KeepsOthers X (X2.setCell ⟨g6, 0, none⟩ v') ∧ Ke w.heap.size X (X2.setCell ⟨g6, 0, none⟩ v') := by
  have s1 := h3.below hX1
  have p1 : Pc X1 89 2 c0 X1.heap.size (.slice y.a y.n y.c) y.ac.args.length (flatG y.ac.args) := (h6.stays (fun g _ k _ => hX1.block g k)).wide (Nat.le_refl _) hX1.size
  have s2 := s1.push (r := y.ac) h4 (Nat.le_refl _) p1 (Nat.le_trans h5 hX1.size) (by rw [hm]; exact ho) hg
  have o1 : ∀ {g T : Nat} {vs : List Value}, Blk X g T vs → T ≠ 53 → Blk X2 g T vs := fun hb hT => s1.blk hg (blk_below hb hX1) hT
  have e6 := o1 h1 (by decide)
  have hlen : pre.length = acs.length := by have := congrArg List.length h2; simpa using this.symm
  have hb1 := h.b.trans (hX1.mono h.b.size)
  refine ⟨e6, ⟨⟨v', acs ++ [(.slice y.a y.n y.c, y.ac)], e6.set (i := 0) v', by rw [List.map_append, List.map_append, h2]; rfl, ?_⟩, by rw [List.length_append]; simp; omega, (o1 h.r1 (by decide)).other hg46, (o1 h.r2 (by decide)).other ?_, ?_⟩, ?_, ?_⟩
  · have := s2.put (i := 0) (u := v') e6 (by decide) (by decide)
    rw [show (X2.setCell ⟨g6, 0, none⟩ v').heap.size = X2.heap.size by simp]
    exact this
  · intro e9
    have b5 := o1 h.r2 (by decide)
    rw [e9] at b5
    exact absurd (typ_ne b5 e6) (by decide)
  · exact (hb1.grown hg hb1.size (fun k hk => (s1.row.own.lt k hk).1)).setCell (p := ⟨g6, 0, none⟩) hw6 _
  · exact (KeepsOthers.of_grownBy (grown_below hX1 none) (fun j o hj _ => by cases hj)).trans ((KeepsOthers.of_grownBy hg (fun j o hj ho => by
      obtain ⟨cur, hc⟩ := owns_type s1.row.own hj
      rw [hc] at ho
      cases ho
      rfl)).trans (KeepsOthers.setCell _ _ _))
  · have hs : (X2.setCell ⟨g6, 0, none⟩ v').heap.size = X2.heap.size := by simp
    have k1 := Ke.below (n0 := w.heap.size) hX1 h.b.size
    refine k1.trans ⟨hg.os, hg.tape, hg.output, by rw [hs]; exact hg.size, fun k hk => ?_, fun k cc T f hc hT1 hT2 => ?_⟩
    · rw [heap_setCell_other X2 ⟨g6, 0, none⟩ k v' (by show k ≠ g6; omega)]
      exact hg.block k (Nat.lt_of_lt_of_le hk hb1.size) (fun e => by have := (s1.row.own.lt k e.symm).1; omega)
    · have hne : k ≠ g6 := fun e => by
        subst e
        rw [show X1.heap[k]? = _ from blk_below h1 hX1] at hc
        simp only [Option.some.injEq, Obj.cells.injEq] at hc
        exact hT2 hc.2.1.symm
      rw [heap_setCell_other X2 ⟨g6, 0, none⟩ k v' hne]
      refine hg.block k (Array.getElem?_eq_some_iff.1 hc).1 fun e => ?_
      obtain ⟨cur, hc'⟩ := owns_type s1.row.own e.symm
      rw [hc'] at hc
      simp only [Option.some.injEq, Obj.cells.injEq] at hc
      exact hT1 hc.2.1.symm

set_option maxHeartbeats 8000000 in
theorem implBack (x : Rs) (l : List Bool) (vs : List Value) (a : Option Addr) (n c : Nat) (w : World) (h : RdVals w x.fl vs) (hL : LRow w a c 1 (tfs l)) (hn : l.length = n) (hs : recLen x.fl ≤ 1048576) (h9 : n ≤ 1048576) :
    Calls Try.prog 8 #[.agg vs.toArray, .slice a n c] w (BkFin x l w) := by
  have hV := h
  obtain ⟨a6, c6, a7, n7, c7, a8, n8, c8, a9, n9, c9, a10, n10, c10, rfl, hE⟩ := rsShape h
  have e1 : recLen x.fl = ((x.ev.map Ev.fl).length + rowsLen (x.ev.map Ev.fl)) + ((x.regs.map Wo.fl).length + rowsLen (x.regs.map Wo.fl)) + ((x.words.map Wo.fl).length + rowsLen (x.words.map Wo.fl)) + x.wrote.length + x.read.length := by simp [Rs.fl, recLen, Fl.len] <;> omega
  have hel : x.ev.length ≤ 1048576 := by rw [e1, List.length_map] at hs; omega
  have hag : ∀ e ∈ x.ev, e.args.length ≤ 1048576 := fun e he => by
    have := rec_le (f := Ev.fl) he
    have e2 : recLen e.fl = (e.args.map Ag.fl).length + rowsLen (e.args.map Ag.fl) := by simp [Ev.fl, recLen, Fl.len]
    rw [e2, List.length_map] at this
    omega
  obtain ⟨n6, hn6⟩ : ∃ z, z = x.ev.length := ⟨_, rfl⟩
  have HN6 : Hid (x.ev.length = n6) := hn6.symm
  rw [← hn6] at hel hV ⊢
  clear hn6
  have HNN : Hid (l.length = n) := hn
  have xR := ((Blk.new w 35 [.int .i64 x.fin, .int .i64 x.code, .int .i64 x.who, .int .i64 x.mod, .int .i64 x.low, .int .i64 x.steps, .slice a6 n6 c6, .slice a7 n7 c7, .slice a8 n8 c8, .slice a9 n9 c9, .slice a10 n10 c10]).old (o := .cells #[.slice none 0 0] 29 (0, 0))).old (o := .cells #[.bool false] 4 (0, 0))
  have x4 := (Blk.new (w.alloc (.cells #[.int .i64 x.fin, .int .i64 x.code, .int .i64 x.who, .int .i64 x.mod, .int .i64 x.low, .int .i64 x.steps, .slice a6 n6 c6, .slice a7 n7 c7, .slice a8 n8 c8, .slice a9 n9 c9, .slice a10 n10 c10] 35 (0, 0))) 29 [.slice none 0 0]).old (o := .cells #[.bool false] 4 (0, 0))
  have x5 := Blk.new ((w.alloc (.cells #[.int .i64 x.fin, .int .i64 x.code, .int .i64 x.who, .int .i64 x.mod, .int .i64 x.low, .int .i64 x.steps, .slice a6 n6 c6, .slice a7 n7 c7, .slice a8 n8 c8, .slice a9 n9 c9, .slice a10 n10 c10] 35 (0, 0))).alloc (.cells #[.slice none 0 0] 29 (0, 0))) 4 [.bool false]
  have y3 : Below w.heap.size w (((w.alloc (.cells #[.int .i64 x.fin, .int .i64 x.code, .int .i64 x.who, .int .i64 x.mod, .int .i64 x.low, .int .i64 x.steps, .slice a6 n6 c6, .slice a7 n7 c7, .slice a8 n8 c8, .slice a9 n9 c9, .slice a10 n10 c10] 35 (0, 0))).alloc (.cells #[.slice none 0 0] 29 (0, 0))).alloc (.cells #[.bool false] 4 (0, 0))) := (((Below.refl _ _).alloc (Nat.le_refl _) _).alloc (by simp) _).alloc (by simp; omega) _
  have s3 : (((w.alloc (.cells #[.int .i64 x.fin, .int .i64 x.code, .int .i64 x.who, .int .i64 x.mod, .int .i64 x.low, .int .i64 x.steps, .slice a6 n6 c6, .slice a7 n7 c7, .slice a8 n8 c8, .slice a9 n9 c9, .slice a10 n10 c10] 35 (0, 0))).alloc (.cells #[.slice none 0 0] 29 (0, 0))).alloc (.cells #[.bool false] 4 (0, 0))).heap.size = w.heap.size + 1 + 1 + 1 := by simp
  simp only [List.toArray, World.size_alloc] at xR x4 x5
  have HR := inRangeC (n : Int) 1 8 (((w.alloc (.cells #[.int .i64 x.fin, .int .i64 x.code, .int .i64 x.who, .int .i64 x.mod, .int .i64 x.low, .int .i64 x.steps, .slice a6 n6 c6, .slice a7 n7 c7, .slice a8 n8 c8, .slice a9 n9 c9, .slice a10 n10 c10] 35 (0, 0))).alloc (.cells #[.slice none 0 0] 29 (0, 0))).alloc (.cells #[.bool false] 4 (0, 0)))
  clear h e1
  refine callsIn_wide (n := 0) |>.1 ?_
  refine callsIn_of_wp_marks Try.func8 rfl trivial ?_ rfl
  simp only [Try.ntmps8, List.size_toArray, List.length_cons, List.length_nil, Nat.reduceAdd, Nat.reduceSub, Array.replicate_succ, Array.replicate_zero, List.push_toArray, List.append_toArray, List.nil_append, List.cons_append]
  gi_upto_region 1 with fail
  generalize (((w.alloc (.cells #[.int .i64 x.fin, .int .i64 x.code, .int .i64 x.who, .int .i64 x.mod, .int .i64 x.low, .int .i64 x.steps, .slice a6 n6 c6, .slice a7 n7 c7, .slice a8 n8 c8, .slice a9 n9 c9, .slice a10 n10 c10] 35 (0, 0))).alloc (.cells #[.slice none 0 0] 29 (0, 0))).alloc (.cells #[.bool false] 4 (0, 0))) = w3 at *
  obtain ⟨gR, hgR⟩ : ∃ z, z = w.heap.size := ⟨_, rfl⟩
  obtain ⟨g4, hg4⟩ : ∃ z, z = w.heap.size + 1 := ⟨_, rfl⟩
  obtain ⟨g5, hg5⟩ : ∃ z, z = w.heap.size + 1 + 1 := ⟨_, rfl⟩
  rw [← hg5] at x5
  rw [← hg4] at x4
  rw [← hgR] at xR
  first | rw [← hg5] | skip
  first | rw [← hg4] | skip
  first | rw [← hgR] | skip
  have hq : gR ≤ w.heap.size ∧ w.heap.size ≤ gR ∧ w.heap.size + 1 ≤ g4 ∧ g4 ≤ w.heap.size + 1 ∧ w.heap.size + 2 ≤ g5 ∧ g5 ≤ w.heap.size + 2 ∧ w.heap.size + 3 ≤ w3.heap.size ∧ w3.heap.size ≤ w.heap.size + 3 := by omega
  clear hgR hg4 hg5 s3
  by_cases hr : 1 ≤ n ∧ n ≤ 8
  · have e9 : (decide ((1 : Int) ≤ (n : Int)) && decide ((n : Int) ≤ 8)) = true := by simp; omega
    rw [e9] at HR
    clear e9
    have xR4 := xR.old (o := .cells #[.slice none 0 0] 29 (0, 0))
    have x44 := x4.old (o := .cells #[.slice none 0 0] 29 (0, 0))
    have x54 := x5.old (o := .cells #[.slice none 0 0] 29 (0, 0))
    have x64 := Blk.new w3 29 [.slice none 0 0]
    have y4 : Below w.heap.size w (w3.alloc (.cells #[.slice none 0 0] 29 (0, 0))) := y3.alloc y3.size _
    have HC := actionsOfC [.int .i64 x.fin, .int .i64 x.code, .int .i64 x.who, .int .i64 x.mod, .int .i64 x.low, .int .i64 x.steps, .slice a6 n6 c6, .slice a7 n7 c7, .slice a8 n8 c8, .slice a9 n9 c9, .slice a10 n10 c10] ⟨_, _, _, _, _, _, _, _, _, _, _, rfl⟩ a n c (w3.alloc (.cells #[.slice none 0 0] 29 (0, 0)))
    simp only [List.toArray, World.size_alloc] at HC x64
    have q0 := xR4.cell (i := 0) rfl
    have q1 := xR4.cell (i := 1) rfl
    have q2 := xR4.cell (i := 2) rfl
    have q3 := xR4.cell (i := 3) rfl
    have q4 := xR4.cell (i := 4) rfl
    have q5 := xR4.cell (i := 5) rfl
    have q6 := xR4.cell (i := 6) rfl
    have q7 := xR4.cell (i := 7) rfl
    have q8 := xR4.cell (i := 8) rfl
    have q9 := xR4.cell (i := 9) rfl
    have q10 := xR4.cell (i := 10) rfl
    gi_wp2_with (refine ⟨trivial, rfl, ?_⟩; gi_at_call 23; refine (callsIn_wide.2 HR).mono ?_; clear HR; rintro e w3 ⟨rfl, rfl⟩)
    refine ⟨trivial, rfl, ?_⟩
    gi_at_call 24
    refine (callsIn_wide.2 HC).mono ?_
    rintro e W0 ⟨rfl, hW0⟩
    have X4 : Blk W0 g4 29 [.slice none 0 0] := by rw [hW0]; exact x44.old.old
    have X5 : Blk W0 g5 4 [.bool false] := by rw [hW0]; exact x54.old.old
    have X6 : Blk W0 w3.heap.size 29 [.slice none 0 0] := by rw [hW0]; exact x64.old.old
    have X7 : Blk W0 (w3.heap.size + 1) 35 [.int .i64 x.fin, .int .i64 x.code, .int .i64 x.who, .int .i64 x.mod, .int .i64 x.low, .int .i64 x.steps, .slice a6 n6 c6, .slice a7 n7 c7, .slice a8 n8 c8, .slice a9 n9 c9, .slice a10 n10 c10] := by
      rw [hW0]
      have := (Blk.new (w3.alloc (.cells #[.slice none 0 0] 29 (0, 0))) 35 [.int .i64 x.fin, .int .i64 x.code, .int .i64 x.who, .int .i64 x.mod, .int .i64 x.low, .int .i64 x.steps, .slice a6 n6 c6, .slice a7 n7 c7, .slice a8 n8 c8, .slice a9 n9 c9, .slice a10 n10 c10]).old (o := .cells #[.slice a n c] 27 (0, 0))
      rw [World.size_alloc] at this
      exact this
    have X8 : Blk W0 (w3.heap.size + 1 + 1) 27 [.slice a n c] := by
      rw [hW0]
      have := Blk.new ((w3.alloc (.cells #[.slice none 0 0] 29 (0, 0))).alloc (.cells #[.int .i64 x.fin, .int .i64 x.code, .int .i64 x.who, .int .i64 x.mod, .int .i64 x.low, .int .i64 x.steps, .slice a6 n6 c6, .slice a7 n7 c7, .slice a8 n8 c8, .slice a9 n9 c9, .slice a10 n10 c10] 35 (0, 0))) 27 [.slice a n c]
      rw [World.size_alloc, World.size_alloc] at this
      exact this
    have Y0 : Below w.heap.size w W0 := by rw [hW0]; exact (y4.alloc y4.size _).alloc (by have := y4.size; simp; simp at this; omega) _
    have S0 : w.heap.size + 6 ≤ W0.heap.size := by rw [hW0]; simp; omega
    obtain ⟨g6, hg6⟩ : ∃ z, z = w3.heap.size := ⟨_, rfl⟩
    obtain ⟨g7, hg7⟩ : ∃ z, z = w3.heap.size + 1 := ⟨_, rfl⟩
    obtain ⟨g8, hg8⟩ : ∃ z, z = w3.heap.size + 1 + 1 := ⟨_, rfl⟩
    rw [← hg8] at X8
    rw [← hg7] at X7
    rw [← hg6] at X6
    first | rw [← hg8] | skip
    first | rw [← hg7] | skip
    first | rw [← hg6] | skip
    have hq6 : w.heap.size + 3 ≤ g6 := by omega
    clear hg6 hg7 hg8 hW0 HC xR4 x44 x54 x64 y4 q0 q1 q2 q3 q4 q5 q6 q7 q8 q9 q10 xR x4 x5
    gi_wp2_with fail
    refine rangeO (gf := 37) (lb := #[.pointer (some ⟨g7, 0, none⟩), .pointer (some ⟨g8, 0, none⟩)]) rfl (enters_of Try.func37 (by kernel_rfl) rfl)
      (actionsSeq w W0 g7 g8 x l a6 n6 c6 a7 n7 c7 a8 n8 c8 a9 n9 c9 a10 n10 c10 a n c hV hE HN6.out hag hL hn hr.1 hr.2 Y0 X7 X8) (Below.refl _ _) Ke.trans (Ke.obj (w := W0) Y0.size) (fun _ => rfl)
      (fun pre W' => Iz w g4 g5 g6 pre W')
      (fun cd pre W' => cd = .ret ∧ 2001 ≤ pre.length ∧ Blk W' g4 29 [.slice none 0 0] ∧ Blk W' g5 4 [.bool false] ∧ Below w.heap.size w W')
      (fun s A C row hs hg hr => hs.own hg (fun r e => ⟨Nat.le_trans Y0.size (hr r e).1, (hr r e).2⟩))
      (fun cd s A C row hs hg hr => ⟨hs.1, hs.2.1, blk_own hs.2.2.1 hg (fun r e => (hr r e).2), blk_own hs.2.2.2.1 hg (fun r e => (hr r e).2), hs.2.2.2.2.grown hg hs.2.2.2.2.size (fun k hk => Nat.le_trans Y0.size (hr k hk).1)⟩)
      ⟨⟨_, [], X6, rfl, Sc.nil _ _ _⟩, by simp, X4, X5, Y0⟩
      (fun pre y a' W' => ∃ Bx, Ay w g4 g5 g6 pre y Bx W' ∧ a' = { tmps := #[.agg #[.int .i64 x.fin, .int .i64 x.code, .int .i64 x.who, .int .i64 x.mod, .int .i64 x.low, .int .i64 x.steps, .slice a6 n6 c6, .slice a7 n7 c7, .slice a8 n8 c8, .slice a9 n9 c9, .slice a10 n10 c10], .slice a n c, .pointer (some ⟨gR, 0, none⟩), undef, .pointer (some ⟨g4, 0, none⟩), .pointer (some ⟨g5, 0, none⟩), .pointer (some ⟨g6, 0, none⟩), .pointer (some ⟨Bx, 0, none⟩), .slice a n c, .int .i64 n, .bool true, .bool false, .agg #[.int .i64 x.fin, .int .i64 x.code, .int .i64 x.who, .int .i64 x.mod, .int .i64 x.low, .int .i64 x.steps, .slice a6 n6 c6, .slice a7 n7 c7, .slice a8 n8 c8, .slice a9 n9 c9, .slice a10 n10 c10], .slice a n c, .func (.func 37) #[] #[.pointer (some ⟨g7, 0, none⟩), .pointer (some ⟨g8, 0, none⟩)], y.enc, undef, undef, undef, undef, undef, undef, undef, undef], defers := [] })
      (fun pre y a' _ A C row hs hg hr => by obtain ⟨Bx, h2, h4⟩ := hs; exact ⟨Bx, h2.own hg (fun r e => ⟨Nat.le_trans Y0.size (hr r e).1, (hr r e).2⟩), h4⟩)
      ?assign ?body ?done ?stop
    case assign =>
      rintro l' pre y Z0 X K hI0 hX0 hXp hK
      have HK : Hid (∀ a' W', KeepsFrom W0.heap.size X W' → Ke w.heap.size X W' → (∃ Bx, Ay w g4 g5 g6 pre y Bx W' ∧ a' = { tmps := #[.agg #[.int .i64 x.fin, .int .i64 x.code, .int .i64 x.who, .int .i64 x.mod, .int .i64 x.low, .int .i64 x.steps, .slice a6 n6 c6, .slice a7 n7 c7, .slice a8 n8 c8, .slice a9 n9 c9, .slice a10 n10 c10], .slice a n c, .pointer (some ⟨gR, 0, none⟩), undef, .pointer (some ⟨g4, 0, none⟩), .pointer (some ⟨g5, 0, none⟩), .pointer (some ⟨g6, 0, none⟩), .pointer (some ⟨Bx, 0, none⟩), .slice a n c, .int .i64 n, .bool true, .bool false, .agg #[.int .i64 x.fin, .int .i64 x.code, .int .i64 x.who, .int .i64 x.mod, .int .i64 x.low, .int .i64 x.steps, .slice a6 n6 c6, .slice a7 n7 c7, .slice a8 n8 c8, .slice a9 n9 c9, .slice a10 n10 c10], .slice a n c, .func (.func 37) #[] #[.pointer (some ⟨g7, 0, none⟩), .pointer (some ⟨g8, 0, none⟩)], y.enc, undef, undef, undef, undef, undef, undef, undef, undef], defers := [] }) → K a' W') := hK
      have yE : Below X.heap.size X (X.alloc (.cells #[.int .i64 y.ac.kind, .int .i64 y.ac.to, .int .i64 y.ac.proc, .slice y.a y.n y.c, .int .i64 y.ac.n] 53 (0, 0))) := (Below.refl _ _).alloc (Nat.le_refl _) _
      have HF : Hid _ := And.intro (hI0.come hX0 hXp) (Ke.below (n0 := w.heap.size) yE (Nat.le_trans hI0.b.size hX0.size))
      clear hK hI0 yE hX0 hXp
      simp only [AcR.enc]
      gi_wp2_with fail
      exact HK.out _ _ ((KeepsOthers.alloc _ _).from _) HF.out.2 ⟨X.heap.size, HF.out.1, rfl⟩
    case body =>
      rintro l' pre y a' X hl ⟨Bx, hA, rfl⟩ hlt
      obtain ⟨v, acs, c0, h1, h2, h3, h4, h5, h6⟩ := hA.ex
      obtain ⟨av, cv, rfl, _, _, _, _⟩ := owns_shape h3.row.own
      have hlen : pre.length = acs.length := by have := congrArg List.length h2; simpa using this.symm
      obtain ⟨m, hm⟩ : ∃ z, z = acs.length := ⟨_, rfl⟩
      have HM : Hid (acs.length = m) := hm.symm
      rw [← hm] at h1 h3
      have hmp : m ≤ 2000 ∧ pre.length ≤ m ∧ m ≤ pre.length := by have := hA.few; omega
      clear hm
      have p6 := h1.cell (i := 0) rfl
      by_cases hbig : m = 2000
      · have hbg : ((m : Int) == 2000) = true := by simp; omega
        have c4 := hA.r1.cell (i := 0) rfl
        have c5 := hA.r2.cell (i := 0) rfl
        have f4 := hA.r1.free 0
        have f5 := hA.r2.free 0
        have HF : Hid (2001 ≤ (pre ++ [y]).length ∧ Blk ((X.setCell ⟨g4, 0, none⟩ (.slice none 0 0)).setCell ⟨g5, 0, none⟩ (.bool false)) g4 29 [.slice none 0 0] ∧ Blk ((X.setCell ⟨g4, 0, none⟩ (.slice none 0 0)).setCell ⟨g5, 0, none⟩ (.bool false)) g5 4 [.bool false] ∧ Below w.heap.size w ((X.setCell ⟨g4, 0, none⟩ (.slice none 0 0)).setCell ⟨g5, 0, none⟩ (.bool false))) :=
          ⟨by simp; omega, (hA.r1.set (i := 0) _).other (by omega), (hA.r2.other (by omega)).set (i := 0) _, (hA.b.setCell (p := ⟨g4, 0, none⟩) (by show _ ≤ g4; omega) _).setCell (p := ⟨g5, 0, none⟩) (by show _ ≤ g5; omega) _⟩
        clear hA h1 h2 h3 h4 h5 h6 hlt hl hbig
        gi_wp2_with fail
        exact ⟨((KeepsOthers.setCell _ _ _).trans (KeepsOthers.setCell _ _ _)).from _, rfl, HF.out⟩
      · have hbg : ((m : Int) == 2000) = false := by simp; omega
        have t0 := hA.bX.cell (i := 0) rfl
        have t1 := hA.bX.cell (i := 1) rfl
        have t2 := hA.bX.cell (i := 2) rfl
        have t3 := hA.bX.cell (i := 3) rfl
        have t4 := hA.bX.cell (i := 4) rfl
        have xN := Blk.new X 53 [.int .i64 y.ac.kind, .int .i64 y.ac.to, .int .i64 y.ac.proc, .slice y.a y.n y.c, .int .i64 y.ac.n]
        have yN : Below X.heap.size X (X.alloc (.cells #[.int .i64 y.ac.kind, .int .i64 y.ac.to, .int .i64 y.ac.proc, .slice y.a y.n y.c, .int .i64 y.ac.n] 53 (0, 0))) := (Below.refl _ _).alloc (Nat.le_refl _) _
        have sN := (h3.below yN).row.own
        rw [HM.out] at sN
        have hNs := Nat.le_trans hA.b.size yN.size
        have HP : Hid (∀ (v' : Value) (X2 : World), X2.ownsRow w.heap.size 53 5 v' (m + 1) (flatA acs ++ y.ac.vals (.slice y.a y.n y.c)) → World.grownBy (X.alloc (.cells #[.int .i64 y.ac.kind, .int .i64 y.ac.to, .int .i64 y.ac.proc, .slice y.a y.n y.c, .int .i64 y.ac.n] 53 (0, 0))) X2 (Value.ownBlock (.slice av m cv)) → Blk X2 g6 29 [.slice av m cv] ∧ Iz w g4 g5 g6 (pre ++ [y]) (X2.setCell ⟨g6, 0, none⟩ v') ∧ KeepsOthers X (X2.setCell ⟨g6, 0, none⟩ v') ∧ Ke w.heap.size X (X2.setCell ⟨g6, 0, none⟩ v')) := fun v' X2 ho hg => hA.push h1 h2 h3 h4 h5 h6 yN HM.out (by omega) ho hg (by omega) (by omega)
        simp only [List.toArray] at xN
        have hle : m ≤ 1073741824 := by omega
        clear hA h1 h2 h3 h4 h5 h6 hlt hl hbig
        gi_wp2_with (gi_at_builtin; refine wpListIn_appendAc rfl _ _ rfl w.heap.size _ m acs rfl sN X.heap.size (.slice y.a y.n y.c) y.ac rfl xN rfl hle hNs ?_)
        intro v' X2 ho hg
        obtain ⟨b6, hI9, hK9, hE9⟩ := HP.out v' X2 ho hg
        obtain ⟨a9', c9', rfl, _, _, _, _⟩ := owns_shape ho
        have cc6 := b6.cell (i := 0) rfl
        have ff6 := b6.free 0
        have HF : Hid _ := And.intro hI9 (And.intro hK9 hE9)
        clear HP ho hg b6 hI9 hK9 hE9 sN xN yN hNs t0 t1 t2 t3 t4 p6
        gi_wp2_with fail
        exact ⟨HF.out.2.1.from _, HF.out.2.2, HF.out.1⟩
    case done =>
      rintro D ys X hD hS hI hK
      obtain ⟨v, acs, h1, h2, h3⟩ := hI.ex
      obtain ⟨av, cv, rfl, _, _, _, _⟩ := owns_shape h3.row.own
      have HE : Hid (backOk x l = true ∧ backS x l = backA x l) := by
        have : backOk x l = true := by
          unfold backOk
          rw [decide_eq_true_iff]
          have := hI.few
          have e : (backA x l).length = ys.length := by rw [← hS, List.length_map]
          exact ⟨by rw [HNN.out]; omega, by rw [HNN.out]; omega, by omega⟩
        exact ⟨this, by unfold backS; rw [this]; rfl⟩
      have HS : Hid (acs.map (fun z : Value × Ac => z.2) = backA x l) := by show _ = _; rw [h2, hS]
      generalize acs.length = m at *
      have c6' := h1.cell (i := 0) rfl
      have c4 := hI.r1.cell (i := 0) rfl
      have c5 := hI.r2.cell (i := 0) rfl
      have f4 := hI.r1.free 0
      have f5 := hI.r2.free 0
      have Z4 : Blk ((X.setCell ⟨g4, 0, none⟩ (.slice av m cv)).setCell ⟨g5, 0, none⟩ (.bool true)) g4 29 [.slice av m cv] := (hI.r1.set (i := 0) _).other (by omega)
      have Z5 : Blk ((X.setCell ⟨g4, 0, none⟩ (.slice av m cv)).setCell ⟨g5, 0, none⟩ (.bool true)) g5 4 [.bool true] := (hI.r2.other (by omega)).set (i := 0) _
      have ZB : Below w.heap.size w ((X.setCell ⟨g4, 0, none⟩ (.slice av m cv)).setCell ⟨g5, 0, none⟩ (.bool true)) := (hI.b.setCell (p := ⟨g4, 0, none⟩) (by show _ ≤ g4; omega) _).setCell (p := ⟨g5, 0, none⟩) (by show _ ≤ g5; omega) _
      have ZS : Sc ((X.setCell ⟨g4, 0, none⟩ (.slice av m cv)).setCell ⟨g5, 0, none⟩ (.bool true)) w.heap.size X.heap.size (.slice av m cv) acs := (h3.put hI.r1 (by decide) (by decide)).put (hI.r2.other (by omega)) (by decide) (by decide)
      have ZK := ((KeepsOthers.setCell X ⟨g4, 0, none⟩ (.slice av m cv)).trans (KeepsOthers.setCell _ ⟨g5, 0, none⟩ (.bool true))).same D _ hK rfl
      have zs9 : ((X.setCell ⟨g4, 0, none⟩ (.slice av m cv)).setCell ⟨g5, 0, none⟩ (.bool true)).heap.size = X.heap.size := by simp
      have HZ : Hid (Blk ((X.setCell ⟨g4, 0, none⟩ (.slice av m cv)).setCell ⟨g5, 0, none⟩ (.bool true)) g4 29 [.slice av m cv] ∧ Blk ((X.setCell ⟨g4, 0, none⟩ (.slice av m cv)).setCell ⟨g5, 0, none⟩ (.bool true)) g5 4 [.bool true] ∧ Below w.heap.size w ((X.setCell ⟨g4, 0, none⟩ (.slice av m cv)).setCell ⟨g5, 0, none⟩ (.bool true)) ∧ Sc ((X.setCell ⟨g4, 0, none⟩ (.slice av m cv)).setCell ⟨g5, 0, none⟩ (.bool true)) w.heap.size X.heap.size (.slice av m cv) acs) := ⟨Z4, Z5, ZB, ZS⟩
      clear h1 h2 h3 hI hS Z4 Z5 ZB ZS hK
      gi_wp2_with fail
      refine ⟨by simp, .inl ⟨_, _, rfl, run_takeDeferred ZK, ?_⟩⟩
      obtain ⟨Z4, Z5, ZB, ZS⟩ := HZ.out
      generalize (X.setCell ⟨g4, 0, none⟩ (.slice av m cv)).setCell ⟨g5, 0, none⟩ (.bool true) = X9 at *
      have hnc : ∀ r, some D = some r → ∃ o : Obj, X9.heap[r]? = some o ∧ o.isCells = false := fun r e => by cases e; exact ⟨_, ZK, rfl⟩
      have hg9 := grownBy_putObj' X9 D (.deferred none)
      have d4 := (blk_own Z4 hg9 hnc).cell (i := 0) rfl
      have d5 := (blk_own Z5 hg9 hnc).cell (i := 0) rfl
      refine ⟨.tuple #[.slice av m cv, .bool true], ?_, ?_⟩
      · simp only [results, Try.results8]
        simp [go_sem, d4, d5]
      · refine ⟨ZB.grown hg9 ZB.size (fun k hk => by cases hk; exact Nat.le_trans Y0.size hD), .slice av m cv, acs, by rw [HE.out.1], by rw [HE.out.2]; exact HS.out, ?_⟩
        rw [show (X9.putObj D (.deferred none)).heap.size = X.heap.size by simp [zs9]]
        exact ZS.own hg9 hnc
    case stop =>
      rintro D cd pre X hD hS ⟨rfl, h1, b4, b5, hB⟩ hK
      have HE : Hid (backOk x l = false ∧ backS x l = []) := by
        have : backOk x l = false := by
          unfold backOk
          rw [decide_eq_false_iff_not]
          intro hh
          have := hS.length_le
          rw [List.length_map] at this
          omega
        exact ⟨this, by unfold backS; rw [this]; rfl⟩
      clear hS h1
      gi_wp2_with fail
      refine ⟨by simp, .inl ⟨_, _, rfl, run_takeDeferred hK, ?_⟩⟩
      have hnc : ∀ r, some D = some r → ∃ o : Obj, X.heap[r]? = some o ∧ o.isCells = false := fun r e => by cases e; exact ⟨_, hK, rfl⟩
      have hg9 := grownBy_putObj' X D (.deferred none)
      have d4 := (blk_own b4 hg9 hnc).cell (i := 0) rfl
      have d5 := (blk_own b5 hg9 hnc).cell (i := 0) rfl
      refine ⟨.tuple #[.slice none 0 0, .bool false], ?_, ?_⟩
      · simp only [results, Try.results8]
        simp [go_sem, d4, d5]
      · exact ⟨hB.grown hg9 hB.size (fun k hk => by cases hk; exact Nat.le_trans Y0.size hD), .slice none 0 0, [], by rw [HE.out.1], by rw [HE.out.2]; rfl, Sc.nil _ _ _⟩
  · have e9 : (decide ((1 : Int) ≤ (n : Int)) && decide ((n : Int) ≤ 8)) = false := by simp; omega
    rw [e9] at HR
    have HE : Hid (backOk x l = false ∧ backS x l = []) := by
      have : backOk x l = false := by
        unfold backOk
        rw [decide_eq_false_iff_not]
        intro hh
        rw [HNN.out] at hh
        omega
      exact ⟨this, by unfold backS; rw [this]; rfl⟩
    have c4 := x4.cell (i := 0) rfl
    have c5 := x5.cell (i := 0) rfl
    have f4 := x4.free 0
    have f5 := x5.free 0
    have z4 : Blk ((w3.setCell ⟨g4, 0, none⟩ (.slice none 0 0)).setCell ⟨g5, 0, none⟩ (.bool false)) g4 29 [.slice none 0 0] := (x4.set (i := 0) _).other (by omega)
    have z5 : Blk ((w3.setCell ⟨g4, 0, none⟩ (.slice none 0 0)).setCell ⟨g5, 0, none⟩ (.bool false)) g5 4 [.bool false] := (x5.other (by omega)).set (i := 0) _
    have y9 : Below w.heap.size w ((w3.setCell ⟨g4, 0, none⟩ (.slice none 0 0)).setCell ⟨g5, 0, none⟩ (.bool false)) := (y3.setCell (p := ⟨g4, 0, none⟩) (by show _ ≤ g4; omega) _).setCell (p := ⟨g5, 0, none⟩) (by show _ ≤ g5; omega) _
    have d4 := z4.cell (i := 0) rfl
    have d5 := z5.cell (i := 0) rfl
    clear e9 hag hE hV xR
    gi_wp2_with (refine ⟨trivial, rfl, ?_⟩; gi_at_call 23; refine (callsIn_wide.2 HR).mono ?_; clear HR; rintro e w3 ⟨rfl, rfl⟩)
    refine ⟨.tuple #[.slice none 0 0, .bool false], ?_, ?_⟩
    · simp only [results, Try.results8]
      simp [go_sem, d4, d5]
    · exact ⟨y9, .slice none 0 0, [], by rw [HE.out.1], by rw [HE.out.2]; rfl, Sc.nil _ _ _⟩
end Go.Proofs.Ytpkbeeicffoaoaa

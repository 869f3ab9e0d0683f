import Derived.Test.YtajnfknldofjlaaGreatDoorPsP2
import Derived.Test.YtajnfknldofjlaaGreatDoorPrWords
import Derived.Deep.AppendLies
import Derived.Test.YtajnfknldofjlaaGreatDoorLast
namespace Go.Proofs.YtajnfknldofjlaaGreatDoor
open Go.RowKit Go.Shelf
set_option linter.unusedVariables false
set_option linter.unusedSimpArgs false
set_option maxRecDepth 100000
attribute [local go_sem] Oper.semAt_some

/-- From the tokens ts on the program takes x and leaves r. -/
def PsA (ts : List Tok) (x : Ex) (r : List Tok) : Prop := ∀ (W0 W : World) (pb : Nat), Tabs W0 → Below W0.heap.size W0 W → W0.heap.size ≤ pb → At W pb ts →
  Calls Tryz.prog 147 #[.pointer (some ⟨pb, 0, none⟩)] W fun e W' => ∃ vs, e = .returned (agg vs) ∧ RdVals (fr W.heap.size W') x.fl vs ∧ At W' pb r ∧ Kp pb W W'
theorem Kp.bel {pb : Nat} {W0 A B : World} (h : Kp pb A B) (hb : Below W0.heap.size W0 A) (hp : W0.heap.size ≤ pb) : Below W0.heap.size W0 B :=
  hb.trans ⟨h.os, h.tape, h.output, h.size, fun k hk => h.block k (Nat.lt_of_lt_of_le hk hb.size) (by omega)⟩

/-- Where arg stands: x0 the result's block, ev what the expression holds so far, fm the form, ws its words. -/
structure EA (W0 W w : World) (pb ge gw : Nat) (ts : List Tok) (ev : List Value) (f : Fm) (ws : List Value) : Prop where
  bel : Below W0.heap.size W0 w
  at' : At w pb ts
  kp : Kp pb W w
  xb : Blk w W.heap.size 122 [.int .i64 0, .int .i64 0, .slice none 0 0, .slice none 0 0, .slice none 0 0]
  eb : Blk w ge 122 ev
  fb : Blk w (ge + 1) 153 [.string ⟨f.txt.toArray⟩, .int .i64 f.lo, .int .i64 f.hi, .int .i64 f.le, .int .i64 f.mo]
  wb : Blk w gw 9 ws
  h1 : pb < W.heap.size
  h2 : W.heap.size < ge
  h3 : ge + 1 < gw
  h4 : W0.heap.size ≤ pb
theorem Kp.blk {pb : Nat} {A B : World} {g T : Nat} {vs : List Value} (h : Kp pb A B) (hb : Blk A g T vs) (hn : g ≠ pb) : Blk B g T vs := (h.block g hb.lt hn).trans hb
theorem EA.go {W0 W w w' : World} {pb ge gw : Nat} {ts ts' : List Tok} {ev ws : List Value} {f : Fm} (h : EA W0 W w pb ge gw ts ev f ws) (hk : Kp pb w w') (ha : At w' pb ts') : EA W0 W w' pb ge gw ts' ev f ws := by
  have a := h.h1
  have b := h.h2
  have c := h.h3
  exact ⟨hk.bel h.bel h.h4, ha, h.kp.trans hk, hk.blk h.xb (by omega), hk.blk h.eb (by omega), hk.blk h.fb (by omega), hk.blk h.wb (by omega), h.h1, h.h2, h.h3, h.h4⟩
theorem At.far {W : World} {pb ge i : Nat} {ts : List Tok} {ev : List Value} {v : Value} (h : At W pb ts) (he : Blk W ge 122 ev) : At (W.setCell ⟨ge, i, none⟩ v) pb ts := by
  obtain ⟨g, o, c, h1, h2, h3, ⟨cs, f, h5⟩, h4⟩ := h.ex
  have he' : W.heap[ge]? = _ := he
  have n1 : pb ≠ ge := by
    rintro rfl
    have h' : W.heap[pb]? = _ := h1
    rw [h'] at he'
    simp only [Option.some.injEq, Obj.cells.injEq] at he'
    exact absurd he'.2.1 (by decide)
  have n2 : g ≠ ge := by
    rintro rfl
    rw [h5] at he'
    simp only [Option.some.injEq, Obj.cells.injEq] at he'
    exact absurd he'.2.1 (by decide)
  refine ⟨g, o, c, h1.other n1, h2, h3, ⟨cs, f, (heap_setCell_other W ⟨ge, i, none⟩ g v n2).trans h5⟩, fun j u hu => ?_⟩
  rw [World.cell?_of_block (heap_setCell_other W ⟨ge, i, none⟩ g v n2)]
  exact h4 j u hu
theorem EA.set {W0 W w : World} {pb ge gw : Nat} {ts : List Tok} {ev ws : List Value} {f : Fm} (h : EA W0 W w pb ge gw ts ev f ws) (i : Nat) (v : Value) : EA W0 W (w.setCell ⟨ge, i, none⟩ v) pb ge gw ts (ev.set i v) f ws := by
  have a := h.h1
  have b := h.h2
  have c := h.h3
  have d := h.h4
  refine ⟨h.bel.setCell (p := ⟨ge, i, none⟩) (by show W0.heap.size ≤ ge; omega) v, h.at'.far h.eb, ?_, h.xb.other (by omega), h.eb.set (i := i) v, h.fb.other (by omega), h.wb.other (by omega), h.h1, h.h2, h.h3, h.h4⟩
  have hs := h.bel.setCell (p := ⟨ge, i, none⟩) (by show W0.heap.size ≤ ge; omega) v
  exact ⟨hs.os.trans (h.bel.os.symm.trans h.kp.os), hs.tape.trans (h.bel.tape.symm.trans h.kp.tape), hs.output.trans (h.bel.output.symm.trans h.kp.output), by have := h.kp.size; simpa using this, fun k hk hn => (heap_setCell_other w ⟨ge, i, none⟩ k v (by show k ≠ ge; omega)).trans (h.kp.block k hk hn)⟩

theorem Kp.far {pb g i : Nat} {W w : World} {v : Value} (h : Kp pb W w) (hg : W.heap.size ≤ g) : Kp pb W (w.setCell ⟨g, i, none⟩ v) := by
  have hs := (Below.refl 0 w).setCell (p := ⟨g, i, none⟩) (Nat.zero_le _) v
  exact ⟨hs.os.trans h.os, hs.tape.trans h.tape, hs.output.trans h.output, Nat.le_trans h.size hs.size, fun k hk hn => (heap_setCell_other w ⟨g, i, none⟩ k v (by show k ≠ g; omega)).trans (h.block k hk hn)⟩
theorem RdVals.cm {A B : World} (hc : Cm A B) : ∀ {r : List Fl} {vs : List Value}, RdVals A r vs → RdVals B r vs
  | [], vs, h => h
  | f :: r, vs, h => by
    obtain ⟨v, us, e, h1, h2⟩ := h
    exact ⟨v, us, e, Fl.Rd.cm hc f v h1, RdVals.cm hc h2⟩
theorem EA.fin {W0 W w : World} {pb ge gw : Nat} {ts : List Tok} {a0 a1 a2 a3 a4 : Value} {ws : List Value} {f : Fm} {r : List Fl} (h : EA W0 W w pb ge gw ts [a0, a1, a2, a3, a4] f ws) (hr : RdVals (fr (W.heap.size + 1) w) r [a0, a1, a2, a3, a4]) :
    Blk (((((w.setCell ⟨W.heap.size, 0, none⟩ a0).setCell ⟨W.heap.size, 1, none⟩ a1).setCell ⟨W.heap.size, 2, none⟩ a2).setCell ⟨W.heap.size, 3, none⟩ a3).setCell ⟨W.heap.size, 4, none⟩ a4) W.heap.size 122 [a0, a1, a2, a3, a4] ∧
    RdVals (fr W.heap.size (((((w.setCell ⟨W.heap.size, 0, none⟩ a0).setCell ⟨W.heap.size, 1, none⟩ a1).setCell ⟨W.heap.size, 2, none⟩ a2).setCell ⟨W.heap.size, 3, none⟩ a3).setCell ⟨W.heap.size, 4, none⟩ a4)) r [a0, a1, a2, a3, a4] ∧
    At (((((w.setCell ⟨W.heap.size, 0, none⟩ a0).setCell ⟨W.heap.size, 1, none⟩ a1).setCell ⟨W.heap.size, 2, none⟩ a2).setCell ⟨W.heap.size, 3, none⟩ a3).setCell ⟨W.heap.size, 4, none⟩ a4) pb ts ∧
    Kp pb W (((((w.setCell ⟨W.heap.size, 0, none⟩ a0).setCell ⟨W.heap.size, 1, none⟩ a1).setCell ⟨W.heap.size, 2, none⟩ a2).setCell ⟨W.heap.size, 3, none⟩ a3).setCell ⟨W.heap.size, 4, none⟩ a4) := by
  have b0 := h.xb
  have b1 := b0.set (i := 0) a0
  have b2 := b1.set (i := 1) a1
  have b3 := b2.set (i := 2) a2
  have b4 := b3.set (i := 3) a3
  have b5 := b4.set (i := 4) a4
  have l := Nat.lt_succ_self W.heap.size
  have c : ∀ (A : World) (i : Nat) (u : Value), RdVals (fr (W.heap.size + 1) A) r [a0, a1, a2, a3, a4] → RdVals (fr (W.heap.size + 1) (A.setCell ⟨W.heap.size, i, none⟩ u)) r [a0, a1, a2, a3, a4] := fun A i u hh => RdVals.cm (cm_set l) hh
  exact ⟨b5, RdVals.cm (cm_mono (Nat.le_succ _) _) (c _ _ _ (c _ _ _ (c _ _ _ (c _ _ _ (c _ _ _ hr))))), ((((h.at'.far b0).far b1).far b2).far b3).far b4, ((((h.kp.far (Nat.le_refl _)).far (Nat.le_refl _)).far (Nat.le_refl _)).far (Nat.le_refl _)).far (Nat.le_refl _)⟩
theorem rd_none (W : World) : (Fl.b []).Rd W (.slice none 0 0) := ⟨none, 0, rfl, ⟨rfl, (fun _ h => by cases h), (fun h => by cases h)⟩, Nat.le_refl _, Nat.zero_le _, fun _ => rfl⟩
theorem rd_noL (W : World) (k : Nat) : (Fl.l k []).Rd W (.slice none 0 0) := ⟨none, 0, rfl, Nat.le_refl _, Nat.zero_le _, fun _ => rfl, (fun h => by cases h)⟩

set_option maxHeartbeats 4000000 in
theorem psA0 (t0 y : Tok) (ts : List Tok) (he : exK t0 y = (0, true)) (v : Int) (hk0 : t0.kind = 5) (hn0 : t0.text.length ≤ 3000) (ha : Lib.atoiAll (strOfNums t0.text).data.toList = .ok v) (h1 : (exF 0).lo ≤ v) (h2 : v ≤ (exF 0).hi) : PsA (t0 :: y :: ts) (.mk 0 v [] [] []) (y :: ts) := by
  intro W0 W pb hT hb hp hA
  have x0 := Blk.new W 122 [.int .i64 0, .int .i64 0, .slice none 0 0, .slice none 0 0, .slice none 0 0]
  have hB := below_grown (grown_alloc W (.cells #[.int .i64 0, .int .i64 0, .slice none 0 0, .slice none 0 0, .slice none 0 0] 122 (0, 0)) none)
  replace hb := hb.trans (hB.mono hb.size)
  have hpl : pb < W.heap.size := by obtain ⟨_, _, _, h1, _⟩ := hA.ex; exact h1.lt
  replace hA := hA.kp hB
  have hK1 : Kp pb W _ := Kp.below hB
  clear hB
  have hK := exKC pb t0 y _ _ hA
  rw [he] at hK
  go_enter Tryz.func147, Tryz.ntmps147
  go_wp2_with fail
  refine hK.mono ?_
  clear hK
  generalize W.alloc (.cells #[.int .i64 0, .int .i64 0, .slice none 0 0, .slice none 0 0, .slice none 0 0] 122 (0, 0)) = w1 at *
  rintro e w1' ⟨rfl, e2⟩
  subst e2
  have hF := (hT.below hb).ex 0 (by omega)
  have z0 := hF.c0
  have z1 := hF.c1
  have z2 := hF.c2
  have z3 := hF.c3
  have z4 := hF.c4
  clear hF
  simp only [Nat.reduceMul, Nat.reduceAdd, Nat.zero_mul, Nat.zero_add] at z0 z1 z2 z3 z4
  have hz := World.block_lt_of_cell? _ _ z0
  dsimp only at hz
  have g1 := grown_alloc w1' (.cells #[.int .i64 0, .int .i64 0, .slice none 0 0, .slice none 0 0, .slice none 0 0] 122 (0, 0)) none
  have g2 := grown_alloc (w1'.alloc (.cells #[.int .i64 0, .int .i64 0, .slice none 0 0, .slice none 0 0, .slice none 0 0] 122 (0, 0))) (.cells #[.string ⟨(exF 0).txt.toArray⟩, .int .i64 (exF 0).lo, .int .i64 (exF 0).hi, .int .i64 (exF 0).le, .int .i64 (exF 0).mo] 153 (0, 0)) none
  have hB2 : Below w1'.heap.size w1' _ := (below_grown g1).trans ((below_grown g2).mono (below_grown g1).size)
  have HQ := wordsC (exF 0) (exPlain 0) _ (hT.below (hb.trans (hB2.mono hb.size)))
  rw [exW0] at HQ
  unfold Fm.val at HQ
  go_wp2_with fail
  refine HQ.mono ?_
  rintro e w2 ⟨gw, rfl, wb, hgw, hq⟩
  have EA0 : EA W0 W w2 pb w1'.heap.size gw (t0 :: y :: ts) [.int .i64 0, .int .i64 0, .slice none 0 0, .slice none 0 0, .slice none 0 0] (exF 0) (strs [[110, 117, 109]]) := by
    have hB3 := hB2.trans ((below_grown hq).mono hB2.size)
    have b1 := (Blk.new w1' 122 [.int .i64 0, .int .i64 0, .slice none 0 0, .slice none 0 0, .slice none 0 0])
    have b1 := b1.below (below_grown g2) b1.lt
    have b1 := b1.below (below_grown hq) b1.lt
    have b2 := (Blk.new (w1'.alloc (.cells #[.int .i64 0, .int .i64 0, .slice none 0 0, .slice none 0 0, .slice none 0 0] 122 (0, 0))) 153 [.string ⟨(exF 0).txt.toArray⟩, .int .i64 (exF 0).lo, .int .i64 (exF 0).hi, .int .i64 (exF 0).le, .int .i64 (exF 0).mo])
    have b2 := b2.below (below_grown hq) b2.lt
    rw [show (w1'.alloc (.cells #[.int .i64 0, .int .i64 0, .slice none 0 0, .slice none 0 0, .slice none 0 0] 122 (0, 0))).heap.size = w1'.heap.size + 1 by simp] at b2
    refine ⟨hb.trans (hB3.mono hb.size), hA.kp hB3, hK1.trans (Kp.below hB3), x0.below hB3 x0.lt, b1, b2, wb, hpl, x0.lt, ?_, hp⟩
    simp at hgw
    omega
  clear HQ hq hgw wb hB2 g1 g2 z0 z1 z2 z3 z4 hz x0 hK1 hA hb
  generalize w1'.heap.size = ge at *
  simp only [strs, List.map_cons, List.map_nil, List.length_cons, List.length_nil] at EA0 ⊢
  have d0 := EA0.wb.cell (i := 0) rfl
  have z1 := EA0.fb.cell (i := 1) rfl
  have z2 := EA0.fb.cell (i := 2) rfl
  go_wp2_with fail
  refine wp_loop_rounds 2 ?_
  have HQ := numYes pb t0 y ts (exF 0).lo (exF 0).hi v w2 EA0.at' hk0 hn0 ha h1 h2
  rw [rounds_succ]
  go_wp2_with fail
  refine HQ.mono ?_
  rintro e w3 ⟨rfl, ha3, hk3⟩
  have EB0 := EA0.go hk3 ha3
  clear HQ hk3 ha3 EA0 d0 z1 z2
  have r1 := EB0.eb.cell (i := 1) rfl
  have r1f := EB0.eb.free 1
  go_wp2_with fail
  have EC0 := EB0.set 1 (.int .i64 v)
  simp only [List.set_cons_succ, List.set_cons_zero] at EC0
  clear EB0 r1 r1f
  generalize w3.setCell ⟨ge, 1, none⟩ (.int .i64 v) = w4 at *
  have d0 := EC0.wb.cell (i := 0) rfl
  have z1 := EC0.fb.cell (i := 1) rfl
  have z2 := EC0.fb.cell (i := 2) rfl
  rw [rounds_succ]
  have r0 := EC0.eb.cell (i := 0) rfl
  have y0 := EC0.xb.cell (i := 0) rfl
  have u0 := EC0.xb.free 0
  have r1 := EC0.eb.cell (i := 1) rfl
  have y1 := EC0.xb.cell (i := 1) rfl
  have u1 := EC0.xb.free 1
  have r2 := EC0.eb.cell (i := 2) rfl
  have y2 := EC0.xb.cell (i := 2) rfl
  have u2 := EC0.xb.free 2
  have r3 := EC0.eb.cell (i := 3) rfl
  have y3 := EC0.xb.cell (i := 3) rfl
  have u3 := EC0.xb.free 3
  have r4 := EC0.eb.cell (i := 4) rfl
  have y4 := EC0.xb.cell (i := 4) rfl
  have u4 := EC0.xb.free 4
  have HR : Hid _ := EC0.fin (r := (Ex.mk 0 v [] [] []).fl) (by unfold Ex.fl; exact ⟨_, _, rfl, rfl, _, _, rfl, rfl, _, _, rfl, rd_none _, _, _, rfl, rd_none _, _, _, rfl, rd_noL _ _, rfl⟩)
  clear EC0
  go_wp2_with fail
  generalize ((((w4.setCell ⟨W.heap.size, 0, none⟩ (.int .i64 0)).setCell ⟨W.heap.size, 1, none⟩ (.int .i64 v)).setCell ⟨W.heap.size, 2, none⟩ (.slice none 0 0)).setCell ⟨W.heap.size, 3, none⟩ (.slice none 0 0)).setCell ⟨W.heap.size, 4, none⟩ (.slice none 0 0) = wz at *
  obtain ⟨bR, rR⟩ := HR.out
  have e0 := bR.cell (i := 0) rfl
  have e1 := bR.cell (i := 1) rfl
  have e2 := bR.cell (i := 2) rfl
  have e3 := bR.cell (i := 3) rfl
  have e4 := bR.cell (i := 4) rfl
  refine bodyPost_ret (v := agg [.int .i64 0, .int .i64 v, .slice none 0 0, .slice none 0 0, .slice none 0 0]) ?_ rfl ⟨_, rfl, rR⟩
  simp [results, Tryz.results147, go_sem, e0, e1, e2, e3, e4, agg]

set_option maxHeartbeats 4000000 in
theorem psA1 (t0 y : Tok) (ts : List Tok) (he : exK t0 y = (1, true)) (hk0 : t0.kind = 3) (hx0 : ∀ b ∈ t0.text, 0 ≤ b ∧ b ≤ 255) (hn0 : t0.text.length ≤ 3000) : PsA (t0 :: y :: ts) (.mk 1 0 [] t0.text []) (y :: ts) := by
  intro W0 W pb hT hb hp hA
  have x0 := Blk.new W 122 [.int .i64 0, .int .i64 0, .slice none 0 0, .slice none 0 0, .slice none 0 0]
  have hB := below_grown (grown_alloc W (.cells #[.int .i64 0, .int .i64 0, .slice none 0 0, .slice none 0 0, .slice none 0 0] 122 (0, 0)) none)
  replace hb := hb.trans (hB.mono hb.size)
  have hpl : pb < W.heap.size := by obtain ⟨_, _, _, h1, _⟩ := hA.ex; exact h1.lt
  replace hA := hA.kp hB
  have hK1 : Kp pb W _ := Kp.below hB
  clear hB
  have hK := exKC pb t0 y _ _ hA
  rw [he] at hK
  go_enter Tryz.func147, Tryz.ntmps147
  go_wp2_with fail
  refine hK.mono ?_
  clear hK
  generalize W.alloc (.cells #[.int .i64 0, .int .i64 0, .slice none 0 0, .slice none 0 0, .slice none 0 0] 122 (0, 0)) = w1 at *
  rintro e w1' ⟨rfl, e2⟩
  subst e2
  have hF := (hT.below hb).ex 1 (by omega)
  have z0 := hF.c0
  have z1 := hF.c1
  have z2 := hF.c2
  have z3 := hF.c3
  have z4 := hF.c4
  clear hF
  simp only [Nat.reduceMul, Nat.reduceAdd, Nat.zero_mul, Nat.zero_add] at z0 z1 z2 z3 z4
  have hz := World.block_lt_of_cell? _ _ z0
  dsimp only at hz
  have g1 := grown_alloc w1' (.cells #[.int .i64 1, .int .i64 0, .slice none 0 0, .slice none 0 0, .slice none 0 0] 122 (0, 0)) none
  have g2 := grown_alloc (w1'.alloc (.cells #[.int .i64 1, .int .i64 0, .slice none 0 0, .slice none 0 0, .slice none 0 0] 122 (0, 0))) (.cells #[.string ⟨(exF 1).txt.toArray⟩, .int .i64 (exF 1).lo, .int .i64 (exF 1).hi, .int .i64 (exF 1).le, .int .i64 (exF 1).mo] 153 (0, 0)) none
  have hB2 : Below w1'.heap.size w1' _ := (below_grown g1).trans ((below_grown g2).mono (below_grown g1).size)
  have HQ := wordsC (exF 1) (exPlain 1) _ (hT.below (hb.trans (hB2.mono hb.size)))
  rw [exW1] at HQ
  unfold Fm.val at HQ
  go_wp2_with fail
  refine HQ.mono ?_
  rintro e w2 ⟨gw, rfl, wb, hgw, hq⟩
  have EA0 : EA W0 W w2 pb w1'.heap.size gw (t0 :: y :: ts) [.int .i64 1, .int .i64 0, .slice none 0 0, .slice none 0 0, .slice none 0 0] (exF 1) (strs [[110, 97, 109, 101]]) := by
    have hB3 := hB2.trans ((below_grown hq).mono hB2.size)
    have b1 := (Blk.new w1' 122 [.int .i64 1, .int .i64 0, .slice none 0 0, .slice none 0 0, .slice none 0 0])
    have b1 := b1.below (below_grown g2) b1.lt
    have b1 := b1.below (below_grown hq) b1.lt
    have b2 := (Blk.new (w1'.alloc (.cells #[.int .i64 1, .int .i64 0, .slice none 0 0, .slice none 0 0, .slice none 0 0] 122 (0, 0))) 153 [.string ⟨(exF 1).txt.toArray⟩, .int .i64 (exF 1).lo, .int .i64 (exF 1).hi, .int .i64 (exF 1).le, .int .i64 (exF 1).mo])
    have b2 := b2.below (below_grown hq) b2.lt
    rw [show (w1'.alloc (.cells #[.int .i64 1, .int .i64 0, .slice none 0 0, .slice none 0 0, .slice none 0 0] 122 (0, 0))).heap.size = w1'.heap.size + 1 by simp] at b2
    refine ⟨hb.trans (hB3.mono hb.size), hA.kp hB3, hK1.trans (Kp.below hB3), x0.below hB3 x0.lt, b1, b2, wb, hpl, x0.lt, ?_, hp⟩
    simp at hgw
    omega
  clear HQ hq hgw wb hB2 g1 g2 z0 z1 z2 z3 z4 hz x0 hK1 hA hb
  generalize w1'.heap.size = ge at *
  simp only [strs, List.map_cons, List.map_nil, List.length_cons, List.length_nil] at EA0 ⊢
  have d0 := EA0.wb.cell (i := 0) rfl
  go_wp2_with fail
  refine wp_loop_rounds 2 ?_
  have HQ := smallYes pb t0 y ts w2 EA0.at' hk0 hx0 hn0
  rw [rounds_succ]
  go_wp2_with fail
  refine HQ.mono ?_
  rintro e w3 ⟨vN, rfl, hR, ha3, hk3⟩
  have EB0 := EA0.go hk3 ha3
  replace hR : (Fl.b t0.text).Rd (fr (ge + 1) w3) vN := Fl.Rd.cm (cm_mono (by have := EA0.wb.lt; have := EA0.h3; omega) _) _ _ hR
  obtain ⟨aN, cN, rfl, hS⟩ := hR
  have hR : (Fl.b t0.text).Rd (fr (ge + 1) w3) (.slice aN t0.text.length cN) := ⟨aN, cN, rfl, hS⟩
  clear hS
  clear HQ hk3 ha3 EA0 d0
  have r1 := EB0.eb.cell (i := 3) rfl
  have r1f := EB0.eb.free 3
  go_wp2_with fail
  have EC0 := EB0.set 3 (.slice aN t0.text.length cN)
  simp only [List.set_cons_succ, List.set_cons_zero] at EC0
  replace hR := Fl.Rd.cm (cm_set (g := ge) (i := 3) (u := (.slice aN t0.text.length cN)) (Nat.lt_succ_self ge)) _ _ hR
  clear EB0 r1 r1f
  generalize w3.setCell ⟨ge, 3, none⟩ (.slice aN t0.text.length cN) = w4 at *
  have d0 := EC0.wb.cell (i := 0) rfl
  rw [rounds_succ]
  have r0 := EC0.eb.cell (i := 0) rfl
  have y0 := EC0.xb.cell (i := 0) rfl
  have u0 := EC0.xb.free 0
  have r1 := EC0.eb.cell (i := 1) rfl
  have y1 := EC0.xb.cell (i := 1) rfl
  have u1 := EC0.xb.free 1
  have r2 := EC0.eb.cell (i := 2) rfl
  have y2 := EC0.xb.cell (i := 2) rfl
  have u2 := EC0.xb.free 2
  have r3 := EC0.eb.cell (i := 3) rfl
  have y3 := EC0.xb.cell (i := 3) rfl
  have u3 := EC0.xb.free 3
  have r4 := EC0.eb.cell (i := 4) rfl
  have y4 := EC0.xb.cell (i := 4) rfl
  have u4 := EC0.xb.free 4
  have HR : Hid _ := EC0.fin (r := (Ex.mk 1 0 [] t0.text []).fl) (by unfold Ex.fl; exact ⟨_, _, rfl, rfl, _, _, rfl, rfl, _, _, rfl, rd_none _, _, _, rfl, Fl.Rd.cm (cm_mono (by have := EC0.h2; omega) _) _ _ hR, _, _, rfl, rd_noL _ _, rfl⟩)
  clear EC0
  go_wp2_with fail
  generalize ((((w4.setCell ⟨W.heap.size, 0, none⟩ (.int .i64 1)).setCell ⟨W.heap.size, 1, none⟩ (.int .i64 0)).setCell ⟨W.heap.size, 2, none⟩ (.slice none 0 0)).setCell ⟨W.heap.size, 3, none⟩ (.slice aN t0.text.length cN)).setCell ⟨W.heap.size, 4, none⟩ (.slice none 0 0) = wz at *
  obtain ⟨bR, rR⟩ := HR.out
  have e0 := bR.cell (i := 0) rfl
  have e1 := bR.cell (i := 1) rfl
  have e2 := bR.cell (i := 2) rfl
  have e3 := bR.cell (i := 3) rfl
  have e4 := bR.cell (i := 4) rfl
  refine bodyPost_ret (v := agg [.int .i64 1, .int .i64 0, .slice none 0 0, .slice aN t0.text.length cN, .slice none 0 0]) ?_ rfl ⟨_, rfl, rR⟩
  simp [results, Tryz.results147, go_sem, e0, e1, e2, e3, e4, agg]

set_option maxHeartbeats 4000000 in
theorem psA4 (t0 y : Tok) (ts : List Tok) (he : exK t0 y = (4, true)) (hs0 : sT t0.text [73, 78] = true) : PsA (t0 :: y :: ts) (.mk 4 0 [] [] []) (y :: ts) := by
  intro W0 W pb hT hb hp hA
  have x0 := Blk.new W 122 [.int .i64 0, .int .i64 0, .slice none 0 0, .slice none 0 0, .slice none 0 0]
  have hB := below_grown (grown_alloc W (.cells #[.int .i64 0, .int .i64 0, .slice none 0 0, .slice none 0 0, .slice none 0 0] 122 (0, 0)) none)
  replace hb := hb.trans (hB.mono hb.size)
  have hpl : pb < W.heap.size := by obtain ⟨_, _, _, h1, _⟩ := hA.ex; exact h1.lt
  replace hA := hA.kp hB
  have hK1 : Kp pb W _ := Kp.below hB
  clear hB
  have hK := exKC pb t0 y _ _ hA
  rw [he] at hK
  go_enter Tryz.func147, Tryz.ntmps147
  go_wp2_with fail
  refine hK.mono ?_
  clear hK
  generalize W.alloc (.cells #[.int .i64 0, .int .i64 0, .slice none 0 0, .slice none 0 0, .slice none 0 0] 122 (0, 0)) = w1 at *
  rintro e w1' ⟨rfl, e2⟩
  subst e2
  have hF := (hT.below hb).ex 4 (by omega)
  have z0 := hF.c0
  have z1 := hF.c1
  have z2 := hF.c2
  have z3 := hF.c3
  have z4 := hF.c4
  clear hF
  simp only [Nat.reduceMul, Nat.reduceAdd, Nat.zero_mul, Nat.zero_add] at z0 z1 z2 z3 z4
  have hz := World.block_lt_of_cell? _ _ z0
  dsimp only at hz
  have g1 := grown_alloc w1' (.cells #[.int .i64 4, .int .i64 0, .slice none 0 0, .slice none 0 0, .slice none 0 0] 122 (0, 0)) none
  have g2 := grown_alloc (w1'.alloc (.cells #[.int .i64 4, .int .i64 0, .slice none 0 0, .slice none 0 0, .slice none 0 0] 122 (0, 0))) (.cells #[.string ⟨(exF 4).txt.toArray⟩, .int .i64 (exF 4).lo, .int .i64 (exF 4).hi, .int .i64 (exF 4).le, .int .i64 (exF 4).mo] 153 (0, 0)) none
  have hB2 : Below w1'.heap.size w1' _ := (below_grown g1).trans ((below_grown g2).mono (below_grown g1).size)
  have HQ := wordsC (exF 4) (exPlain 4) _ (hT.below (hb.trans (hB2.mono hb.size)))
  rw [exW4] at HQ
  unfold Fm.val at HQ
  go_wp2_with fail
  refine HQ.mono ?_
  rintro e w2 ⟨gw, rfl, wb, hgw, hq⟩
  have EA0 : EA W0 W w2 pb w1'.heap.size gw (t0 :: y :: ts) [.int .i64 4, .int .i64 0, .slice none 0 0, .slice none 0 0, .slice none 0 0] (exF 4) (strs [[73, 78]]) := by
    have hB3 := hB2.trans ((below_grown hq).mono hB2.size)
    have b1 := (Blk.new w1' 122 [.int .i64 4, .int .i64 0, .slice none 0 0, .slice none 0 0, .slice none 0 0])
    have b1 := b1.below (below_grown g2) b1.lt
    have b1 := b1.below (below_grown hq) b1.lt
    have b2 := (Blk.new (w1'.alloc (.cells #[.int .i64 4, .int .i64 0, .slice none 0 0, .slice none 0 0, .slice none 0 0] 122 (0, 0))) 153 [.string ⟨(exF 4).txt.toArray⟩, .int .i64 (exF 4).lo, .int .i64 (exF 4).hi, .int .i64 (exF 4).le, .int .i64 (exF 4).mo])
    have b2 := b2.below (below_grown hq) b2.lt
    rw [show (w1'.alloc (.cells #[.int .i64 4, .int .i64 0, .slice none 0 0, .slice none 0 0, .slice none 0 0] 122 (0, 0))).heap.size = w1'.heap.size + 1 by simp] at b2
    refine ⟨hb.trans (hB3.mono hb.size), hA.kp hB3, hK1.trans (Kp.below hB3), x0.below hB3 x0.lt, b1, b2, wb, hpl, x0.lt, ?_, hp⟩
    simp at hgw
    omega
  clear HQ hq hgw wb hB2 g1 g2 z0 z1 z2 z3 z4 hz x0 hK1 hA hb
  generalize w1'.heap.size = ge at *
  simp only [strs, List.map_cons, List.map_nil, List.length_cons, List.length_nil] at EA0 ⊢
  have d0 := EA0.wb.cell (i := 0) rfl
  go_wp2_with fail
  refine wp_loop_rounds 2 ?_
  have HQ := wantYes pb t0 y ts ⟨#[73, 78]⟩ w2 EA0.at' (by simpa [sT] using hs0)
  rw [rounds_succ]
  go_wp2_with fail
  refine HQ.mono ?_
  rintro e w3 ⟨rfl, ha3, hk3⟩
  have EB0 := EA0.go hk3 ha3
  clear HQ hk3 ha3 EA0 d0
  go_wp2_with fail
  have d0 := EB0.wb.cell (i := 0) rfl
  rw [rounds_succ]
  have r0 := EB0.eb.cell (i := 0) rfl
  have y0 := EB0.xb.cell (i := 0) rfl
  have u0 := EB0.xb.free 0
  have r1 := EB0.eb.cell (i := 1) rfl
  have y1 := EB0.xb.cell (i := 1) rfl
  have u1 := EB0.xb.free 1
  have r2 := EB0.eb.cell (i := 2) rfl
  have y2 := EB0.xb.cell (i := 2) rfl
  have u2 := EB0.xb.free 2
  have r3 := EB0.eb.cell (i := 3) rfl
  have y3 := EB0.xb.cell (i := 3) rfl
  have u3 := EB0.xb.free 3
  have r4 := EB0.eb.cell (i := 4) rfl
  have y4 := EB0.xb.cell (i := 4) rfl
  have u4 := EB0.xb.free 4
  have HR : Hid _ := EB0.fin (r := (Ex.mk 4 0 [] [] []).fl) (by unfold Ex.fl; exact ⟨_, _, rfl, rfl, _, _, rfl, rfl, _, _, rfl, rd_none _, _, _, rfl, rd_none _, _, _, rfl, rd_noL _ _, rfl⟩)
  clear EB0
  go_wp2_with fail
  generalize ((((w3.setCell ⟨W.heap.size, 0, none⟩ (.int .i64 4)).setCell ⟨W.heap.size, 1, none⟩ (.int .i64 0)).setCell ⟨W.heap.size, 2, none⟩ (.slice none 0 0)).setCell ⟨W.heap.size, 3, none⟩ (.slice none 0 0)).setCell ⟨W.heap.size, 4, none⟩ (.slice none 0 0) = wz at *
  obtain ⟨bR, rR⟩ := HR.out
  have e0 := bR.cell (i := 0) rfl
  have e1 := bR.cell (i := 1) rfl
  have e2 := bR.cell (i := 2) rfl
  have e3 := bR.cell (i := 3) rfl
  have e4 := bR.cell (i := 4) rfl
  refine bodyPost_ret (v := agg [.int .i64 4, .int .i64 0, .slice none 0 0, .slice none 0 0, .slice none 0 0]) ?_ rfl ⟨_, rfl, rR⟩
  simp [results, Tryz.results147, go_sem, e0, e1, e2, e3, e4, agg]

set_option maxHeartbeats 4000000 in
theorem psA5 (t0 t1 y : Tok) (ts : List Tok) (he : exK t0 t1 = (5, true)) (hs0 : sT t0.text [76, 69, 78] = true) (hk1 : t1.kind = 3) (hx1 : ∀ b ∈ t1.text, 0 ≤ b ∧ b ≤ 255) (hn1 : t1.text.length ≤ 3000) : PsA (t0 :: t1 :: y :: ts) (.mk 5 0 [] t1.text []) (y :: ts) := by
  intro W0 W pb hT hb hp hA
  have x0 := Blk.new W 122 [.int .i64 0, .int .i64 0, .slice none 0 0, .slice none 0 0, .slice none 0 0]
  have hB := below_grown (grown_alloc W (.cells #[.int .i64 0, .int .i64 0, .slice none 0 0, .slice none 0 0, .slice none 0 0] 122 (0, 0)) none)
  replace hb := hb.trans (hB.mono hb.size)
  have hpl : pb < W.heap.size := by obtain ⟨_, _, _, h1, _⟩ := hA.ex; exact h1.lt
  replace hA := hA.kp hB
  have hK1 : Kp pb W _ := Kp.below hB
  clear hB
  have hK := exKC pb t0 t1 _ _ hA
  rw [he] at hK
  go_enter Tryz.func147, Tryz.ntmps147
  go_wp2_with fail
  refine hK.mono ?_
  clear hK
  generalize W.alloc (.cells #[.int .i64 0, .int .i64 0, .slice none 0 0, .slice none 0 0, .slice none 0 0] 122 (0, 0)) = w1 at *
  rintro e w1' ⟨rfl, e2⟩
  subst e2
  have hF := (hT.below hb).ex 5 (by omega)
  have z0 := hF.c0
  have z1 := hF.c1
  have z2 := hF.c2
  have z3 := hF.c3
  have z4 := hF.c4
  clear hF
  simp only [Nat.reduceMul, Nat.reduceAdd, Nat.zero_mul, Nat.zero_add] at z0 z1 z2 z3 z4
  have hz := World.block_lt_of_cell? _ _ z0
  dsimp only at hz
  have g1 := grown_alloc w1' (.cells #[.int .i64 5, .int .i64 0, .slice none 0 0, .slice none 0 0, .slice none 0 0] 122 (0, 0)) none
  have g2 := grown_alloc (w1'.alloc (.cells #[.int .i64 5, .int .i64 0, .slice none 0 0, .slice none 0 0, .slice none 0 0] 122 (0, 0))) (.cells #[.string ⟨(exF 5).txt.toArray⟩, .int .i64 (exF 5).lo, .int .i64 (exF 5).hi, .int .i64 (exF 5).le, .int .i64 (exF 5).mo] 153 (0, 0)) none
  have hB2 : Below w1'.heap.size w1' _ := (below_grown g1).trans ((below_grown g2).mono (below_grown g1).size)
  have HQ := wordsC (exF 5) (exPlain 5) _ (hT.below (hb.trans (hB2.mono hb.size)))
  rw [exW5] at HQ
  unfold Fm.val at HQ
  go_wp2_with fail
  refine HQ.mono ?_
  rintro e w2 ⟨gw, rfl, wb, hgw, hq⟩
  have EA0 : EA W0 W w2 pb w1'.heap.size gw (t0 :: t1 :: y :: ts) [.int .i64 5, .int .i64 0, .slice none 0 0, .slice none 0 0, .slice none 0 0] (exF 5) (strs [[76, 69, 78], [110, 97, 109, 101]]) := by
    have hB3 := hB2.trans ((below_grown hq).mono hB2.size)
    have b1 := (Blk.new w1' 122 [.int .i64 5, .int .i64 0, .slice none 0 0, .slice none 0 0, .slice none 0 0])
    have b1 := b1.below (below_grown g2) b1.lt
    have b1 := b1.below (below_grown hq) b1.lt
    have b2 := (Blk.new (w1'.alloc (.cells #[.int .i64 5, .int .i64 0, .slice none 0 0, .slice none 0 0, .slice none 0 0] 122 (0, 0))) 153 [.string ⟨(exF 5).txt.toArray⟩, .int .i64 (exF 5).lo, .int .i64 (exF 5).hi, .int .i64 (exF 5).le, .int .i64 (exF 5).mo])
    have b2 := b2.below (below_grown hq) b2.lt
    rw [show (w1'.alloc (.cells #[.int .i64 5, .int .i64 0, .slice none 0 0, .slice none 0 0, .slice none 0 0] 122 (0, 0))).heap.size = w1'.heap.size + 1 by simp] at b2
    refine ⟨hb.trans (hB3.mono hb.size), hA.kp hB3, hK1.trans (Kp.below hB3), x0.below hB3 x0.lt, b1, b2, wb, hpl, x0.lt, ?_, hp⟩
    simp at hgw
    omega
  clear HQ hq hgw wb hB2 g1 g2 z0 z1 z2 z3 z4 hz x0 hK1 hA hb
  generalize w1'.heap.size = ge at *
  simp only [strs, List.map_cons, List.map_nil, List.length_cons, List.length_nil] at EA0 ⊢
  have d0 := EA0.wb.cell (i := 0) rfl
  have d1 := EA0.wb.cell (i := 1) rfl
  go_wp2_with fail
  refine wp_loop_rounds 3 ?_
  have HQ := wantYes pb t0 t1 (y :: ts) ⟨#[76, 69, 78]⟩ w2 EA0.at' (by simpa [sT] using hs0)
  rw [rounds_succ]
  go_wp2_with fail
  refine HQ.mono ?_
  rintro e w3 ⟨rfl, ha3, hk3⟩
  have EB0 := EA0.go hk3 ha3
  clear HQ hk3 ha3 EA0 d0 d1
  go_wp2_with fail
  have d0 := EB0.wb.cell (i := 0) rfl
  have d1 := EB0.wb.cell (i := 1) rfl
  have HQ := smallYes pb t1 y ts w3 EB0.at' hk1 hx1 hn1
  rw [rounds_succ]
  go_wp2_with fail
  refine HQ.mono ?_
  rintro e w5 ⟨vN, rfl, hR, ha3, hk3⟩
  have EB1 := EB0.go hk3 ha3
  replace hR : (Fl.b t1.text).Rd (fr (ge + 1) w5) vN := Fl.Rd.cm (cm_mono (by have := EB0.wb.lt; have := EB0.h3; omega) _) _ _ hR
  obtain ⟨aN, cN, rfl, hS⟩ := hR
  have hR : (Fl.b t1.text).Rd (fr (ge + 1) w5) (.slice aN t1.text.length cN) := ⟨aN, cN, rfl, hS⟩
  clear hS
  clear HQ hk3 ha3 EB0 d0 d1
  have r1 := EB1.eb.cell (i := 3) rfl
  have r1f := EB1.eb.free 3
  go_wp2_with fail
  have EC1 := EB1.set 3 (.slice aN t1.text.length cN)
  simp only [List.set_cons_succ, List.set_cons_zero] at EC1
  replace hR := Fl.Rd.cm (cm_set (g := ge) (i := 3) (u := (.slice aN t1.text.length cN)) (Nat.lt_succ_self ge)) _ _ hR
  clear EB1 r1 r1f
  generalize w5.setCell ⟨ge, 3, none⟩ (.slice aN t1.text.length cN) = w6 at *
  have d0 := EC1.wb.cell (i := 0) rfl
  have d1 := EC1.wb.cell (i := 1) rfl
  rw [rounds_succ]
  have r0 := EC1.eb.cell (i := 0) rfl
  have y0 := EC1.xb.cell (i := 0) rfl
  have u0 := EC1.xb.free 0
  have r1 := EC1.eb.cell (i := 1) rfl
  have y1 := EC1.xb.cell (i := 1) rfl
  have u1 := EC1.xb.free 1
  have r2 := EC1.eb.cell (i := 2) rfl
  have y2 := EC1.xb.cell (i := 2) rfl
  have u2 := EC1.xb.free 2
  have r3 := EC1.eb.cell (i := 3) rfl
  have y3 := EC1.xb.cell (i := 3) rfl
  have u3 := EC1.xb.free 3
  have r4 := EC1.eb.cell (i := 4) rfl
  have y4 := EC1.xb.cell (i := 4) rfl
  have u4 := EC1.xb.free 4
  have HR : Hid _ := EC1.fin (r := (Ex.mk 5 0 [] t1.text []).fl) (by unfold Ex.fl; exact ⟨_, _, rfl, rfl, _, _, rfl, rfl, _, _, rfl, rd_none _, _, _, rfl, Fl.Rd.cm (cm_mono (by have := EC1.h2; omega) _) _ _ hR, _, _, rfl, rd_noL _ _, rfl⟩)
  clear EC1
  go_wp2_with fail
  generalize ((((w6.setCell ⟨W.heap.size, 0, none⟩ (.int .i64 5)).setCell ⟨W.heap.size, 1, none⟩ (.int .i64 0)).setCell ⟨W.heap.size, 2, none⟩ (.slice none 0 0)).setCell ⟨W.heap.size, 3, none⟩ (.slice aN t1.text.length cN)).setCell ⟨W.heap.size, 4, none⟩ (.slice none 0 0) = wz at *
  obtain ⟨bR, rR⟩ := HR.out
  have e0 := bR.cell (i := 0) rfl
  have e1 := bR.cell (i := 1) rfl
  have e2 := bR.cell (i := 2) rfl
  have e3 := bR.cell (i := 3) rfl
  have e4 := bR.cell (i := 4) rfl
  refine bodyPost_ret (v := agg [.int .i64 5, .int .i64 0, .slice none 0 0, .slice aN t1.text.length cN, .slice none 0 0]) ?_ rfl ⟨_, rfl, rR⟩
  simp [results, Tryz.results147, go_sem, e0, e1, e2, e3, e4, agg]

set_option maxHeartbeats 4000000 in
theorem psA7 (t0 t1 y : Tok) (ts : List Tok) (he : exK t0 t1 = (7, true)) (hs0 : sT t0.text [64] = true) (hk1 : t1.kind = 3) (hx1 : ∀ b ∈ t1.text, 0 ≤ b ∧ b ≤ 255) (hn1 : t1.text.length ≤ 3000) : PsA (t0 :: t1 :: y :: ts) (.mk 7 0 [] t1.text []) (y :: ts) := by
  intro W0 W pb hT hb hp hA
  have x0 := Blk.new W 122 [.int .i64 0, .int .i64 0, .slice none 0 0, .slice none 0 0, .slice none 0 0]
  have hB := below_grown (grown_alloc W (.cells #[.int .i64 0, .int .i64 0, .slice none 0 0, .slice none 0 0, .slice none 0 0] 122 (0, 0)) none)
  replace hb := hb.trans (hB.mono hb.size)
  have hpl : pb < W.heap.size := by obtain ⟨_, _, _, h1, _⟩ := hA.ex; exact h1.lt
  replace hA := hA.kp hB
  have hK1 : Kp pb W _ := Kp.below hB
  clear hB
  have hK := exKC pb t0 t1 _ _ hA
  rw [he] at hK
  go_enter Tryz.func147, Tryz.ntmps147
  go_wp2_with fail
  refine hK.mono ?_
  clear hK
  generalize W.alloc (.cells #[.int .i64 0, .int .i64 0, .slice none 0 0, .slice none 0 0, .slice none 0 0] 122 (0, 0)) = w1 at *
  rintro e w1' ⟨rfl, e2⟩
  subst e2
  have hF := (hT.below hb).ex 7 (by omega)
  have z0 := hF.c0
  have z1 := hF.c1
  have z2 := hF.c2
  have z3 := hF.c3
  have z4 := hF.c4
  clear hF
  simp only [Nat.reduceMul, Nat.reduceAdd, Nat.zero_mul, Nat.zero_add] at z0 z1 z2 z3 z4
  have hz := World.block_lt_of_cell? _ _ z0
  dsimp only at hz
  have g1 := grown_alloc w1' (.cells #[.int .i64 7, .int .i64 0, .slice none 0 0, .slice none 0 0, .slice none 0 0] 122 (0, 0)) none
  have g2 := grown_alloc (w1'.alloc (.cells #[.int .i64 7, .int .i64 0, .slice none 0 0, .slice none 0 0, .slice none 0 0] 122 (0, 0))) (.cells #[.string ⟨(exF 7).txt.toArray⟩, .int .i64 (exF 7).lo, .int .i64 (exF 7).hi, .int .i64 (exF 7).le, .int .i64 (exF 7).mo] 153 (0, 0)) none
  have hB2 : Below w1'.heap.size w1' _ := (below_grown g1).trans ((below_grown g2).mono (below_grown g1).size)
  have HQ := wordsC (exF 7) (exPlain 7) _ (hT.below (hb.trans (hB2.mono hb.size)))
  rw [exW7] at HQ
  unfold Fm.val at HQ
  go_wp2_with fail
  refine HQ.mono ?_
  rintro e w2 ⟨gw, rfl, wb, hgw, hq⟩
  have EA0 : EA W0 W w2 pb w1'.heap.size gw (t0 :: t1 :: y :: ts) [.int .i64 7, .int .i64 0, .slice none 0 0, .slice none 0 0, .slice none 0 0] (exF 7) (strs [[64], [110, 97, 109, 101]]) := by
    have hB3 := hB2.trans ((below_grown hq).mono hB2.size)
    have b1 := (Blk.new w1' 122 [.int .i64 7, .int .i64 0, .slice none 0 0, .slice none 0 0, .slice none 0 0])
    have b1 := b1.below (below_grown g2) b1.lt
    have b1 := b1.below (below_grown hq) b1.lt
    have b2 := (Blk.new (w1'.alloc (.cells #[.int .i64 7, .int .i64 0, .slice none 0 0, .slice none 0 0, .slice none 0 0] 122 (0, 0))) 153 [.string ⟨(exF 7).txt.toArray⟩, .int .i64 (exF 7).lo, .int .i64 (exF 7).hi, .int .i64 (exF 7).le, .int .i64 (exF 7).mo])
    have b2 := b2.below (below_grown hq) b2.lt
    rw [show (w1'.alloc (.cells #[.int .i64 7, .int .i64 0, .slice none 0 0, .slice none 0 0, .slice none 0 0] 122 (0, 0))).heap.size = w1'.heap.size + 1 by simp] at b2
    refine ⟨hb.trans (hB3.mono hb.size), hA.kp hB3, hK1.trans (Kp.below hB3), x0.below hB3 x0.lt, b1, b2, wb, hpl, x0.lt, ?_, hp⟩
    simp at hgw
    omega
  clear HQ hq hgw wb hB2 g1 g2 z0 z1 z2 z3 z4 hz x0 hK1 hA hb
  generalize w1'.heap.size = ge at *
  simp only [strs, List.map_cons, List.map_nil, List.length_cons, List.length_nil] at EA0 ⊢
  have d0 := EA0.wb.cell (i := 0) rfl
  have d1 := EA0.wb.cell (i := 1) rfl
  go_wp2_with fail
  refine wp_loop_rounds 3 ?_
  have HQ := wantYes pb t0 t1 (y :: ts) ⟨#[64]⟩ w2 EA0.at' (by simpa [sT] using hs0)
  rw [rounds_succ]
  go_wp2_with fail
  refine HQ.mono ?_
  rintro e w3 ⟨rfl, ha3, hk3⟩
  have EB0 := EA0.go hk3 ha3
  clear HQ hk3 ha3 EA0 d0 d1
  go_wp2_with fail
  have d0 := EB0.wb.cell (i := 0) rfl
  have d1 := EB0.wb.cell (i := 1) rfl
  have HQ := smallYes pb t1 y ts w3 EB0.at' hk1 hx1 hn1
  rw [rounds_succ]
  go_wp2_with fail
  refine HQ.mono ?_
  rintro e w5 ⟨vN, rfl, hR, ha3, hk3⟩
  have EB1 := EB0.go hk3 ha3
  replace hR : (Fl.b t1.text).Rd (fr (ge + 1) w5) vN := Fl.Rd.cm (cm_mono (by have := EB0.wb.lt; have := EB0.h3; omega) _) _ _ hR
  obtain ⟨aN, cN, rfl, hS⟩ := hR
  have hR : (Fl.b t1.text).Rd (fr (ge + 1) w5) (.slice aN t1.text.length cN) := ⟨aN, cN, rfl, hS⟩
  clear hS
  clear HQ hk3 ha3 EB0 d0 d1
  have r1 := EB1.eb.cell (i := 3) rfl
  have r1f := EB1.eb.free 3
  go_wp2_with fail
  have EC1 := EB1.set 3 (.slice aN t1.text.length cN)
  simp only [List.set_cons_succ, List.set_cons_zero] at EC1
  replace hR := Fl.Rd.cm (cm_set (g := ge) (i := 3) (u := (.slice aN t1.text.length cN)) (Nat.lt_succ_self ge)) _ _ hR
  clear EB1 r1 r1f
  generalize w5.setCell ⟨ge, 3, none⟩ (.slice aN t1.text.length cN) = w6 at *
  have d0 := EC1.wb.cell (i := 0) rfl
  have d1 := EC1.wb.cell (i := 1) rfl
  rw [rounds_succ]
  have r0 := EC1.eb.cell (i := 0) rfl
  have y0 := EC1.xb.cell (i := 0) rfl
  have u0 := EC1.xb.free 0
  have r1 := EC1.eb.cell (i := 1) rfl
  have y1 := EC1.xb.cell (i := 1) rfl
  have u1 := EC1.xb.free 1
  have r2 := EC1.eb.cell (i := 2) rfl
  have y2 := EC1.xb.cell (i := 2) rfl
  have u2 := EC1.xb.free 2
  have r3 := EC1.eb.cell (i := 3) rfl
  have y3 := EC1.xb.cell (i := 3) rfl
  have u3 := EC1.xb.free 3
  have r4 := EC1.eb.cell (i := 4) rfl
  have y4 := EC1.xb.cell (i := 4) rfl
  have u4 := EC1.xb.free 4
  have HR : Hid _ := EC1.fin (r := (Ex.mk 7 0 [] t1.text []).fl) (by unfold Ex.fl; exact ⟨_, _, rfl, rfl, _, _, rfl, rfl, _, _, rfl, rd_none _, _, _, rfl, Fl.Rd.cm (cm_mono (by have := EC1.h2; omega) _) _ _ hR, _, _, rfl, rd_noL _ _, rfl⟩)
  clear EC1
  go_wp2_with fail
  generalize ((((w6.setCell ⟨W.heap.size, 0, none⟩ (.int .i64 7)).setCell ⟨W.heap.size, 1, none⟩ (.int .i64 0)).setCell ⟨W.heap.size, 2, none⟩ (.slice none 0 0)).setCell ⟨W.heap.size, 3, none⟩ (.slice aN t1.text.length cN)).setCell ⟨W.heap.size, 4, none⟩ (.slice none 0 0) = wz at *
  obtain ⟨bR, rR⟩ := HR.out
  have e0 := bR.cell (i := 0) rfl
  have e1 := bR.cell (i := 1) rfl
  have e2 := bR.cell (i := 2) rfl
  have e3 := bR.cell (i := 3) rfl
  have e4 := bR.cell (i := 4) rfl
  refine bodyPost_ret (v := agg [.int .i64 7, .int .i64 0, .slice none 0 0, .slice aN t1.text.length cN, .slice none 0 0]) ?_ rfl ⟨_, rfl, rR⟩
  simp [results, Tryz.results147, go_sem, e0, e1, e2, e3, e4, agg]

attribute [local go_sem] Oper.semAt_some

def PsX (ts : List Tok) (x : Ex) (r : List Tok) : Prop := ∀ (W0 W : World) (pb : Nat), Tabs W0 → Below W0.heap.size W0 W → W0.heap.size ≤ pb → At W pb ts →
  Calls Tryz.prog 120 #[.pointer (some ⟨pb, 0, none⟩)] W fun e W' => ∃ vs, e = .returned (agg vs) ∧ RdVals (fr W.heap.size W') x.fl vs ∧ At W' pb r ∧ Kp pb W W'

theorem rd5 {w : World} {x : Ex} {vs : List Value} (h : RdVals w x.fl vs) : ∃ k n a1 n1 c1 a2 n2 c2 a3 n3 c3, vs = [.int .i64 k, .int .i64 n, .slice a1 n1 c1, .slice a2 n2 c2, .slice a3 n3 c3] := by
  cases x with
  | mk k n m a ks =>
    unfold Ex.fl at h
    obtain ⟨y0, _, rfl, rfl, y1, _, rfl, rfl, y2, _, rfl, ⟨a2, c2, rfl, _⟩, y3, _, rfl, ⟨a3, c3, rfl, _⟩, y4, _, rfl, ⟨a4, c4, rfl, _⟩, rfl⟩ := h
    exact ⟨_, _, _, _, _, _, _, _, _, _, _, rfl⟩

theorem fin5 {W w : World} {pb : Nat} {ts : List Tok} {a0 a1 a2 a3 a4 o0 o1 o2 o3 o4 : Value} {r : List Fl} (b0 : Blk w W.heap.size 122 [o0, o1, o2, o3, o4]) (ha : At w pb ts) (hk : Kp pb W w) (hr : RdVals (fr (W.heap.size + 1) w) r [a0, a1, a2, a3, a4]) :
    Blk (((((w.setCell ⟨W.heap.size, 0, none⟩ a0).setCell ⟨W.heap.size, 1, none⟩ a1).setCell ⟨W.heap.size, 2, none⟩ a2).setCell ⟨W.heap.size, 3, none⟩ a3).setCell ⟨W.heap.size, 4, none⟩ a4) W.heap.size 122 [a0, a1, a2, a3, a4] ∧ RdVals (fr W.heap.size (((((w.setCell ⟨W.heap.size, 0, none⟩ a0).setCell ⟨W.heap.size, 1, none⟩ a1).setCell ⟨W.heap.size, 2, none⟩ a2).setCell ⟨W.heap.size, 3, none⟩ a3).setCell ⟨W.heap.size, 4, none⟩ a4)) r [a0, a1, a2, a3, a4] ∧ At (((((w.setCell ⟨W.heap.size, 0, none⟩ a0).setCell ⟨W.heap.size, 1, none⟩ a1).setCell ⟨W.heap.size, 2, none⟩ a2).setCell ⟨W.heap.size, 3, none⟩ a3).setCell ⟨W.heap.size, 4, none⟩ a4) pb ts ∧ Kp pb W (((((w.setCell ⟨W.heap.size, 0, none⟩ a0).setCell ⟨W.heap.size, 1, none⟩ a1).setCell ⟨W.heap.size, 2, none⟩ a2).setCell ⟨W.heap.size, 3, none⟩ a3).setCell ⟨W.heap.size, 4, none⟩ a4) := by
  have b1 := b0.set (i := 0) a0
  have b2 := b1.set (i := 1) a1
  have b3 := b2.set (i := 2) a2
  have b4 := b3.set (i := 3) a3
  have b5 := b4.set (i := 4) a4
  have l := Nat.lt_succ_self W.heap.size
  have c : ∀ (A : World) (i : Nat) (u : Value), RdVals (fr (W.heap.size + 1) A) r [a0, a1, a2, a3, a4] → RdVals (fr (W.heap.size + 1) (A.setCell ⟨W.heap.size, i, none⟩ u)) r [a0, a1, a2, a3, a4] := fun A i u hh => RdVals.cm (cm_set l) hh
  exact ⟨b5, RdVals.cm (cm_mono (Nat.le_succ _) _) (c _ _ _ (c _ _ _ (c _ _ _ (c _ _ _ (c _ _ _ hr))))), ((((ha.far b0).far b1).far b2).far b3).far b4, ((((hk.far (Nat.le_refl _)).far (Nat.le_refl _)).far (Nat.le_refl _)).far (Nat.le_refl _)).far (Nat.le_refl _)⟩

theorem psX {t : Tok} {ts r : List Tok} {x : Ex} (h : PsA (t :: ts) x r) (ht : sT t.text [64] = false) : PsX (t :: ts) x r := by
  intro W0 W pb hT hb hp hA
  have x0 := Blk.new W 122 [.int .i64 0, .int .i64 0, .slice none 0 0, .slice none 0 0, .slice none 0 0]
  have hB := below_grown (grown_alloc W (.cells #[.int .i64 0, .int .i64 0, .slice none 0 0, .slice none 0 0, .slice none 0 0] 122 (0, 0)) none)
  replace hb := hb.trans (hB.mono hb.size)
  have hpl : pb < W.heap.size := by obtain ⟨_, _, _, h1, _⟩ := hA.ex; exact h1.lt
  replace hA := hA.kp hB
  have hK1 : Kp pb W _ := Kp.below hB
  clear hB
  have H1 := seesC pb t ts ⟨#[64]⟩ _ hA
  have H2 := h W0 _ pb hT hb hp hA
  rw [show ((strOfNums t.text).toList == (⟨#[64]⟩ : ByteArray).toList) = false by simpa [sT] using ht] at H1
  go_enter Tryz.func120, Tryz.ntmps120
  go_wp2_with fail
  refine H1.mono ?_
  rintro e w1 ⟨rfl, e2⟩
  subst e2
  clear H1
  go_wp2_with fail
  refine H2.mono ?_
  clear H2
  rintro e w2 ⟨vs, rfl, hR, hA2, hK2⟩
  have hs1 : (W.alloc (.cells #[.int .i64 0, .int .i64 0, .slice none 0 0, .slice none 0 0, .slice none 0 0] 122 (0, 0))).heap.size = W.heap.size + 1 := by simp
  rw [hs1] at hR
  have x2 := hK2.blk x0 (by omega)
  have hK3 := hK1.trans hK2
  clear x0 hA hb hK1 hK2 hs1
  obtain ⟨k, n, a1, n1, c1, a2, n2, c2, a3, n3, c3, rfl⟩ := rd5 hR
  have y0 := x2.cell (i := 0) rfl
  have y1 := x2.cell (i := 1) rfl
  have y2 := x2.cell (i := 2) rfl
  have y3 := x2.cell (i := 3) rfl
  have y4 := x2.cell (i := 4) rfl
  have u0 := x2.free 0
  have u1 := x2.free 1
  have u2 := x2.free 2
  have u3 := x2.free 3
  have u4 := x2.free 4
  have HR : Hid _ := fin5 x2 hA2 hK3 hR
  clear x2 hA2 hK3 hR
  simp only [agg]
  go_wp2_with fail
  generalize ((((w2.setCell ⟨W.heap.size, 0, none⟩ (.int .i64 k)).setCell ⟨W.heap.size, 1, none⟩ (.int .i64 n)).setCell ⟨W.heap.size, 2, none⟩ (.slice a1 n1 c1)).setCell ⟨W.heap.size, 3, none⟩ (.slice a2 n2 c2)).setCell ⟨W.heap.size, 4, none⟩ (.slice a3 n3 c3) = wz at *
  obtain ⟨bR, rR⟩ := HR.out
  have e0 := bR.cell (i := 0) rfl
  have e1 := bR.cell (i := 1) rfl
  have e2 := bR.cell (i := 2) rfl
  have e3 := bR.cell (i := 3) rfl
  have e4 := bR.cell (i := 4) rfl
  refine bodyPost_ret (v := agg [.int .i64 k, .int .i64 n, .slice a1 n1 c1, .slice a2 n2 c2, .slice a3 n3 c3]) ?_ rfl ⟨_, rfl, rR⟩
  simp [results, Tryz.results120, go_sem, e0, e1, e2, e3, e4, agg]
def PsC (ts : List Tok) (x : Ex) (r : List Tok) : Prop := ∀ (W0 W : World) (pb : Nat), Tabs W0 → Below W0.heap.size W0 W → W0.heap.size ≤ pb → At W pb ts →
  Calls Tryz.prog 121 #[.pointer (some ⟨pb, 0, none⟩)] W fun e W' => ∃ vs, e = .returned (agg vs) ∧ RdVals (fr W.heap.size W') x.fl vs ∧ At W' pb r ∧ Kp pb W W'
theorem psC {t u : Tok} {ts r : List Tok} {x : Ex} (h : PsX (t :: u :: ts) x r) (ht : exK t u = (6, true)) : PsC (t :: u :: ts) x r := by
  intro W0 W pb hT hb hp hA
  have x0 := Blk.new W 122 [.int .i64 0, .int .i64 0, .slice none 0 0, .slice none 0 0, .slice none 0 0]
  have hB := below_grown (grown_alloc W (.cells #[.int .i64 0, .int .i64 0, .slice none 0 0, .slice none 0 0, .slice none 0 0] 122 (0, 0)) none)
  replace hb := hb.trans (hB.mono hb.size)
  have hpl : pb < W.heap.size := by obtain ⟨_, _, _, h1, _⟩ := hA.ex; exact h1.lt
  replace hA := hA.kp hB
  have hK1 : Kp pb W _ := Kp.below hB
  clear hB
  have H1 := exKC pb t u ts _ hA
  have H2 := h W0 _ pb hT hb hp hA
  rw [ht] at H1
  go_enter Tryz.func121, Tryz.ntmps121
  go_wp2_with fail
  refine H1.mono ?_
  rintro e w1 ⟨rfl, e2⟩
  subst e2
  clear H1
  go_wp2_with fail
  refine H2.mono ?_
  clear H2
  rintro e w2 ⟨vs, rfl, hR, hA2, hK2⟩
  have hs1 : (W.alloc (.cells #[.int .i64 0, .int .i64 0, .slice none 0 0, .slice none 0 0, .slice none 0 0] 122 (0, 0))).heap.size = W.heap.size + 1 := by simp
  rw [hs1] at hR
  have x2 := hK2.blk x0 (by omega)
  have hK3 := hK1.trans hK2
  clear x0 hA hb hK1 hK2 hs1
  obtain ⟨k, n, a1, n1, c1, a2, n2, c2, a3, n3, c3, rfl⟩ := rd5 hR
  have y0 := x2.cell (i := 0) rfl
  have y1 := x2.cell (i := 1) rfl
  have y2 := x2.cell (i := 2) rfl
  have y3 := x2.cell (i := 3) rfl
  have y4 := x2.cell (i := 4) rfl
  have u0 := x2.free 0
  have u1 := x2.free 1
  have u2 := x2.free 2
  have u3 := x2.free 3
  have u4 := x2.free 4
  have HR : Hid _ := fin5 x2 hA2 hK3 hR
  clear x2 hA2 hK3 hR
  simp only [agg]
  go_wp2_with fail
  generalize ((((w2.setCell ⟨W.heap.size, 0, none⟩ (.int .i64 k)).setCell ⟨W.heap.size, 1, none⟩ (.int .i64 n)).setCell ⟨W.heap.size, 2, none⟩ (.slice a1 n1 c1)).setCell ⟨W.heap.size, 3, none⟩ (.slice a2 n2 c2)).setCell ⟨W.heap.size, 4, none⟩ (.slice a3 n3 c3) = wz at *
  obtain ⟨bR, rR⟩ := HR.out
  have e0 := bR.cell (i := 0) rfl
  have e1 := bR.cell (i := 1) rfl
  have e2 := bR.cell (i := 2) rfl
  have e3 := bR.cell (i := 3) rfl
  have e4 := bR.cell (i := 4) rfl
  refine bodyPost_ret (v := agg [.int .i64 k, .int .i64 n, .slice a1 n1 c1, .slice a2 n2 c2, .slice a3 n3 c3]) ?_ rfl ⟨_, rfl, rR⟩
  simp [results, Tryz.results121, go_sem, e0, e1, e2, e3, e4, agg]
attribute [local go_sem] Oper.semAt_some

theorem At.farT {W : World} {pb ge i T : Nat} {ts : List Tok} {ev : List Value} {v : Value} (h : At W pb ts) (he : Blk W ge T ev) (t1 : T ≠ 38) (t2 : T ≠ 53) : At (W.setCell ⟨ge, i, none⟩ v) pb ts := by
  obtain ⟨g, o, c, h1, h2, h3, ⟨cs, f, h5⟩, h4⟩ := h.ex
  have he' : W.heap[ge]? = _ := he
  have n1 : pb ≠ ge := by
    rintro rfl
    have h' : W.heap[pb]? = _ := h1
    rw [h'] at he'
    simp only [Option.some.injEq, Obj.cells.injEq] at he'
    exact t1 he'.2.1.symm
  have n2 : g ≠ ge := by
    rintro rfl
    rw [h5] at he'
    simp only [Option.some.injEq, Obj.cells.injEq] at he'
    exact t2 he'.2.1.symm
  refine ⟨g, o, c, h1.other n1, h2, h3, ⟨cs, f, (heap_setCell_other W ⟨ge, i, none⟩ g v n2).trans h5⟩, fun j u hu => ?_⟩
  rw [World.cell?_of_block (heap_setCell_other W ⟨ge, i, none⟩ g v n2)]
  exact h4 j u hu

/-- A result of two cells is laid down. -/
theorem fin2 {W w : World} {pb T : Nat} {ts : List Tok} {a0 a1 o0 o1 : Value} {r : List Fl} (b0 : Blk w W.heap.size T [o0, o1]) (t1 : T ≠ 38) (t2 : T ≠ 53) (ha : At w pb ts) (hk : Kp pb W w) (hr : RdVals (fr (W.heap.size + 1) w) r [a0, a1]) :
    Blk ((w.setCell ⟨W.heap.size, 0, none⟩ a0).setCell ⟨W.heap.size, 1, none⟩ a1) W.heap.size T [a0, a1] ∧ RdVals (fr W.heap.size ((w.setCell ⟨W.heap.size, 0, none⟩ a0).setCell ⟨W.heap.size, 1, none⟩ a1)) r [a0, a1] ∧ At ((w.setCell ⟨W.heap.size, 0, none⟩ a0).setCell ⟨W.heap.size, 1, none⟩ a1) pb ts ∧ Kp pb W ((w.setCell ⟨W.heap.size, 0, none⟩ a0).setCell ⟨W.heap.size, 1, none⟩ a1) := by
  have b1 := b0.set (i := 0) a0
  have b2 := b1.set (i := 1) a1
  have l := Nat.lt_succ_self W.heap.size
  exact ⟨b2, RdVals.cm (cm_mono (Nat.le_succ _) _) (RdVals.cm (cm_set l) (RdVals.cm (cm_set l) hr)), (ha.farT b0 t1 t2).farT b1 t1 t2, (hk.far (Nat.le_refl _)).far (Nat.le_refl _)⟩

theorem takeParam (b : Bool) (pb : Nat) (x y : Tok) (ts ts0 : List Tok) (W : World) (h : At W pb ts0)
    (HG : ∀ w, At w pb ts0 → Calls Tryz.prog 20 #[.pointer (some ⟨pb, 0, none⟩), .string ⟨#[64]⟩] w fun e w' => e = .returned (.bool b) ∧ At w' pb (x :: y :: ts) ∧ Kp pb w w') (hk : x.kind = 3) (hx : ∀ b ∈ x.text, 0 ≤ b ∧ b ≤ 255) (hn : x.text.length ≤ 3000) :
    Calls Tryz.prog 52 #[.pointer (some ⟨pb, 0, none⟩)] W fun e W' => ∃ vs, e = .returned (agg vs) ∧ RdVals (fr W.heap.size W') (Pa.mk x.text b).fl vs ∧ At W' pb (y :: ts) ∧ Kp pb W W' := by
  have hlt : pb < W.heap.size := by obtain ⟨_, _, _, h1, _⟩ := h.ex; exact h1.lt
  have x0 := Blk.new W 98 [.slice none 0 0, .bool false]
  have hB := below_grown (grown_alloc W (.cells #[.slice none 0 0, .bool false] 98 (0, 0)) none)
  have HS := HG _ (h.kp hB)
  have hK1 : Kp pb W _ := Kp.below hB
  have hs1 : (W.alloc (.cells #[.slice none 0 0, .bool false] 98 (0, 0))).heap.size = W.heap.size + 1 := by simp
  clear h HG hB
  go_enter Tryz.func52, Tryz.ntmps52
  go_wp2_with fail
  refine HS.mono ?_
  rintro e w1 ⟨rfl, hA1, hK2⟩
  have HN := smallYes pb x y ts w1 hA1 hk hx hn
  have hsz := hK2.size
  rw [hs1] at hsz
  replace x0 := hK2.blk x0 (by omega)
  replace hK1 := hK1.trans hK2
  clear HS hA1 hK2 hs1
  go_wp2_with fail
  refine HN.mono ?_
  rintro e w2 ⟨v, rfl, hR, hA2, hK2⟩
  replace x0 := hK2.blk x0 (by omega)
  replace hK1 := hK1.trans hK2
  replace hR : (Fl.b x.text).Rd (fr (W.heap.size + 1) w2) v := Fl.Rd.cm (cm_mono hsz _) _ _ hR
  obtain ⟨aN, cN, rfl, hS⟩ := hR
  have y0 := x0.cell (i := 0) rfl
  have y1 := x0.cell (i := 1) rfl
  have u0 := x0.free 0
  have u1 := x0.free 1
  have HR : Hid _ := fin2 (a0 := .slice aN x.text.length cN) (a1 := .bool b) (r := (Pa.mk x.text b).fl) x0 (by decide) (by decide) hA2 hK1 ⟨_, _, rfl, ⟨aN, cN, rfl, hS⟩, _, _, rfl, rfl, rfl⟩
  clear HN hK2 x0 hK1 hA2 hS
  go_wp2_with fail
  generalize (w2.setCell ⟨W.heap.size, 0, none⟩ (.slice aN x.text.length cN)).setCell ⟨W.heap.size, 1, none⟩ (.bool b) = wz at *
  obtain ⟨bR, rR⟩ := HR.out
  have e0 := bR.cell (i := 0) rfl
  have e1 := bR.cell (i := 1) rfl
  refine bodyPost_ret (v := agg [.slice aN x.text.length cN, .bool b]) ?_ rfl ⟨_, rfl, rR⟩
  simp [results, Tryz.results52, go_sem, e0, e1, agg]

theorem paramNo (pb : Nat) (x y : Tok) (ts : List Tok) (W : World) (h : At W pb (x :: y :: ts)) (hs : sT x.text [64] = false) (hk : x.kind = 3) (hx : ∀ b ∈ x.text, 0 ≤ b ∧ b ≤ 255) (hn : x.text.length ≤ 3000) :
    Calls Tryz.prog 52 #[.pointer (some ⟨pb, 0, none⟩)] W fun e W' => ∃ vs, e = .returned (agg vs) ∧ RdVals (fr W.heap.size W') (Pa.mk x.text false).fl vs ∧ At W' pb (y :: ts) ∧ Kp pb W W' :=
  takeParam false pb x y ts _ W h (fun w hw => (gotNo pb x (y :: ts) ⟨#[64]⟩ w hw (by simpa [sT] using hs)).mono (by rintro e w' ⟨rfl, rfl⟩; exact ⟨rfl, hw, Kp.refl _ _⟩)) hk hx hn
theorem paramYes (pb : Nat) (t x y : Tok) (ts : List Tok) (W : World) (h : At W pb (t :: x :: y :: ts)) (hs : sT t.text [64] = true) (hk : x.kind = 3) (hx : ∀ b ∈ x.text, 0 ≤ b ∧ b ≤ 255) (hn : x.text.length ≤ 3000) :
    Calls Tryz.prog 52 #[.pointer (some ⟨pb, 0, none⟩)] W fun e W' => ∃ vs, e = .returned (agg vs) ∧ RdVals (fr W.heap.size W') (Pa.mk x.text true).fl vs ∧ At W' pb (y :: ts) ∧ Kp pb W W' :=
  takeParam true pb x y ts _ W h (fun w hw => gotYes pb t x (y :: ts) ⟨#[64]⟩ w hw (by simpa [sT] using hs)) hk hx hn

theorem varNo (pb : Nat) (x y : Tok) (ts : List Tok) (W : World) (h : At W pb (x :: y :: ts)) (hk : x.kind = 3) (hx : ∀ b ∈ x.text, 0 ≤ b ∧ b ≤ 255) (hn : x.text.length ≤ 3000) (hs : sT y.text [91] = false) :
    Calls Tryz.prog 21 #[.pointer (some ⟨pb, 0, none⟩)] W fun e W' => ∃ vs, e = .returned (agg vs) ∧ RdVals (fr W.heap.size W') (Va.mk x.text 0).fl vs ∧ At W' pb (y :: ts) ∧ Kp pb W W' := by
  have hlt : pb < W.heap.size := by obtain ⟨_, _, _, h1, _⟩ := h.ex; exact h1.lt
  have x0 := Blk.new W 59 [.slice none 0 0, .int .i64 0]
  have hB := below_grown (grown_alloc W (.cells #[.slice none 0 0, .int .i64 0] 59 (0, 0)) none)
  have HN := smallYes pb x y ts _ (h.kp hB) hk hx hn
  have hK1 : Kp pb W _ := Kp.below hB
  have hs1 : (W.alloc (.cells #[.slice none 0 0, .int .i64 0] 59 (0, 0))).heap.size = W.heap.size + 1 := by simp
  clear h hB
  go_enter Tryz.func21, Tryz.ntmps21
  go_wp2_with fail
  refine HN.mono ?_
  rintro e w1 ⟨v, rfl, hR, hA1, hK2⟩
  have hsz := hK2.size
  rw [hs1] at hsz hR
  replace x0 := hK2.blk x0 (by omega)
  replace hK1 := hK1.trans hK2
  clear HN hK2 hs1
  obtain ⟨aN, cN, rfl, hS⟩ := hR
  have hB2 := below_grown (grown_alloc w1 (.cells #[.slice aN x.text.length cN, .int .i64 0] 59 (0, 0)) none)
  have v0 := Blk.new w1 59 [.slice aN x.text.length cN, .int .i64 0]
  have HG := gotNo pb y ts ⟨#[91]⟩ _ (hA1.kp hB2) (by simpa [sT] using hs)
  have hA2 := hA1.kp hB2
  have hK3 := hK1.trans (Kp.below (pb := pb) hB2)
  have x2 := x0.below hB2 x0.lt
  have hR2 : (Fl.b x.text).Rd (fr (W.heap.size + 1) (w1.alloc (.cells #[.slice aN x.text.length cN, .int .i64 0] 59 (0, 0)))) (.slice aN x.text.length cN) := Fl.Rd.cm ((Kp.below (pb := pb) hB2).cm (by omega)) _ _ ⟨aN, cN, rfl, hS⟩
  go_wp2_with fail
  refine HG.mono ?_
  clear hB2 HG
  generalize hwa : w1.alloc (.cells #[.slice aN x.text.length cN, .int .i64 0] 59 (0, 0)) = w2 at *
  rintro e w2' ⟨rfl, e2⟩
  subst e2
  have y0 := x2.cell (i := 0) rfl
  have y1 := x2.cell (i := 1) rfl
  have u0 := x2.free 0
  have u1 := x2.free 1
  have q0 := v0.cell (i := 0) rfl
  have q1 := v0.cell (i := 1) rfl
  have HR : Hid _ := fin2 (a0 := .slice aN x.text.length cN) (a1 := .int .i64 0) (r := (Va.mk x.text 0).fl) x2 (by decide) (by decide) hA2 hK3 ⟨_, _, rfl, hR2, _, _, rfl, rfl, rfl⟩
  clear x0 x2 v0 hA1 hA2 hK1 hK3 hS hR2 hwa
  generalize w1.heap.size = gv at *
  go_wp2_with fail
  generalize (w2'.setCell ⟨W.heap.size, 0, none⟩ (.slice aN x.text.length cN)).setCell ⟨W.heap.size, 1, none⟩ (.int .i64 0) = wz at *
  obtain ⟨bR, rR⟩ := HR.out
  have e0 := bR.cell (i := 0) rfl
  have e1 := bR.cell (i := 1) rfl
  refine bodyPost_ret (v := agg [.slice aN x.text.length cN, .int .i64 0]) ?_ rfl ⟨_, rfl, rR⟩
  simp [results, Tryz.results21, go_sem, e0, e1, agg]
theorem varYes (pb : Nat) (x y t u z : Tok) (n : Int) (ts : List Tok) (W : World) (h : At W pb (x :: y :: t :: u :: z :: ts)) (hk : x.kind = 3) (hx : ∀ b ∈ x.text, 0 ≤ b ∧ b ≤ 255) (hn : x.text.length ≤ 3000) (hs : sT y.text [91] = true) (htk : t.kind = 5) (htn : t.text.length ≤ 3000) (hta : Lib.atoiAll (strOfNums t.text).data.toList = .ok n) (hn1 : 1 ≤ n) (hn2 : n ≤ 2147483647) (hu : sT u.text [93] = true) :
    Calls Tryz.prog 21 #[.pointer (some ⟨pb, 0, none⟩)] W fun e W' => ∃ vs, e = .returned (agg vs) ∧ RdVals (fr W.heap.size W') (Va.mk x.text n).fl vs ∧ At W' pb (z :: ts) ∧ Kp pb W W' := by
  have hlt : pb < W.heap.size := by obtain ⟨_, _, _, h1, _⟩ := h.ex; exact h1.lt
  have x0 := Blk.new W 59 [.slice none 0 0, .int .i64 0]
  have hB := below_grown (grown_alloc W (.cells #[.slice none 0 0, .int .i64 0] 59 (0, 0)) none)
  have HN := smallYes pb x y (t :: u :: z :: ts) _ (h.kp hB) hk hx hn
  have hK1 : Kp pb W _ := Kp.below hB
  have hs1 : (W.alloc (.cells #[.slice none 0 0, .int .i64 0] 59 (0, 0))).heap.size = W.heap.size + 1 := by simp
  clear h hB
  go_enter Tryz.func21, Tryz.ntmps21
  go_wp2_with fail
  refine HN.mono ?_
  rintro e w1 ⟨v, rfl, hR, hA1, hK2⟩
  have hsz := hK2.size
  rw [hs1] at hsz hR
  replace x0 := hK2.blk x0 (by omega)
  replace hK1 := hK1.trans hK2
  clear HN hK2 hs1
  obtain ⟨aN, cN, rfl, hS⟩ := hR
  have hB2 := below_grown (grown_alloc w1 (.cells #[.slice aN x.text.length cN, .int .i64 0] 59 (0, 0)) none)
  have v0 := Blk.new w1 59 [.slice aN x.text.length cN, .int .i64 0]
  have HG := gotYes pb y t (u :: z :: ts) ⟨#[91]⟩ _ (hA1.kp hB2) (by simpa [sT] using hs)
  have hK3 := hK1.trans (Kp.below (pb := pb) hB2)
  have x2 := x0.below hB2 x0.lt
  have hne : pb < w1.heap.size := by omega
  have hKw : Kp pb w1 _ := Kp.below (pb := pb) hB2
  go_wp2_with fail
  refine HG.mono ?_
  clear hB2 HG
  rintro e w2 ⟨rfl, hA2, hK4⟩
  replace v0 := hK4.blk v0 (by omega)
  replace x2 := hK4.blk x2 (by omega)
  replace hK3 := hK3.trans hK4
  replace hKw := hKw.trans hK4
  have HM := numYes pb t u (z :: ts) 1 2147483647 n w2 hA2 htk htn hta hn1 hn2
  clear hK4 hA2
  go_wp2_with fail
  refine HM.mono ?_
  clear HM
  rintro e w3 ⟨rfl, hA3, hK4⟩
  replace v0 := hK4.blk v0 (by omega)
  replace x2 := hK4.blk x2 (by omega)
  replace hK3 := hK3.trans hK4
  replace hKw := hKw.trans hK4
  have q1 := v0.cell (i := 1) rfl
  have f1 := v0.free 1
  have HW := wantYes pb u z ts ⟨#[93]⟩ _ (hA3.farT (i := 1) (v := .int .i64 n) v0 (by decide) (by decide)) (by simpa [sT] using hu)
  have v1 := v0.set (i := 1) (.int .i64 n)
  have x3 := x2.other (k := w1.heap.size) (i := 1) (v := .int .i64 n) (by omega)
  have hK5 := hK3.far (g := w1.heap.size) (i := 1) (v := .int .i64 n) (by omega)
  have hKv := hKw.far (g := w1.heap.size) (i := 1) (v := .int .i64 n) (Nat.le_refl _)
  clear hK4 hA3 v0 x2 hK3 hKw
  go_wp2_with fail
  refine HW.mono ?_
  clear HW
  generalize w3.setCell ⟨w1.heap.size, 1, none⟩ (.int .i64 n) = w4 at *
  rintro e w5 ⟨rfl, hA5, hK6⟩
  replace v1 := hK6.blk v1 (by omega)
  replace x3 := hK6.blk x3 (by omega)
  replace hK5 := hK5.trans hK6
  replace hKv := hKv.trans hK6
  have hR2 : (Fl.b x.text).Rd (fr (W.heap.size + 1) w5) (.slice aN x.text.length cN) := Fl.Rd.cm (hKv.cm (by omega)) _ _ ⟨aN, cN, rfl, hS⟩
  have y0 := x3.cell (i := 0) rfl
  have y1 := x3.cell (i := 1) rfl
  have u0 := x3.free 0
  have u1 := x3.free 1
  have q0 := v1.cell (i := 0) rfl
  have q1 := v1.cell (i := 1) rfl
  have HR : Hid _ := fin2 (a0 := .slice aN x.text.length cN) (a1 := .int .i64 n) (r := (Va.mk x.text n).fl) x3 (by decide) (by decide) hA5 hK5 ⟨_, _, rfl, hR2, _, _, rfl, rfl, rfl⟩
  clear x0 x3 v1 hA1 hA5 hK1 hK5 hKv hK6 hS hR2
  generalize w1.heap.size = gv at *
  go_wp2_with fail
  generalize (w5.setCell ⟨W.heap.size, 0, none⟩ (.slice aN x.text.length cN)).setCell ⟨W.heap.size, 1, none⟩ (.int .i64 n) = wz at *
  obtain ⟨bR, rR⟩ := HR.out
  have e0 := bR.cell (i := 0) rfl
  have e1 := bR.cell (i := 1) rfl
  refine bodyPost_ret (v := agg [.slice aN x.text.length cN, .int .i64 n]) ?_ rfl ⟨_, rfl, rR⟩
  simp [results, Tryz.results21, go_sem, e0, e1, agg]

/-- The world without the block g. -/
def wo (g : Option Nat) (W : World) : World := { W with heap := W.heap.mapIdx fun i o => if some i = g then .deferred none else o }
theorem wo_cell {g : Option Nat} {W : World} {a : Addr} {v : Value} : (wo g W).cell? a = some v ↔ some a.block ≠ g ∧ W.cell? a = some v := by
  unfold World.cell?
  have e : (wo g W).heap[a.block]? = (W.heap[a.block]?).map fun o => if some a.block = g then .deferred none else o := by simp [wo]
  rw [e]
  by_cases h : some a.block = g
  · constructor
    · intro h'
      cases hh : W.heap[a.block]? with
      | none => rw [hh] at h'; cases h'
      | some o => rw [hh] at h'; simp [h] at h'
    · intro h'; exact absurd h h'.1
  · have e : (W.heap[a.block]?).map (fun o => if some a.block = g then Obj.deferred none else o) = W.heap[a.block]? := by simp [h]
    rw [e]
    exact ⟨fun h' => ⟨h, h'⟩, fun h' => h'.2⟩
theorem fw_cell {N : Nat} {g : Option Nat} {W : World} {a : Addr} {v : Value} : (fr N (wo g W)).cell? a = some v ↔ N ≤ a.block ∧ some a.block ≠ g ∧ W.cell? a = some v := by
  rw [fr_cell, wo_cell]

theorem rdRec_of {w : World} {b : Nat} : ∀ {r : List Fl} {vs : List Value} {off : Nat}, RdVals w r vs → (∀ i v, vs[i]? = some v → w.cell? ⟨b, off + i, none⟩ = some v) → RdRec w b off r
  | [], _, _, _, _ => trivial
  | f :: r, vs, off, h, hc => by
    obtain ⟨v, us, rfl, h1, h2⟩ := h
    refine ⟨⟨v, hc 0 v rfl, h1⟩, rdRec_of h2 (fun i u hu => ?_)⟩
    have := hc (i + 1) u (by simpa using hu)
    rwa [show off + (i + 1) = off + 1 + i by omega] at this

/-- Each record's values read as its fields. -/
def RdAll (w : World) (k : Nat) : List (List Fl) → List (List Value) → Prop
  | [], xss => xss = []
  | r :: rs, xss => ∃ vs xs', xss = vs :: xs' ∧ vs.length = k ∧ RdVals w r vs ∧ RdAll w k rs xs'
theorem RdAll.cm {A B : World} {k : Nat} (hc : Cm A B) : ∀ {rs : List (List Fl)} {xss : List (List Value)}, RdAll A k rs xss → RdAll B k rs xss
  | [], _, h => h
  | r :: rs, _, h => by
    obtain ⟨vs, xs', e, h1, h2, h3⟩ := h
    exact ⟨vs, xs', e, h1, RdVals.cm hc h2, RdAll.cm hc h3⟩
theorem RdAll.snoc {w : World} {k : Nat} {r : List Fl} {us : List Value} (hl : us.length = k) (hr : RdVals w r us) : ∀ {rs : List (List Fl)} {xss : List (List Value)}, RdAll w k rs xss → RdAll w k (rs ++ [r]) (xss ++ [us])
  | [], _, h => by
    rw [show _ = [] from h]
    exact ⟨us, [], rfl, hl, hr, rfl⟩
  | r' :: rs, _, h => by
    obtain ⟨vs, xs', rfl, h1, h2, h3⟩ := h
    exact ⟨vs, xs' ++ [us], rfl, h1, h2, RdAll.snoc hl hr h3⟩
theorem rdRows_of {w : World} {b k : Nat} : ∀ {rs : List (List Fl)} {xss : List (List Value)} {off : Nat}, RdAll w k rs xss → (∀ i v, xss.flatten[i]? = some v → w.cell? ⟨b, off + i, none⟩ = some v) → RdRows w b k off rs
  | [], _, _, _, _ => trivial
  | r :: rs, _, off, h, hc => by
    obtain ⟨vs, xs', rfl, h1, h2, h3⟩ := h
    refine ⟨rdRec_of h2 (fun i u hu => hc i u ?_), rdRows_of h3 (fun i u hu => ?_)⟩
    · rw [List.flatten_cons, List.getElem?_append_left (List.getElem?_eq_some_iff.1 hu).1]; exact hu
    · have := hc (k + i) u (by rw [List.flatten_cons, List.getElem?_append_right (by omega), h1, Nat.add_sub_cancel_left]; exact hu)
      rwa [← Nat.add_assoc] at this

/-- A list of records of one's own, from N on. -/
structure GL (W : World) (N T k : Nat) (v : Value) (rs : List (List Fl)) : Prop where
  ex : ∃ xss, W.ownsRow N T k v rs.length xss.flatten ∧ RdAll (fr N (wo v.ownBlock W)) k rs xss
theorem GL.nil (W : World) (N T k : Nat) : GL W N T k (.slice none 0 0) [] := ⟨[], World.ownsRow_nil _ _ _ _, rfl⟩
theorem GL.on {W W' : World} {N T k : Nat} {v : Value} {rs : List (List Fl)} (h : GL W N T k v rs) (hs : ∀ g, N ≤ g → g < W.heap.size → W'.heap[g]? = W.heap[g]?) : GL W' N T k v rs := by
  obtain ⟨xss, h1, h2⟩ := h.ex
  refine ⟨xss, owns_stays h1 fun g hg => hs g (h1.lt g hg).1 (h1.lt g hg).2, RdAll.cm (fun a u hu => ?_) h2⟩
  obtain ⟨p, q, r⟩ := fw_cell.1 hu
  exact fw_cell.2 ⟨p, q, (World.cell?_of_block (hs _ p (World.block_lt_of_cell? _ _ r))).trans r⟩
theorem GL.kp {W W' : World} {N T k pb : Nat} {v : Value} {rs : List (List Fl)} (h : GL W N T k v rs) (hk : Kp pb W W') (hp : pb < N) : GL W' N T k v rs :=
  h.on fun g a b => hk.block g b (by omega)
theorem GL.far {W : World} {N T k g i : Nat} {v u : Value} {rs : List (List Fl)} (h : GL W N T k v rs) (hg : g < N) : GL (W.setCell ⟨g, i, none⟩ u) N T k v rs :=
  h.on fun k a b => heap_setCell_other W ⟨g, i, none⟩ k u (by show k ≠ g; omega)
theorem GL.below {W W' : World} {N T k : Nat} {v : Value} {rs : List (List Fl)} (h : GL W N T k v rs) (hk : Below W.heap.size W W') : GL W' N T k v rs :=
  h.on fun g a b => hk.block g b
theorem GL.push {W w' : World} {N T k g c M : Nat} {v : Value} {rs : List (List Fl)} {r : List Fl} {us : List Value} {xs : List Value} (hx : ∃ xss, xs = xss.flatten ∧ RdAll (fr N (wo v.ownBlock W)) k rs xss)
    (ho : w'.ownsRow N T k (.slice (some ⟨g, 0, none⟩) (rs.length + 1) c) (rs.length + 1) (xs ++ us)) (hg : W.grownBy w' v.ownBlock) (hat : v.ownBlock = some g ∨ g = W.heap.size) (hl : us.length = k) (hr : RdVals (fr M W) r us) (hM : N ≤ M) (hv : ∀ q, v.ownBlock = some q → q < M) :
    GL w' N T k (.slice (some ⟨g, 0, none⟩) (rs.length + 1) c) (rs ++ [r]) := by
  obtain ⟨xss, rfl, h2⟩ := hx
  have hc : Cm (fr N (wo v.ownBlock W)) (fr N (wo (some g) w')) := fun a u hu => by
    obtain ⟨p, q, h⟩ := fw_cell.1 hu
    have hlt := World.block_lt_of_cell? _ _ h
    refine fw_cell.2 ⟨p, ?_, (World.cell?_of_block (hg.block _ hlt q)).trans h⟩
    rcases hat with e | e
    · rw [← e]; exact q
    · intro e2; cases e2; omega
  have hm : Cm (fr M W) (fr N (wo v.ownBlock W)) := fun a u hu => by
    obtain ⟨p, h⟩ := fr_cell.1 hu
    exact fw_cell.2 ⟨by omega, fun e => by have := hv _ e.symm; omega, h⟩
  refine ⟨xss ++ [us], ?_, RdAll.snoc hl (RdVals.cm hc (RdVals.cm hm hr)) (RdAll.cm hc h2)⟩
  rw [List.length_append, List.flatten_append]
  simpa using ho
theorem GL.rd {W : World} {N T k : Nat} {v : Value} {rs : List (List Fl)} (h : GL W N T k v rs) : (Fl.l k rs).Rd (fr N W) v := by
  obtain ⟨xss, h1, h2⟩ := h.ex
  obtain ⟨a, c, rfl, h3, h4, h5, h6⟩ := owns_shape h1
  refine ⟨a, c, rfl, h3, h4, h5, fun hp => ?_⟩
  obtain ⟨g, rfl⟩ := h6 hp
  refine ⟨g, 0, rfl, rdRows_of (RdAll.cm (fun a u hu => ?_) h2) (fun i u hu => ?_)⟩
  · obtain ⟨p, _, r⟩ := fw_cell.1 hu
    exact fr_cell.2 ⟨p, r⟩
  · rw [Nat.zero_add]
    exact fr_cell.2 ⟨(h1.lt g rfl).1, owns_cells h1 i u hu⟩
/-- One record that was laid down. -/
theorem rd_lone {W : World} {N T k g : Nat} {r : List Fl} {us : List Value} (hb : Blk W g T us) (hN : N ≤ g) (hr : RdVals (fr N W) r us) (hl : us.length = k) : (Fl.l k [r]).Rd (fr N W) (.slice (some ⟨g, 0, none⟩) 1 1) := by
  refine ⟨_, _, rfl, Nat.le_refl _, (by unfold maxLen; omega), (fun h => by cases h), fun _ => ⟨g, 0, rfl, rdRec_of hr (fun i u hu => ?_), trivial⟩⟩
  rw [Nat.zero_add]
  exact fr_cell.2 ⟨hN, hb.cell hu⟩
theorem GL.sh {W : World} {N T k : Nat} {v : Value} {rs : List (List Fl)} (h : GL W N T k v rs) : ∃ a c, v = .slice a rs.length c := by
  obtain ⟨xss, h1, h2⟩ := h.ex
  obtain ⟨a, c, e, _⟩ := owns_shape h1
  exact ⟨a, c, e⟩

theorem Fl.Rd.one {w : World} {f : Fl} {v : Value} (h : f.Rd w v) : v.oneCell' = true := by
  cases f with
  | b l => obtain ⟨a, c, rfl, _⟩ := h; rfl
  | i l => obtain ⟨a, c, rfl, _⟩ := h; rfl
  | n x => rw [show v = _ from h]; rfl
  | t x => rw [show v = _ from h]; rfl
  | l k rs => obtain ⟨a, c, rfl, _⟩ := h; rfl
theorem RdVals.one {w : World} : ∀ {r : List Fl} {us : List Value}, RdVals w r us → ∀ u ∈ us, u.oneCell' = true
  | [], us, h, u, hu => by rw [show us = [] from h] at hu; cases hu
  | f :: r, us, h, u, hu => by
    obtain ⟨v, us', rfl, h1, h2⟩ := h
    rcases List.mem_cons.1 hu with rfl | hu
    · exact h1.one
    · exact RdVals.one h2 u hu

/-- One record more: at an operation. -/
theorem wp_appG {w : World} {o : Oper} {a : Act} {K : Act → World → Prop} {Q : Exit → Act → World → Prop} {t T k bytes : Nat} {z : Value} (info : (Tryz.prog.info? T).map (fun i => (i.zero, i.size, i.bytes)) = some (some z, k, bytes)) (ht : Tryz.prog.underlying t = some (.slice T)) (hzs : z.cells.size = k) (hk : 0 < k) (hby : bytes ≤ 1000) (s x : Operand)
    (ho : o.op = .call { callee := .builtin .append, args := #[s, x], argTypes := #[t, t] }) {N : Nat} {v : Value} {rs : List (List Fl)} (hs : a.eval s = v) (hg : GL w N T k v rs) {g : Nat} {us : List Value} {r : List Fl} (hx : a.eval x = .slice (some ⟨g, 0, none⟩) 1 1) (hb : Blk w g T us) (hl : us.length = k)
    {M : Nat} (hr : RdVals (fr M w) r us) (hM : N ≤ M) (hv : ∀ q, v.ownBlock = some q → q < M) (hsz : rs.length ≤ 1000000) (hN : N ≤ w.heap.size)
    (h : ∀ g' c w', GL w' N T k (.slice (some ⟨g', 0, none⟩) (rs.length + 1) c) (rs ++ [r]) → w.grownBy w' v.ownBlock → K (a.put o.dst (.slice (some ⟨g', 0, none⟩) (rs.length + 1) c)) w') : o.wp Tryz.prog a w K Q := by
  obtain ⟨i0, hi, hz0, hz1, hz2⟩ := info_parts info
  obtain ⟨xss, h1, h2⟩ := hg.ex
  refine wp_append_lies w s x t ho N T i0 z k bytes ht hi hz0 hz1 hz2 hzs hk v rs.length _ hs h1 ⟨g, 0, none⟩ 1 1 us hx (by omega) (fun j u hu => ?_) hr.one (by decide) (by unfold maxLen; omega) (by have : (rs.length + 1) * bytes ≤ 1000001 * 1000 := Nat.mul_le_mul (by omega) hby; omega) hN _ rfl (fun g' c w' a1 a2 a3 a4 => h g' c w' (GL.push ⟨xss, rfl, h2⟩ a1 a2 a3 hl hr hM hv) a2)
  rw [Addr.add_lit, Nat.zero_add]
  exact hb.cell hu
/-- The same in a plain region. -/
theorem wpList_appG {w : World} {ops : Array Oper} {rest : List Oper} {o : Oper} {a : Act} {Q : Exit → Act → World → Prop} (hgd : o.guard = none) {t T k bytes : Nat} {z : Value} (info : (Tryz.prog.info? T).map (fun i => (i.zero, i.size, i.bytes)) = some (some z, k, bytes)) (ht : Tryz.prog.underlying t = some (.slice T)) (hzs : z.cells.size = k) (hk : 0 < k) (hby : bytes ≤ 1000) (s x : Operand)
    (ho : o.op = .call { callee := .builtin .append, args := #[s, x], argTypes := #[t, t] }) {N : Nat} {v : Value} {rs : List (List Fl)} (hs : a.eval s = v) (hg : GL w N T k v rs) {g : Nat} {us : List Value} {r : List Fl} (hx : a.eval x = .slice (some ⟨g, 0, none⟩) 1 1) (hb : Blk w g T us) (hl : us.length = k)
    {M : Nat} (hr : RdVals (fr M w) r us) (hM : N ≤ M) (hv : ∀ q, v.ownBlock = some q → q < M) (hsz : rs.length ≤ 1000000) (hN : N ≤ w.heap.size)
    (h : ∀ g' c w', GL w' N T k (.slice (some ⟨g', 0, none⟩) (rs.length + 1) c) (rs ++ [r]) → w.grownBy w' v.ownBlock → wpList Tryz.prog ops Q rest (a.put o.dst (.slice (some ⟨g', 0, none⟩) (rs.length + 1) c)) w') : wpList Tryz.prog ops Q (o :: rest) a w :=
  wpList_plain hgd fun _ hK => wp_appG info ht hzs hk hby s x ho hs hg hx hb hl hr hM hv hsz hN fun g' c w' a b => hK _ _ (h g' c w' a b)

theorem infoEx : (Tryz.prog.info? 122).map (fun i => (i.zero, i.size, i.bytes)) = some (some (.agg #[.int .i64 0, .int .i64 0, .slice none 0 0, .slice none 0 0, .slice none 0 0]), 5, 88) := by kernel_rfl
theorem infoSt : (Tryz.prog.info? 133).map (fun i => (i.zero, i.size, i.bytes)) = some (some (.agg #[.int .i64 0, .int .i64 0, .slice none 0 0, .slice none 0 0, .slice none 0 0, .slice none 0 0]), 6, 112) := by kernel_rfl
theorem infoVa : (Tryz.prog.info? 59).map (fun i => (i.zero, i.size, i.bytes)) = some (some (.agg #[.slice none 0 0, .int .i64 0]), 2, 32) := by kernel_rfl
theorem infoPr : (Tryz.prog.info? 64).map (fun i => (i.zero, i.size, i.bytes)) = some (some (.agg #[.slice none 0 0, .bool false, .slice none 0 0, .slice none 0 0, .slice none 0 0]), 5, 104) := by kernel_rfl
theorem infoBs : (Tryz.prog.info? 22).map (fun i => (i.zero, i.size, i.bytes)) = some (some (.slice none 0 0), 1, 24) := by kernel_rfl

theorem GL.ty {W : World} {N T k : Nat} {v : Value} {rs : List (List Fl)} (h : GL W N T k v rs) : ∀ q, v.ownBlock = some q → N ≤ q ∧ q < W.heap.size ∧ ∃ cur, W.heap[q]? = some (.cells cur T (0, 0)) := by
  obtain ⟨xss, h1, h2⟩ := h.ex
  exact fun q hq => ⟨(h1.lt q hq).1, (h1.lt q hq).2, owns_type h1 hq⟩

/-- Where a function of the parser stands that began in W. -/
structure PW (W0 W w : World) (pb : Nat) (ts : List Tok) : Prop where
  bel : Below W0.heap.size W0 w
  at' : At w pb ts
  kp : Kp pb W w
  h1 : pb < W.heap.size
  h4 : W0.heap.size ≤ pb
theorem PW.go {W0 W w w' : World} {pb : Nat} {ts ts' : List Tok} (h : PW W0 W w pb ts) (hk : Kp pb w w') (ha : At w' pb ts') : PW W0 W w' pb ts' :=
  ⟨hk.bel h.bel h.h4, ha, h.kp.trans hk, h.h1, h.h4⟩
theorem PW.al {W0 W w w' : World} {pb : Nat} {ts : List Tok} (h : PW W0 W w pb ts) (hB : Below w.heap.size w w') : PW W0 W w' pb ts :=
  h.go (Kp.below hB) (h.at'.kp hB)
theorem PW.set {W0 W w : World} {pb ge i T : Nat} {ts : List Tok} {ev : List Value} {v : Value} (h : PW W0 W w pb ts) (hb : Blk w ge T ev) (hg : W.heap.size ≤ ge) (t1 : T ≠ 38) (t2 : T ≠ 53) : PW W0 W (w.setCell ⟨ge, i, none⟩ v) pb ts := by
  have a := h.h1
  have b := h.h4
  exact ⟨h.bel.setCell (p := ⟨ge, i, none⟩) (by show W0.heap.size ≤ ge; omega) v, h.at'.farT hb t1 t2, h.kp.far hg, a, b⟩
theorem At.row {w w' : World} {pb T : Nat} {ts : List Tok} {row : Option Nat} (h : At w pb ts) (hg : w.grownBy w' row) (hr : ∀ q, row = some q → ∃ cur, w.heap[q]? = some (.cells cur T (0, 0))) (t1 : T ≠ 38) (t2 : T ≠ 53) : At w' pb ts := by
  obtain ⟨g, o, c, h1, h2, h3, ⟨cs, f, h5⟩, h4⟩ := h.ex
  have n1 : some pb ≠ row := fun e => by
    obtain ⟨cur, hc⟩ := hr pb e.symm
    have h' : w.heap[pb]? = _ := h1
    rw [h'] at hc
    simp only [Option.some.injEq, Obj.cells.injEq] at hc
    exact t1 hc.2.1.symm
  have n2 : some g ≠ row := fun e => by
    obtain ⟨cur, hc⟩ := hr g e.symm
    rw [h5] at hc
    simp only [Option.some.injEq, Obj.cells.injEq] at hc
    exact t2 hc.2.1.symm
  have q1 := hg.block pb h1.lt n1
  have q2 := hg.block g (Array.getElem?_eq_some_iff.1 h5).1 n2
  refine ⟨g, o, c, q1.trans h1, h2, h3, ⟨cs, f, q2.trans h5⟩, fun j u hu => ?_⟩
  rw [World.cell?_of_block q2]
  exact h4 j u hu
theorem PW.row {W0 W w w' : World} {pb N T k : Nat} {ts : List Tok} {v : Value} {rs : List (List Fl)} (h : PW W0 W w pb ts) (hg : w.grownBy w' v.ownBlock) (hl : GL w N T k v rs) (hN : W.heap.size ≤ N) (t1 : T ≠ 38) (t2 : T ≠ 53) : PW W0 W w' pb ts := by
  have a := h.h1
  have b := h.h4
  have c := hl.ty
  have d : ∀ q, v.ownBlock = some q → W.heap.size ≤ q := fun q hq => by have := (c q hq).1; omega
  refine ⟨h.bel.grown hg h.bel.size (fun q hq => by have := d q hq; omega), h.at'.row hg (fun q hq => (c q hq).2.2) t1 t2, ⟨hg.os.trans h.kp.os, hg.tape.trans h.kp.tape, hg.output.trans h.kp.output, Nat.le_trans h.kp.size hg.size, fun k hk hn => ?_⟩, a, b⟩
  exact (hg.block k (Nat.lt_of_lt_of_le hk h.kp.size) (fun e => by have := d k e.symm; omega)).trans (h.kp.block k hk hn)
/-- A block of another type stays where a list grows. -/
theorem Blk.row {w w' : World} {N T k g U : Nat} {v : Value} {rs : List (List Fl)} {vs : List Value} (h : Blk w g U vs) (hg : w.grownBy w' v.ownBlock) (hl : GL w N T k v rs) (hne : U ≠ T) : Blk w' g U vs :=
  (hg.block g h.lt fun e => by
    obtain ⟨cur, hc⟩ := (hl.ty g e.symm).2.2
    have h' : w.heap[g]? = _ := h
    rw [h'] at hc
    simp only [Option.some.injEq, Obj.cells.injEq] at hc
    exact hne hc.2.1).trans h
attribute [local go_sem] Oper.semAt_some

def PsM (ts : List Tok) (x : Pa) (r : List Tok) : Prop := ∀ (W0 W : World) (pb : Nat), Tabs W0 → Below W0.heap.size W0 W → W0.heap.size ≤ pb → At W pb ts →
  Calls Tryz.prog 52 #[.pointer (some ⟨pb, 0, none⟩)] W fun e W' => ∃ vs, e = .returned (agg vs) ∧ RdVals (fr W.heap.size W') x.fl vs ∧ At W' pb r ∧ Kp pb W W'
theorem rdPa {w : World} {x : Pa} {vs : List Value} (h : RdVals w x.fl vs) : ∃ a1 n1 c1 b, vs = [.slice a1 n1 c1, .bool b] := by
  unfold Pa.fl at h
  obtain ⟨y0, _, rfl, ⟨a2, c2, rfl, _⟩, y1, _, rfl, rfl, rfl⟩ := h
  exact ⟨_, _, _, _, rfl⟩
theorem psM0 (x y : Tok) (ts : List Tok) (hs : sT x.text [64] = false) (hk : x.kind = 3) (hx : ∀ b ∈ x.text, 0 ≤ b ∧ b ≤ 255) (hn : x.text.length ≤ 3000) : PsM (x :: y :: ts) ⟨x.text, false⟩ (y :: ts) :=
  fun _ W pb _ _ _ h => paramNo pb x y ts W h hs hk hx hn
theorem psM1 (t x y : Tok) (ts : List Tok) (hs : sT t.text [64] = true) (hk : x.kind = 3) (hx : ∀ b ∈ x.text, 0 ≤ b ∧ b ≤ 255) (hn : x.text.length ≤ 3000) : PsM (t :: x :: y :: ts) ⟨x.text, true⟩ (y :: ts) :=
  fun _ W pb _ _ _ h => paramYes pb t x y ts W h hs hk hx hn

def PsBE (ts : List Tok) (l : List Ex) (r : List Tok) : Prop := ∀ (W0 W : World) (pb : Nat), Tabs W0 → Below W0.heap.size W0 W → W0.heap.size ≤ pb → At W pb ts →
  Calls Tryz.prog 173 #[.pointer (some ⟨pb, 0, none⟩), .func (.func 147) #[.pointer (some ⟨pb, 0, none⟩)] #[]] W fun e W' => ∃ v, e = .returned v ∧ (Fl.l 5 (exs l)).Rd (fr W.heap.size W') v ∧ At W' pb r ∧ Kp pb W W'

theorem tbE0 (t0 t1 y : Tok) (ts : List Tok) (h0 : sT t0.text [40] = true) (h1 : sT t1.text [41] = true) : PsBE (t0 :: t1 :: y :: ts) [] (y :: ts) := by
  intro W0 W pb hT hb hp h
  have H0 := wantYes pb t0 t1 (y :: ts) ⟨#[40]⟩ W h (by simpa [sT] using h0)
  clear h
  go_enter Tryz.func173, Tryz.ntmps173
  go_wp2_with fail
  refine H0.mono ?_
  rintro e w1 ⟨rfl, hA1, hK1⟩
  have H1 := gotYes pb t1 y ts ⟨#[41]⟩ w1 hA1 (by simpa [sT] using h1)
  have K1 : Hid _ := hK1
  clear H0 hA1 hK1
  go_wp2_with fail
  refine H1.mono ?_
  rintro e w2 ⟨rfl, hA2, hK2⟩
  have K2 : Hid _ := And.intro hA2 hK2
  clear H1 hA2 hK2
  go_wp2_with fail
  go_ret
  exact ⟨_, rfl, rd_noL _ _, K2.out.1, K1.out.trans K2.out.2⟩

set_option maxHeartbeats 4000000 in
theorem tbE1 (t0 a0 t1 y : Tok) (us ts : List Tok) (x : Ex) (h0 : sT t0.text [40] = true) (hn : sT a0.text [41] = false) (hX : PsA (a0 :: us) x (t1 :: y :: ts)) (h1 : sT t1.text [41] = true) : PsBE (t0 :: a0 :: us) [x] (y :: ts) := by
  intro W0 W pb hT hb hp h
  have hlt : pb < W.heap.size := by obtain ⟨_, _, _, h1, _⟩ := h.ex; exact h1.lt
  have H0 := wantYes pb t0 a0 us ⟨#[40]⟩ W h (by simpa [sT] using h0)
  clear h
  go_enter Tryz.func173, Tryz.ntmps173
  go_wp2_with fail
  refine H0.mono ?_
  rintro e w1 ⟨rfl, hA1, hK1⟩
  have H1 := gotNo pb a0 us ⟨#[41]⟩ w1 hA1 (by simpa [sT] using hn)
  have H2 := hX W0 w1 pb hT (hK1.bel hb hp) hp hA1
  clear H0 hA1 hb
  go_wp2_with fail
  refine H1.mono ?_
  rintro e wq ⟨rfl, hq⟩
  rw [hq]
  clear H1 hq wq
  go_wp2_with fail
  refine H2.mono ?_
  clear H2
  rintro e w2 ⟨vs, rfl, hR, hA2, hK2⟩
  obtain ⟨k, n, a1, n1, c1, a2, n2, c2, a3, n3, c3, rfl⟩ := rd5 hR
  have hB := below_grown (grown_alloc w2 (.cells #[.int .i64 k, .int .i64 n, .slice a1 n1 c1, .slice a2 n2 c2, .slice a3 n3 c3] 122 (0, 0)) none)
  have b2 := Blk.new w2 122 [.int .i64 k, .int .i64 n, .slice a1 n1 c1, .slice a2 n2 c2, .slice a3 n3 c3]
  have s1 := hK1.size
  have s2 := hK2.size
  have hR1 : RdVals (fr W.heap.size w2) x.fl [.int .i64 k, .int .i64 n, .slice a1 n1 c1, .slice a2 n2 c2, .slice a3 n3 c3] := RdVals.cm (cm_mono s1 _) hR
  have hR2 := RdVals.cm ((Kp.below (pb := pb) hB).cm hlt) hR1
  have H3 := gotYes pb t1 y ts ⟨#[41]⟩ _ (hA2.kp hB) (by simpa [sT] using h1)
  have L3 : Hid _ := rd_lone (k := 5) b2 (Nat.le_trans s1 s2) hR2 rfl
  have K3 : Hid _ := (hK1.trans hK2).trans (Kp.below (pb := pb) hB)
  clear hR hR1 hR2 b2 hB hA2 hK1 hK2 s1 s2
  simp only [agg]
  go_wp2_with fail
  refine wp_loop_rounds 1 ?_
  rw [rounds_succ]
  go_wp2_with fail
  refine H3.mono ?_
  rintro e w3 ⟨rfl, hA3, hK3⟩
  have A3 : Hid _ := And.intro hA3 hK3
  clear H3 hA3 hK3
  go_wp2_with fail
  go_ret
  exact ⟨_, rfl, Fl.Rd.cm (A3.out.2.cm hlt) _ _ L3.out, A3.out.1, K3.out.trans A3.out.2⟩

def PsBP (ts : List Tok) (l : List Pa) (r : List Tok) : Prop := ∀ (W0 W : World) (pb : Nat), Tabs W0 → Below W0.heap.size W0 W → W0.heap.size ≤ pb → At W pb ts →
  Calls Tryz.prog 51 #[.pointer (some ⟨pb, 0, none⟩), .func (.func 52) #[.pointer (some ⟨pb, 0, none⟩)] #[]] W fun e W' => ∃ v, e = .returned v ∧ (Fl.l 2 (l.map Pa.fl)).Rd (fr W.heap.size W') v ∧ At W' pb r ∧ Kp pb W W'

theorem tbP0 (t0 t1 y : Tok) (ts : List Tok) (h0 : sT t0.text [40] = true) (h1 : sT t1.text [41] = true) : PsBP (t0 :: t1 :: y :: ts) [] (y :: ts) := by
  intro W0 W pb hT hb hp h
  have H0 := wantYes pb t0 t1 (y :: ts) ⟨#[40]⟩ W h (by simpa [sT] using h0)
  clear h
  go_enter Tryz.func51, Tryz.ntmps51
  go_wp2_with fail
  refine H0.mono ?_
  rintro e w1 ⟨rfl, hA1, hK1⟩
  have H1 := gotYes pb t1 y ts ⟨#[41]⟩ w1 hA1 (by simpa [sT] using h1)
  have K1 : Hid _ := hK1
  clear H0 hA1 hK1
  go_wp2_with fail
  refine H1.mono ?_
  rintro e w2 ⟨rfl, hA2, hK2⟩
  have K2 : Hid _ := And.intro hA2 hK2
  clear H1 hA2 hK2
  go_wp2_with fail
  go_ret
  exact ⟨_, rfl, rd_noL _ _, K2.out.1, K1.out.trans K2.out.2⟩

set_option maxHeartbeats 4000000 in
theorem tbP1 (t0 a0 t1 y : Tok) (us ts : List Tok) (x : Pa) (h0 : sT t0.text [40] = true) (hn : sT a0.text [41] = false) (hX : PsM (a0 :: us) x (t1 :: y :: ts)) (h1 : sT t1.text [41] = true) : PsBP (t0 :: a0 :: us) [x] (y :: ts) := by
  intro W0 W pb hT hb hp h
  have hlt : pb < W.heap.size := by obtain ⟨_, _, _, h1, _⟩ := h.ex; exact h1.lt
  have H0 := wantYes pb t0 a0 us ⟨#[40]⟩ W h (by simpa [sT] using h0)
  clear h
  go_enter Tryz.func51, Tryz.ntmps51
  go_wp2_with fail
  refine H0.mono ?_
  rintro e w1 ⟨rfl, hA1, hK1⟩
  have H1 := gotNo pb a0 us ⟨#[41]⟩ w1 hA1 (by simpa [sT] using hn)
  have H2 := hX W0 w1 pb hT (hK1.bel hb hp) hp hA1
  clear H0 hA1 hb
  go_wp2_with fail
  refine H1.mono ?_
  rintro e wq ⟨rfl, hq⟩
  rw [hq]
  clear H1 hq wq
  go_wp2_with fail
  refine H2.mono ?_
  clear H2
  rintro e w2 ⟨vs, rfl, hR, hA2, hK2⟩
  obtain ⟨a1, n1, c1, b, rfl⟩ := rdPa hR
  have hB := below_grown (grown_alloc w2 (.cells #[.slice a1 n1 c1, .bool b] 98 (0, 0)) none)
  have b2 := Blk.new w2 98 [.slice a1 n1 c1, .bool b]
  have s1 := hK1.size
  have s2 := hK2.size
  have hR1 : RdVals (fr W.heap.size w2) x.fl [.slice a1 n1 c1, .bool b] := RdVals.cm (cm_mono s1 _) hR
  have hR2 := RdVals.cm ((Kp.below (pb := pb) hB).cm hlt) hR1
  have H3 := gotYes pb t1 y ts ⟨#[41]⟩ _ (hA2.kp hB) (by simpa [sT] using h1)
  have L3 : Hid _ := rd_lone (k := 2) b2 (Nat.le_trans s1 s2) hR2 rfl
  have K3 : Hid _ := (hK1.trans hK2).trans (Kp.below (pb := pb) hB)
  clear hR hR1 hR2 b2 hB hA2 hK1 hK2 s1 s2
  simp only [agg]
  go_wp2_with fail
  refine wp_loop_rounds 1 ?_
  rw [rounds_succ]
  go_wp2_with fail
  refine H3.mono ?_
  rintro e w3 ⟨rfl, hA3, hK3⟩
  have A3 : Hid _ := And.intro hA3 hK3
  clear H3 hA3 hK3
  go_wp2_with fail
  go_ret
  exact ⟨_, rfl, Fl.Rd.cm (A3.out.2.cm hlt) _ _ L3.out, A3.out.1, K3.out.trans A3.out.2⟩

set_option maxHeartbeats 8000000 in
theorem psA6 (t0 t1 y : Tok) (us ts : List Tok) (l : List Ex) (he : exK t0 t1 = (6, true)) (hk0 : t0.kind = 3) (hx0 : ∀ b ∈ t0.text, 0 ≤ b ∧ b ≤ 255) (hn0 : t0.text.length ≤ 3000) (hB : PsBE (t1 :: us) l (y :: ts)) : PsA (t0 :: t1 :: us) (.mk 6 0 [] t0.text l) (y :: ts) := by
  intro W0 W pb hT hb hp hA
  have hmf : ∀ (fn : Fn) (first cap : Array Value) (w : World), (Instr.makeFunc fn first cap).run Tryz.prog w = .ok (.func fn first cap) w := fun _ _ _ _ => rfl
  have x0 := Blk.new W 122 [.int .i64 0, .int .i64 0, .slice none 0 0, .slice none 0 0, .slice none 0 0]
  have hB9 := below_grown (grown_alloc W (.cells #[.int .i64 0, .int .i64 0, .slice none 0 0, .slice none 0 0, .slice none 0 0] 122 (0, 0)) none)
  replace hb := hb.trans (hB9.mono hb.size)
  have hpl : pb < W.heap.size := by obtain ⟨_, _, _, h1, _⟩ := hA.ex; exact h1.lt
  replace hA := hA.kp hB9
  have hK1 : Kp pb W _ := Kp.below hB9
  clear hB9
  have hK := exKC pb t0 t1 _ _ hA
  rw [he] at hK
  go_enter Tryz.func147, Tryz.ntmps147
  go_wp2_with fail
  refine hK.mono ?_
  clear hK
  generalize W.alloc (.cells #[.int .i64 0, .int .i64 0, .slice none 0 0, .slice none 0 0, .slice none 0 0] 122 (0, 0)) = w1 at *
  rintro e w1' ⟨rfl, e2⟩
  subst e2
  have hF := (hT.below hb).ex 6 (by omega)
  have z0 := hF.c0
  have z1 := hF.c1
  have z2 := hF.c2
  have z3 := hF.c3
  have z4 := hF.c4
  clear hF
  simp only [Nat.reduceMul, Nat.reduceAdd, Nat.zero_mul, Nat.zero_add] at z0 z1 z2 z3 z4
  have hz := World.block_lt_of_cell? _ _ z0
  dsimp only at hz
  have g1 := grown_alloc w1' (.cells #[.int .i64 6, .int .i64 0, .slice none 0 0, .slice none 0 0, .slice none 0 0] 122 (0, 0)) none
  have g2 := grown_alloc (w1'.alloc (.cells #[.int .i64 6, .int .i64 0, .slice none 0 0, .slice none 0 0, .slice none 0 0] 122 (0, 0))) (.cells #[.string ⟨(exF 6).txt.toArray⟩, .int .i64 (exF 6).lo, .int .i64 (exF 6).hi, .int .i64 (exF 6).le, .int .i64 (exF 6).mo] 153 (0, 0)) none
  have hB2 : Below w1'.heap.size w1' _ := (below_grown g1).trans ((below_grown g2).mono (below_grown g1).size)
  have HQ := wordsC (exF 6) (exPlain 6) _ (hT.below (hb.trans (hB2.mono hb.size)))
  rw [exW6] at HQ
  unfold Fm.val at HQ
  go_wp2_with fail
  refine HQ.mono ?_
  rintro e w2 ⟨gw, rfl, wb, hgw, hq⟩
  have EA0 : EA W0 W w2 pb w1'.heap.size gw (t0 :: t1 :: us) [.int .i64 6, .int .i64 0, .slice none 0 0, .slice none 0 0, .slice none 0 0] (exF 6) (strs [[109, 111, 100], [110, 97, 109, 101], [97, 114, 103, 115]]) := by
    have hB3 := hB2.trans ((below_grown hq).mono hB2.size)
    have b1 := (Blk.new w1' 122 [.int .i64 6, .int .i64 0, .slice none 0 0, .slice none 0 0, .slice none 0 0])
    have b1 := b1.below (below_grown g2) b1.lt
    have b1 := b1.below (below_grown hq) b1.lt
    have b2 := (Blk.new (w1'.alloc (.cells #[.int .i64 6, .int .i64 0, .slice none 0 0, .slice none 0 0, .slice none 0 0] 122 (0, 0))) 153 [.string ⟨(exF 6).txt.toArray⟩, .int .i64 (exF 6).lo, .int .i64 (exF 6).hi, .int .i64 (exF 6).le, .int .i64 (exF 6).mo])
    have b2 := b2.below (below_grown hq) b2.lt
    rw [show (w1'.alloc (.cells #[.int .i64 6, .int .i64 0, .slice none 0 0, .slice none 0 0, .slice none 0 0] 122 (0, 0))).heap.size = w1'.heap.size + 1 by simp] at b2
    refine ⟨hb.trans (hB3.mono hb.size), hA.kp hB3, hK1.trans (Kp.below hB3), x0.below hB3 x0.lt, b1, b2, wb, hpl, x0.lt, ?_, hp⟩
    simp at hgw
    omega
  clear HQ hq hgw wb hB2 g1 g2 z0 z1 z2 z3 z4 hz x0 hK1 hA hb
  generalize w1'.heap.size = ge at *
  simp only [strs, List.map_cons, List.map_nil, List.length_cons, List.length_nil] at EA0 ⊢
  have d0 := EA0.wb.cell (i := 0) rfl
  have d1 := EA0.wb.cell (i := 1) rfl
  have d2 := EA0.wb.cell (i := 2) rfl
  go_wp2_with fail
  refine wp_loop_rounds 4 ?_
  have HQ := modNo pb t0 t1 us w2 EA0.at' (by omega)
  rw [rounds_succ]
  go_wp2_with fail
  refine HQ.mono ?_
  rintro e wq ⟨rfl, hq⟩
  rw [hq]
  clear HQ hq wq
  have r1 := EA0.eb.cell (i := 2) rfl
  have r1f := EA0.eb.free 2
  go_wp2_with fail
  have EC0 := EA0.set 2 (.slice none 0 0)
  simp only [List.set_cons_succ, List.set_cons_zero] at EC0
  clear EA0 r1 r1f d0 d1 d2
  generalize w2.setCell ⟨ge, 2, none⟩ (.slice none 0 0) = w3 at *
  have d0 := EC0.wb.cell (i := 0) rfl
  have d1 := EC0.wb.cell (i := 1) rfl
  have d2 := EC0.wb.cell (i := 2) rfl
  have HQ := smallYes pb t0 t1 us w3 EC0.at' hk0 hx0 hn0
  rw [rounds_succ]
  go_wp2_with fail
  refine HQ.mono ?_
  rintro e w4 ⟨vN, rfl, hR, ha3, hk3⟩
  have EB1 := EC0.go hk3 ha3
  replace hR : (Fl.b t0.text).Rd (fr (ge + 1) w4) vN := Fl.Rd.cm (cm_mono (by have := EC0.wb.lt; have := EC0.h3; omega) _) _ _ hR
  obtain ⟨aN, cN, rfl, hS⟩ := hR
  have hR : (Fl.b t0.text).Rd (fr (ge + 1) w4) (.slice aN t0.text.length cN) := ⟨aN, cN, rfl, hS⟩
  clear HQ hk3 ha3 hS EC0 d0 d1 d2
  have r1 := EB1.eb.cell (i := 3) rfl
  have r1f := EB1.eb.free 3
  go_wp2_with fail
  have EC1 := EB1.set 3 (.slice aN t0.text.length cN)
  simp only [List.set_cons_succ, List.set_cons_zero] at EC1
  replace hR := Fl.Rd.cm (cm_set (g := ge) (i := 3) (u := (.slice aN t0.text.length cN)) (Nat.lt_succ_self ge)) _ _ hR
  clear EB1 r1 r1f
  generalize w4.setCell ⟨ge, 3, none⟩ (.slice aN t0.text.length cN) = w5 at *
  have d0 := EC1.wb.cell (i := 0) rfl
  have d1 := EC1.wb.cell (i := 1) rfl
  have d2 := EC1.wb.cell (i := 2) rfl
  have HQ := hB W0 w5 pb hT EC1.bel hp EC1.at'
  rw [rounds_succ]
  go_wp2_with fail
  refine HQ.mono ?_
  rintro e w6 ⟨vK, rfl, hRK, ha3, hk3⟩
  have EB2 := EC1.go hk3 ha3
  replace hR := Fl.Rd.cm (hk3.cm (N := ge + 1) (by have := EC1.h1; have := EC1.h2; omega)) _ _ hR
  replace hRK : (Fl.l 5 (exs l)).Rd (fr (ge + 1) w6) vK := Fl.Rd.cm (cm_mono (by have := EC1.wb.lt; have := EC1.h3; omega) _) _ _ hRK
  obtain ⟨aK, cK, rfl, hS⟩ := hRK
  have hRK : (Fl.l 5 (exs l)).Rd (fr (ge + 1) w6) (.slice aK (exs l).length cK) := ⟨aK, cK, rfl, hS⟩
  clear HQ hk3 ha3 hS EC1 d0 d1 d2
  generalize (exs l).length = nK at *
  have r1 := EB2.eb.cell (i := 4) rfl
  have r1f := EB2.eb.free 4
  go_wp2_with fail
  have EC2 := EB2.set 4 (.slice aK nK cK)
  simp only [List.set_cons_succ, List.set_cons_zero] at EC2
  replace hR := Fl.Rd.cm (cm_set (g := ge) (i := 4) (u := (.slice aK nK cK)) (Nat.lt_succ_self ge)) _ _ hR
  replace hRK := Fl.Rd.cm (cm_set (g := ge) (i := 4) (u := (.slice aK nK cK)) (Nat.lt_succ_self ge)) _ _ hRK
  clear EB2 r1 r1f
  generalize w6.setCell ⟨ge, 4, none⟩ (.slice aK nK cK) = w7 at *
  have d0 := EC2.wb.cell (i := 0) rfl
  have d1 := EC2.wb.cell (i := 1) rfl
  have d2 := EC2.wb.cell (i := 2) rfl
  rw [rounds_succ]
  have r0 := EC2.eb.cell (i := 0) rfl
  have y0 := EC2.xb.cell (i := 0) rfl
  have u0 := EC2.xb.free 0
  have r1 := EC2.eb.cell (i := 1) rfl
  have y1 := EC2.xb.cell (i := 1) rfl
  have u1 := EC2.xb.free 1
  have r2 := EC2.eb.cell (i := 2) rfl
  have y2 := EC2.xb.cell (i := 2) rfl
  have u2 := EC2.xb.free 2
  have r3 := EC2.eb.cell (i := 3) rfl
  have y3 := EC2.xb.cell (i := 3) rfl
  have u3 := EC2.xb.free 3
  have r4 := EC2.eb.cell (i := 4) rfl
  have y4 := EC2.xb.cell (i := 4) rfl
  have u4 := EC2.xb.free 4
  have HR : Hid _ := EC2.fin (r := (Ex.mk 6 0 [] t0.text l).fl) (by unfold Ex.fl; exact ⟨_, _, rfl, rfl, _, _, rfl, rfl, _, _, rfl, rd_none _, _, _, rfl, Fl.Rd.cm (cm_mono (by have := EC2.h2; omega) _) _ _ hR, _, _, rfl, Fl.Rd.cm (cm_mono (by have := EC2.h2; omega) _) _ _ hRK, rfl⟩)
  clear EC2 hR hRK
  go_wp2_with fail
  generalize ((((w7.setCell ⟨W.heap.size, 0, none⟩ (.int .i64 6)).setCell ⟨W.heap.size, 1, none⟩ (.int .i64 0)).setCell ⟨W.heap.size, 2, none⟩ (.slice none 0 0)).setCell ⟨W.heap.size, 3, none⟩ (.slice aN t0.text.length cN)).setCell ⟨W.heap.size, 4, none⟩ (.slice aK nK cK) = wz at *
  obtain ⟨bR, rR⟩ := HR.out
  have e0 := bR.cell (i := 0) rfl
  have e1 := bR.cell (i := 1) rfl
  have e2 := bR.cell (i := 2) rfl
  have e3 := bR.cell (i := 3) rfl
  have e4 := bR.cell (i := 4) rfl
  refine bodyPost_ret (v := agg [.int .i64 6, .int .i64 0, .slice none 0 0, .slice aN t0.text.length cN, .slice aK nK cK]) ?_ rfl ⟨_, rfl, rR⟩
  simp [results, Tryz.results147, go_sem, e0, e1, e2, e3, e4, agg]

attribute [local go_sem] Oper.semAt_some

def PsS (ts : List Tok) (x : St) (r : List Tok) : Prop := ∀ (W0 W : World) (pb : Nat), Tabs W0 → Below W0.heap.size W0 W → W0.heap.size ≤ pb → At W pb ts →
  Calls Tryz.prog 87 #[.pointer (some ⟨pb, 0, none⟩)] W fun e W' => ∃ vs, e = .returned (agg vs) ∧ RdVals (fr W.heap.size W') x.fl vs ∧ At W' pb r ∧ Kp pb W W'

/-- Where stmt stands. -/
structure SA (W0 W w : World) (pb ge gw : Nat) (ts : List Tok) (ev : List Value) (f : Fm) (ws : List Value) : Prop where
  bel : Below W0.heap.size W0 w
  at' : At w pb ts
  kp : Kp pb W w
  xb : Blk w W.heap.size 133 [.int .i64 0, .int .i64 0, .slice none 0 0, .slice none 0 0, .slice none 0 0, .slice none 0 0]
  eb : Blk w ge 133 ev
  fb : Blk w (ge + 1) 153 [.string ⟨f.txt.toArray⟩, .int .i64 f.lo, .int .i64 f.hi, .int .i64 f.le, .int .i64 f.mo]
  wb : Blk w gw 9 ws
  h1 : pb < W.heap.size
  h2 : W.heap.size < ge
  h3 : ge + 1 < gw
  h4 : W0.heap.size ≤ pb
theorem SA.go {W0 W w w' : World} {pb ge gw : Nat} {ts ts' : List Tok} {ev ws : List Value} {f : Fm} (h : SA W0 W w pb ge gw ts ev f ws) (hk : Kp pb w w') (ha : At w' pb ts') : SA W0 W w' pb ge gw ts' ev f ws := by
  have a := h.h1
  have b := h.h2
  have c := h.h3
  exact ⟨hk.bel h.bel h.h4, ha, h.kp.trans hk, hk.blk h.xb (by omega), hk.blk h.eb (by omega), hk.blk h.fb (by omega), hk.blk h.wb (by omega), h.h1, h.h2, h.h3, h.h4⟩
theorem SA.set {W0 W w : World} {pb ge gw : Nat} {ts : List Tok} {ev ws : List Value} {f : Fm} (h : SA W0 W w pb ge gw ts ev f ws) (i : Nat) (v : Value) : SA W0 W (w.setCell ⟨ge, i, none⟩ v) pb ge gw ts (ev.set i v) f ws := by
  have a := h.h1
  have b := h.h2
  have c := h.h3
  have d := h.h4
  have hs := h.bel.setCell (p := ⟨ge, i, none⟩) (by show W0.heap.size ≤ ge; omega) v
  exact ⟨hs, h.at'.farT h.eb (by decide) (by decide), h.kp.far (by omega), h.xb.other (by omega), h.eb.set (i := i) v, h.fb.other (by omega), h.wb.other (by omega), h.h1, h.h2, h.h3, h.h4⟩
theorem fin6 {W w : World} {pb : Nat} {ts : List Tok} {a0 a1 a2 a3 a4 a5 o0 o1 o2 o3 o4 o5 : Value} {r : List Fl} (b0 : Blk w W.heap.size 133 [o0, o1, o2, o3, o4, o5]) (ha : At w pb ts) (hk : Kp pb W w) (hr : RdVals (fr (W.heap.size + 1) w) r [a0, a1, a2, a3, a4, a5]) :
    Blk ((((((w.setCell ⟨W.heap.size, 0, none⟩ a0).setCell ⟨W.heap.size, 1, none⟩ a1).setCell ⟨W.heap.size, 2, none⟩ a2).setCell ⟨W.heap.size, 3, none⟩ a3).setCell ⟨W.heap.size, 4, none⟩ a4).setCell ⟨W.heap.size, 5, none⟩ a5) W.heap.size 133 [a0, a1, a2, a3, a4, a5] ∧ RdVals (fr W.heap.size ((((((w.setCell ⟨W.heap.size, 0, none⟩ a0).setCell ⟨W.heap.size, 1, none⟩ a1).setCell ⟨W.heap.size, 2, none⟩ a2).setCell ⟨W.heap.size, 3, none⟩ a3).setCell ⟨W.heap.size, 4, none⟩ a4).setCell ⟨W.heap.size, 5, none⟩ a5)) r [a0, a1, a2, a3, a4, a5] ∧ At ((((((w.setCell ⟨W.heap.size, 0, none⟩ a0).setCell ⟨W.heap.size, 1, none⟩ a1).setCell ⟨W.heap.size, 2, none⟩ a2).setCell ⟨W.heap.size, 3, none⟩ a3).setCell ⟨W.heap.size, 4, none⟩ a4).setCell ⟨W.heap.size, 5, none⟩ a5) pb ts ∧ Kp pb W ((((((w.setCell ⟨W.heap.size, 0, none⟩ a0).setCell ⟨W.heap.size, 1, none⟩ a1).setCell ⟨W.heap.size, 2, none⟩ a2).setCell ⟨W.heap.size, 3, none⟩ a3).setCell ⟨W.heap.size, 4, none⟩ a4).setCell ⟨W.heap.size, 5, none⟩ a5) := by
  have b1 := b0.set (i := 0) a0
  have b2 := b1.set (i := 1) a1
  have b3 := b2.set (i := 2) a2
  have b4 := b3.set (i := 3) a3
  have b5 := b4.set (i := 4) a4
  have b6 := b5.set (i := 5) a5
  have l := Nat.lt_succ_self W.heap.size
  have c : ∀ (A : World) (i : Nat) (u : Value), RdVals (fr (W.heap.size + 1) A) r [a0, a1, a2, a3, a4, a5] → RdVals (fr (W.heap.size + 1) (A.setCell ⟨W.heap.size, i, none⟩ u)) r [a0, a1, a2, a3, a4, a5] := fun A i u hh => RdVals.cm (cm_set l) hh
  have f : ∀ (A : World) (i : Nat) (u : Value) (vs : List Value), Blk A W.heap.size 133 vs → At A pb ts → At (A.setCell ⟨W.heap.size, i, none⟩ u) pb ts := fun A i u vs hB hh => hh.farT hB (by decide) (by decide)
  have k : ∀ (A : World) (i : Nat) (u : Value), Kp pb W A → Kp pb W (A.setCell ⟨W.heap.size, i, none⟩ u) := fun A i u hh => hh.far (Nat.le_refl _)
  exact ⟨b6, RdVals.cm (cm_mono (Nat.le_succ _) _) (c _ _ _ (c _ _ _ (c _ _ _ (c _ _ _ (c _ _ _ (c _ _ _ hr)))))), f _ _ _ _ b5 (f _ _ _ _ b4 (f _ _ _ _ b3 (f _ _ _ _ b2 (f _ _ _ _ b1 (f _ _ _ _ b0 ha))))), k _ _ _ (k _ _ _ (k _ _ _ (k _ _ _ (k _ _ _ (k _ _ _ hk)))))⟩

set_option maxHeartbeats 8000000 in
theorem psS5 (t0 t1 t2 y : Tok) (us ts : List Tok) (x : Ex) (he : stK t0 t1 = (5, true)) (h0 : sT t0.text [79, 85, 84] = true) (hX : PsX (t1 :: us) x (t2 :: y :: ts)) (h2 : sT t2.text [59] = true) : PsS (t0 :: t1 :: us) (.mk 5 0 [] [x] [] []) (y :: ts) := by
  intro W0 W pb hT hb hp hA
  have x0 := Blk.new W 133 [.int .i64 0, .int .i64 0, .slice none 0 0, .slice none 0 0, .slice none 0 0, .slice none 0 0]
  have hB9 := below_grown (grown_alloc W (.cells #[.int .i64 0, .int .i64 0, .slice none 0 0, .slice none 0 0, .slice none 0 0, .slice none 0 0] 133 (0, 0)) none)
  replace hb := hb.trans (hB9.mono hb.size)
  have hpl : pb < W.heap.size := by obtain ⟨_, _, _, h1, _⟩ := hA.ex; exact h1.lt
  replace hA := hA.kp hB9
  have hK1 : Kp pb W _ := Kp.below hB9
  clear hB9
  have hK := stKC pb t0 t1 _ _ hA
  rw [he] at hK
  go_enter Tryz.func87, Tryz.ntmps87
  go_wp2_with fail
  refine hK.mono ?_
  clear hK
  generalize W.alloc (.cells #[.int .i64 0, .int .i64 0, .slice none 0 0, .slice none 0 0, .slice none 0 0, .slice none 0 0] 133 (0, 0)) = w1 at *
  rintro e w1' ⟨rfl, e2⟩
  subst e2
  have hF := (hT.below hb).st 5 (by omega)
  have z0 := hF.c0
  have z1 := hF.c1
  have z2 := hF.c2
  have z3 := hF.c3
  have z4 := hF.c4
  clear hF
  simp only [Nat.reduceMul, Nat.reduceAdd, Nat.zero_mul, Nat.zero_add] at z0 z1 z2 z3 z4
  have hz := World.block_lt_of_cell? _ _ z0
  dsimp only at hz
  have g1 := grown_alloc w1' (.cells #[.int .i64 5, .int .i64 0, .slice none 0 0, .slice none 0 0, .slice none 0 0, .slice none 0 0] 133 (0, 0)) none
  have g2 := grown_alloc (w1'.alloc (.cells #[.int .i64 5, .int .i64 0, .slice none 0 0, .slice none 0 0, .slice none 0 0, .slice none 0 0] 133 (0, 0))) (.cells #[.string ⟨(stF 5).txt.toArray⟩, .int .i64 (stF 5).lo, .int .i64 (stF 5).hi, .int .i64 (stF 5).le, .int .i64 (stF 5).mo] 153 (0, 0)) none
  have hB2 : Below w1'.heap.size w1' _ := (below_grown g1).trans ((below_grown g2).mono (below_grown g1).size)
  have HQ := wordsC (stF 5) (stPlain 5) _ (hT.below (hb.trans (hB2.mono hb.size)))
  rw [stW5] at HQ
  unfold Fm.val at HQ
  go_wp2_with fail
  refine HQ.mono ?_
  rintro e w2 ⟨gw, rfl, wb, hgw, hq⟩
  have EA0 : SA W0 W w2 pb w1'.heap.size gw (t0 :: t1 :: us) [.int .i64 5, .int .i64 0, .slice none 0 0, .slice none 0 0, .slice none 0 0, .slice none 0 0] (stF 5) (strs [[79, 85, 84], [107, 105, 100], [59]]) := by
    have hB3 := hB2.trans ((below_grown hq).mono hB2.size)
    have b1 := (Blk.new w1' 133 [.int .i64 5, .int .i64 0, .slice none 0 0, .slice none 0 0, .slice none 0 0, .slice none 0 0])
    have b1 := b1.below (below_grown g2) b1.lt
    have b1 := b1.below (below_grown hq) b1.lt
    have b2 := (Blk.new (w1'.alloc (.cells #[.int .i64 5, .int .i64 0, .slice none 0 0, .slice none 0 0, .slice none 0 0, .slice none 0 0] 133 (0, 0))) 153 [.string ⟨(stF 5).txt.toArray⟩, .int .i64 (stF 5).lo, .int .i64 (stF 5).hi, .int .i64 (stF 5).le, .int .i64 (stF 5).mo])
    have b2 := b2.below (below_grown hq) b2.lt
    rw [show (w1'.alloc (.cells #[.int .i64 5, .int .i64 0, .slice none 0 0, .slice none 0 0, .slice none 0 0, .slice none 0 0] 133 (0, 0))).heap.size = w1'.heap.size + 1 by simp] at b2
    refine ⟨hb.trans (hB3.mono hb.size), hA.kp hB3, hK1.trans (Kp.below hB3), x0.below hB3 x0.lt, b1, b2, wb, hpl, x0.lt, ?_, hp⟩
    simp at hgw
    omega
  clear HQ hq hgw wb hB2 g1 g2 z0 z1 z2 z3 z4 hz x0 hK1 hA hb
  generalize w1'.heap.size = ge at *
  simp only [strs, List.map_cons, List.map_nil, List.length_cons, List.length_nil] at EA0 ⊢
  have d0 := EA0.wb.cell (i := 0) rfl
  have d1 := EA0.wb.cell (i := 1) rfl
  have d2 := EA0.wb.cell (i := 2) rfl
  go_wp2_with fail
  refine wp_loop_rounds 4 ?_
  have HQ := wantYes pb t0 t1 us ⟨#[79, 85, 84]⟩ w2 EA0.at' (by simpa [sT] using h0)
  rw [rounds_succ]
  go_wp2_with fail
  refine HQ.mono ?_
  rintro e w3 ⟨rfl, ha3, hk3⟩
  have EB0 := EA0.go hk3 ha3
  clear HQ hk3 ha3 EA0 d0 d1 d2
  go_wp2_with fail
  have d0 := EB0.wb.cell (i := 0) rfl
  have d1 := EB0.wb.cell (i := 1) rfl
  have d2 := EB0.wb.cell (i := 2) rfl
  rw [rounds_succ]
  go_wp2_with fail
  have HQ := hX W0 w3.drew pb hT EB0.bel.drew hp (EB0.at'.kp (Below.refl _ _).drew)
  have r1 : w3.drew.cell? ⟨ge, 3, none⟩ = some (.slice none 0 0) := EB0.eb.cell (i := 3) rfl
  refine rl 7 (S := fun wl => wl.cell? ⟨ge, 3, none⟩ = some (.slice none 0 0)) (by kernel_rfl) r1 (fun hHeld => ?_)
  have hge : pb < ge := by have := EB0.h1; have := EB0.h2; omega
  have hgl : ge < w3.heap.size := EB0.eb.lt
  refine tl 0 (v := ?v501) rfl (by kernel_rfl) (.inl ⟨by rfl, ?y501⟩) hHeld (fun _ _ _ h => h) ?_
  case y501 => intro w hSw; (try dsimp only at hSw); go_simp; first | done | rfl
  refine tl 1 (v := ?v502) rfl (by kernel_rfl) (.inl ⟨by rfl, ?y502⟩) hHeld (fun _ _ _ h => h) ?_
  case y502 => intro w hSw; (try dsimp only at hSw); go_simp; first | done | rfl
  refine tl 2 (v := ?v503) rfl (by kernel_rfl) (.inl ⟨by rfl, ?y503⟩) hHeld (fun _ _ _ h => h) ?_
  case y503 => intro w hSw; (try dsimp only at hSw); go_simp; first | done | rfl
  try simp only [nrm]
  try simp only [nrm]
  refine dl 3 rfl (by kernel_rfl) (fun K hK => ?_)
  go_simp
  (with_reducible refine HQ.mono ?_)
  rintro e w4 ⟨vs, rfl, hR, ha4, hk4⟩
  have EB1 := EB0.go ((Kp.below (pb := pb) (Below.refl w3.heap.size w3).drew).trans hk4) ha4
  obtain ⟨k, n, a1, n1, c1, a2, n2, c2, a3, n3, c3, rfl⟩ := rd5 hR
  have hs4 : w3.heap.size ≤ w4.heap.size := hk4.size
  have S4 := EB1.eb.cell (i := 3) rfl
  simp only [agg]
  clear HQ EB0 r1
  go_wp2_with fail
  refine hK.out _ _ (S4) (fun hHeld => ?_)
  clear hK K
  try simp only [Act.put, List.getElem_toArray, List.getElem_cons_zero, List.getElem_cons_succ, List.setIfInBounds_toArray, List.set_cons_zero, List.set_cons_succ]
  have hB := below_grown (grown_alloc w4 (.cells #[.int .i64 k, .int .i64 n, .slice a1 n1 c1, .slice a2 n2 c2, .slice a3 n3 c3] 122 (0, 0)) none)
  have xC := Blk.new w4 122 [.int .i64 k, .int .i64 n, .slice a1 n1 c1, .slice a2 n2 c2, .slice a3 n3 c3]
  have EB2 := EB1.go (Kp.below (pb := pb) hB) (EB1.at'.kp hB)
  have hR2 : RdVals (fr w3.heap.size (w4.alloc (.cells #[.int .i64 k, .int .i64 n, .slice a1 n1 c1, .slice a2 n2 c2, .slice a3 n3 c3] 122 (0, 0)))) x.fl [.int .i64 k, .int .i64 n, .slice a1 n1 c1, .slice a2 n2 c2, .slice a3 n3 c3] := RdVals.cm ((Kp.below (pb := pb) hB).cm (by show pb < w3.heap.size; omega)) hR
  have S5 := EB2.eb.cell (i := 3) rfl
  have hs5 : w3.heap.size ≤ (w4.alloc (.cells #[.int .i64 k, .int .i64 n, .slice a1 n1 c1, .slice a2 n2 c2, .slice a3 n3 c3] 122 (0, 0))).heap.size := Nat.le_trans hs4 hB.size
  refine dl 4 rfl (by kernel_rfl) (fun K hK => ?_)
  go_simp
  refine hK.out _ _ (S5) (fun hHeld => ?_)
  clear hK K
  try simp only [Act.put, List.getElem_toArray, List.getElem_cons_zero, List.getElem_cons_succ, List.setIfInBounds_toArray, List.set_cons_zero, List.set_cons_succ]
  clear hB hR EB1 hk4 ha4 hs4 S4
  simp only [List.toArray] at xC
  generalize w4.alloc (.cells #[.int .i64 k, .int .i64 n, .slice a1 n1 c1, .slice a2 n2 c2, .slice a3 n3 c3] 122 (0, 0)) = w5 at *
  generalize w4.heap.size = gx at *
  refine dl 5 rfl (by kernel_rfl) (fun K hK => ?_)
  rw [if_pos (by kernel_rfl)]
  refine wp_appG infoEx Tryz.underlying118 rfl (by decide) (by decide) _ _ rfl (v := .slice none 0 0) rfl (GL.nil w5 w3.heap.size 122 5) rfl xC rfl hR2 (Nat.le_refl _) (fun q h => by cases h) (by decide) hs5 ?_
  intro g c w6 GL6 hg6
  simp only [List.nil_append, List.length_nil, Nat.zero_add] at GL6 ⊢
  have hB6 : Below w5.heap.size w5 w6 := below_grown hg6
  have EB3 := EB2.go (Kp.below (pb := pb) hB6) (EB2.at'.kp hB6)
  have S6 := EB3.eb.cell (i := 3) rfl
  refine hK.out _ _ (S6) (fun hHeld => ?_)
  clear hK K
  try simp only [Act.put, List.getElem_toArray, List.getElem_cons_zero, List.getElem_cons_succ, List.setIfInBounds_toArray, List.set_cons_zero, List.set_cons_succ]
  refine tl 6 (v := ?v504) rfl (by kernel_rfl) (.inl ⟨by rfl, ?y504⟩) hHeld (fun _ _ _ h => h) ?_
  case y504 => intro w hSw; (try dsimp only at hSw); go_simp; first | done | rfl
  try simp only [nrm]
  have r1 := EB3.eb.cell (i := 3) rfl
  have r1f := EB3.eb.free 3
  have EC1 : Hid _ := EB3.set 3 (.slice (some ⟨g, 0, none⟩) 1 c)
  have RK : Hid _ := Fl.Rd.cm (cm_mono (show ge + 1 ≤ w3.heap.size by omega) _) _ _ (GL6.far (g := ge) (i := 3) (u := .slice (some ⟨g, 0, none⟩) 1 c) hgl).rd
  clear GL6 hB6 EB2 EB3 S5 S6 hg6 xC hR2 hs5
  refine el rfl (by kernel_rfl) (by kernel_rfl) (fun K hK => ?_)
  go_simp
  refine hK.out _ _ ?_
  clear hK K hHeld r1 r1f d0 d1 d2
  go_wp2_with fail
  generalize w6.setCell ⟨ge, 3, none⟩ (.slice (some ⟨g, 0, none⟩) 1 c) = w7 at *
  replace EC1 := EC1.out
  replace RK := RK.out
  simp only [List.set_cons_succ, List.set_cons_zero] at EC1
  have d0 := EC1.wb.cell (i := 0) rfl
  have d1 := EC1.wb.cell (i := 1) rfl
  have d2 := EC1.wb.cell (i := 2) rfl
  have HQ := wantYes pb t2 y ts ⟨#[59]⟩ w7 EC1.at' (by simpa [sT] using h2)
  rw [rounds_succ]
  go_wp2_with fail
  refine HQ.mono ?_
  rintro e w8 ⟨rfl, ha3, hk3⟩
  have EB4 := EC1.go hk3 ha3
  replace RK := Fl.Rd.cm (hk3.cm (N := ge + 1) (by omega)) _ _ RK
  clear HQ hk3 ha3 EC1 d0 d1 d2
  go_wp2_with fail
  have d0 := EB4.wb.cell (i := 0) rfl
  have d1 := EB4.wb.cell (i := 1) rfl
  have d2 := EB4.wb.cell (i := 2) rfl
  rw [rounds_succ]
  have r0 := EB4.eb.cell (i := 0) rfl
  have y0 := EB4.xb.cell (i := 0) rfl
  have u0 := EB4.xb.free 0
  have r1 := EB4.eb.cell (i := 1) rfl
  have y1 := EB4.xb.cell (i := 1) rfl
  have u1 := EB4.xb.free 1
  have r2 := EB4.eb.cell (i := 2) rfl
  have y2 := EB4.xb.cell (i := 2) rfl
  have u2 := EB4.xb.free 2
  have r3 := EB4.eb.cell (i := 3) rfl
  have y3 := EB4.xb.cell (i := 3) rfl
  have u3 := EB4.xb.free 3
  have r4 := EB4.eb.cell (i := 4) rfl
  have y4 := EB4.xb.cell (i := 4) rfl
  have u4 := EB4.xb.free 4
  have r5 := EB4.eb.cell (i := 5) rfl
  have y5 := EB4.xb.cell (i := 5) rfl
  have u5 := EB4.xb.free 5
  have HR : Hid _ := fin6 (r := (St.mk 5 0 [] [x] [] []).fl) (a0 := .int .i64 5) (a1 := .int .i64 0) (a2 := .slice none 0 0) (a3 := .slice (some ⟨g, 0, none⟩) 1 c) (a4 := .slice none 0 0) (a5 := .slice none 0 0) EB4.xb EB4.at' EB4.kp (by unfold St.fl; exact ⟨_, _, rfl, rfl, _, _, rfl, rfl, _, _, rfl, rd_none _, _, _, rfl, Fl.Rd.cm (cm_mono (by have := EB4.h2; omega) _) _ _ RK, _, _, rfl, rd_noL _ _, _, _, rfl, rd_noL _ _, rfl⟩)
  clear EB4 RK
  go_wp2_with fail
  generalize (((((w8.setCell ⟨W.heap.size, 0, none⟩ (.int .i64 5)).setCell ⟨W.heap.size, 1, none⟩ (.int .i64 0)).setCell ⟨W.heap.size, 2, none⟩ (.slice none 0 0)).setCell ⟨W.heap.size, 3, none⟩ (.slice (some ⟨g, 0, none⟩) 1 c)).setCell ⟨W.heap.size, 4, none⟩ (.slice none 0 0)).setCell ⟨W.heap.size, 5, none⟩ (.slice none 0 0) = wz at *
  obtain ⟨bR, rR⟩ := HR.out
  have e0 := bR.cell (i := 0) rfl
  have e1 := bR.cell (i := 1) rfl
  have e2 := bR.cell (i := 2) rfl
  have e3 := bR.cell (i := 3) rfl
  have e4 := bR.cell (i := 4) rfl
  have e5 := bR.cell (i := 5) rfl
  refine bodyPost_ret (v := agg [.int .i64 5, .int .i64 0, .slice none 0 0, .slice (some ⟨g, 0, none⟩) 1 c, .slice none 0 0, .slice none 0 0]) ?_ rfl ⟨_, rfl, rR⟩
  simp [results, Tryz.results87, go_sem, e0, e1, e2, e3, e4, e5, agg]

set_option maxHeartbeats 8000000 in
theorem psS7 (t0 t1 t2 y : Tok) (us ts : List Tok) (x : Ex) (he : stK t0 t1 = (7, true)) (h0 : sT t0.text [67, 65, 76, 76] = true) (hX : PsC (t1 :: us) x (t2 :: y :: ts)) (h2 : sT t2.text [59] = true) : PsS (t0 :: t1 :: us) (.mk 7 0 [] [x] [] []) (y :: ts) := by
  intro W0 W pb hT hb hp hA
  have x0 := Blk.new W 133 [.int .i64 0, .int .i64 0, .slice none 0 0, .slice none 0 0, .slice none 0 0, .slice none 0 0]
  have hB9 := below_grown (grown_alloc W (.cells #[.int .i64 0, .int .i64 0, .slice none 0 0, .slice none 0 0, .slice none 0 0, .slice none 0 0] 133 (0, 0)) none)
  replace hb := hb.trans (hB9.mono hb.size)
  have hpl : pb < W.heap.size := by obtain ⟨_, _, _, h1, _⟩ := hA.ex; exact h1.lt
  replace hA := hA.kp hB9
  have hK1 : Kp pb W _ := Kp.below hB9
  clear hB9
  have hK := stKC pb t0 t1 _ _ hA
  rw [he] at hK
  go_enter Tryz.func87, Tryz.ntmps87
  go_wp2_with fail
  refine hK.mono ?_
  clear hK
  generalize W.alloc (.cells #[.int .i64 0, .int .i64 0, .slice none 0 0, .slice none 0 0, .slice none 0 0, .slice none 0 0] 133 (0, 0)) = w1 at *
  rintro e w1' ⟨rfl, e2⟩
  subst e2
  have hF := (hT.below hb).st 7 (by omega)
  have z0 := hF.c0
  have z1 := hF.c1
  have z2 := hF.c2
  have z3 := hF.c3
  have z4 := hF.c4
  clear hF
  simp only [Nat.reduceMul, Nat.reduceAdd, Nat.zero_mul, Nat.zero_add] at z0 z1 z2 z3 z4
  have hz := World.block_lt_of_cell? _ _ z0
  dsimp only at hz
  have g1 := grown_alloc w1' (.cells #[.int .i64 7, .int .i64 0, .slice none 0 0, .slice none 0 0, .slice none 0 0, .slice none 0 0] 133 (0, 0)) none
  have g2 := grown_alloc (w1'.alloc (.cells #[.int .i64 7, .int .i64 0, .slice none 0 0, .slice none 0 0, .slice none 0 0, .slice none 0 0] 133 (0, 0))) (.cells #[.string ⟨(stF 7).txt.toArray⟩, .int .i64 (stF 7).lo, .int .i64 (stF 7).hi, .int .i64 (stF 7).le, .int .i64 (stF 7).mo] 153 (0, 0)) none
  have hB2 : Below w1'.heap.size w1' _ := (below_grown g1).trans ((below_grown g2).mono (below_grown g1).size)
  have HQ := wordsC (stF 7) (stPlain 7) _ (hT.below (hb.trans (hB2.mono hb.size)))
  rw [stW7] at HQ
  unfold Fm.val at HQ
  go_wp2_with fail
  refine HQ.mono ?_
  rintro e w2 ⟨gw, rfl, wb, hgw, hq⟩
  have EA0 : SA W0 W w2 pb w1'.heap.size gw (t0 :: t1 :: us) [.int .i64 7, .int .i64 0, .slice none 0 0, .slice none 0 0, .slice none 0 0, .slice none 0 0] (stF 7) (strs [[67, 65, 76, 76], [99, 97, 108, 108], [59]]) := by
    have hB3 := hB2.trans ((below_grown hq).mono hB2.size)
    have b1 := (Blk.new w1' 133 [.int .i64 7, .int .i64 0, .slice none 0 0, .slice none 0 0, .slice none 0 0, .slice none 0 0])
    have b1 := b1.below (below_grown g2) b1.lt
    have b1 := b1.below (below_grown hq) b1.lt
    have b2 := (Blk.new (w1'.alloc (.cells #[.int .i64 7, .int .i64 0, .slice none 0 0, .slice none 0 0, .slice none 0 0, .slice none 0 0] 133 (0, 0))) 153 [.string ⟨(stF 7).txt.toArray⟩, .int .i64 (stF 7).lo, .int .i64 (stF 7).hi, .int .i64 (stF 7).le, .int .i64 (stF 7).mo])
    have b2 := b2.below (below_grown hq) b2.lt
    rw [show (w1'.alloc (.cells #[.int .i64 7, .int .i64 0, .slice none 0 0, .slice none 0 0, .slice none 0 0, .slice none 0 0] 133 (0, 0))).heap.size = w1'.heap.size + 1 by simp] at b2
    refine ⟨hb.trans (hB3.mono hb.size), hA.kp hB3, hK1.trans (Kp.below hB3), x0.below hB3 x0.lt, b1, b2, wb, hpl, x0.lt, ?_, hp⟩
    simp at hgw
    omega
  clear HQ hq hgw wb hB2 g1 g2 z0 z1 z2 z3 z4 hz x0 hK1 hA hb
  generalize w1'.heap.size = ge at *
  simp only [strs, List.map_cons, List.map_nil, List.length_cons, List.length_nil] at EA0 ⊢
  have d0 := EA0.wb.cell (i := 0) rfl
  have d1 := EA0.wb.cell (i := 1) rfl
  have d2 := EA0.wb.cell (i := 2) rfl
  go_wp2_with fail
  refine wp_loop_rounds 4 ?_
  have HQ := wantYes pb t0 t1 us ⟨#[67, 65, 76, 76]⟩ w2 EA0.at' (by simpa [sT] using h0)
  rw [rounds_succ]
  go_wp2_with fail
  refine HQ.mono ?_
  rintro e w3 ⟨rfl, ha3, hk3⟩
  have EB0 := EA0.go hk3 ha3
  clear HQ hk3 ha3 EA0 d0 d1 d2
  go_wp2_with fail
  have d0 := EB0.wb.cell (i := 0) rfl
  have d1 := EB0.wb.cell (i := 1) rfl
  have d2 := EB0.wb.cell (i := 2) rfl
  rw [rounds_succ]
  go_wp2_with fail
  have HQ := hX W0 w3.drew pb hT EB0.bel.drew hp (EB0.at'.kp (Below.refl _ _).drew)
  have r1 : w3.drew.cell? ⟨ge, 3, none⟩ = some (.slice none 0 0) := EB0.eb.cell (i := 3) rfl
  refine rl 7 (S := fun wl => wl.cell? ⟨ge, 3, none⟩ = some (.slice none 0 0)) (by kernel_rfl) r1 (fun hHeld => ?_)
  have hge : pb < ge := by have := EB0.h1; have := EB0.h2; omega
  have hgl : ge < w3.heap.size := EB0.eb.lt
  refine tl 0 (v := ?v505) rfl (by kernel_rfl) (.inl ⟨by rfl, ?y505⟩) hHeld (fun _ _ _ h => h) ?_
  case y505 => intro w hSw; (try dsimp only at hSw); go_simp; first | done | rfl
  refine tl 1 (v := ?v506) rfl (by kernel_rfl) (.inl ⟨by rfl, ?y506⟩) hHeld (fun _ _ _ h => h) ?_
  case y506 => intro w hSw; (try dsimp only at hSw); go_simp; first | done | rfl
  refine tl 2 (v := ?v507) rfl (by kernel_rfl) (.inl ⟨by rfl, ?y507⟩) hHeld (fun _ _ _ h => h) ?_
  case y507 => intro w hSw; (try dsimp only at hSw); go_simp; first | done | rfl
  try simp only [nrm]
  try simp only [nrm]
  refine dl 3 rfl (by kernel_rfl) (fun K hK => ?_)
  go_simp
  (with_reducible refine HQ.mono ?_)
  rintro e w4 ⟨vs, rfl, hR, ha4, hk4⟩
  have EB1 := EB0.go ((Kp.below (pb := pb) (Below.refl w3.heap.size w3).drew).trans hk4) ha4
  obtain ⟨k, n, a1, n1, c1, a2, n2, c2, a3, n3, c3, rfl⟩ := rd5 hR
  have hs4 : w3.heap.size ≤ w4.heap.size := hk4.size
  have S4 := EB1.eb.cell (i := 3) rfl
  simp only [agg]
  clear HQ EB0 r1
  go_wp2_with fail
  refine hK.out _ _ (S4) (fun hHeld => ?_)
  clear hK K
  try simp only [Act.put, List.getElem_toArray, List.getElem_cons_zero, List.getElem_cons_succ, List.setIfInBounds_toArray, List.set_cons_zero, List.set_cons_succ]
  have hB := below_grown (grown_alloc w4 (.cells #[.int .i64 k, .int .i64 n, .slice a1 n1 c1, .slice a2 n2 c2, .slice a3 n3 c3] 122 (0, 0)) none)
  have xC := Blk.new w4 122 [.int .i64 k, .int .i64 n, .slice a1 n1 c1, .slice a2 n2 c2, .slice a3 n3 c3]
  have EB2 := EB1.go (Kp.below (pb := pb) hB) (EB1.at'.kp hB)
  have hR2 : RdVals (fr w3.heap.size (w4.alloc (.cells #[.int .i64 k, .int .i64 n, .slice a1 n1 c1, .slice a2 n2 c2, .slice a3 n3 c3] 122 (0, 0)))) x.fl [.int .i64 k, .int .i64 n, .slice a1 n1 c1, .slice a2 n2 c2, .slice a3 n3 c3] := RdVals.cm ((Kp.below (pb := pb) hB).cm (by show pb < w3.heap.size; omega)) hR
  have S5 := EB2.eb.cell (i := 3) rfl
  have hs5 : w3.heap.size ≤ (w4.alloc (.cells #[.int .i64 k, .int .i64 n, .slice a1 n1 c1, .slice a2 n2 c2, .slice a3 n3 c3] 122 (0, 0))).heap.size := Nat.le_trans hs4 hB.size
  refine dl 4 rfl (by kernel_rfl) (fun K hK => ?_)
  go_simp
  refine hK.out _ _ (S5) (fun hHeld => ?_)
  clear hK K
  try simp only [Act.put, List.getElem_toArray, List.getElem_cons_zero, List.getElem_cons_succ, List.setIfInBounds_toArray, List.set_cons_zero, List.set_cons_succ]
  clear hB hR EB1 hk4 ha4 hs4 S4
  simp only [List.toArray] at xC
  generalize w4.alloc (.cells #[.int .i64 k, .int .i64 n, .slice a1 n1 c1, .slice a2 n2 c2, .slice a3 n3 c3] 122 (0, 0)) = w5 at *
  generalize w4.heap.size = gx at *
  refine dl 5 rfl (by kernel_rfl) (fun K hK => ?_)
  rw [if_pos (by kernel_rfl)]
  refine wp_appG infoEx Tryz.underlying118 rfl (by decide) (by decide) _ _ rfl (v := .slice none 0 0) rfl (GL.nil w5 w3.heap.size 122 5) rfl xC rfl hR2 (Nat.le_refl _) (fun q h => by cases h) (by decide) hs5 ?_
  intro g c w6 GL6 hg6
  simp only [List.nil_append, List.length_nil, Nat.zero_add] at GL6 ⊢
  have hB6 : Below w5.heap.size w5 w6 := below_grown hg6
  have EB3 := EB2.go (Kp.below (pb := pb) hB6) (EB2.at'.kp hB6)
  have S6 := EB3.eb.cell (i := 3) rfl
  refine hK.out _ _ (S6) (fun hHeld => ?_)
  clear hK K
  try simp only [Act.put, List.getElem_toArray, List.getElem_cons_zero, List.getElem_cons_succ, List.setIfInBounds_toArray, List.set_cons_zero, List.set_cons_succ]
  refine tl 6 (v := ?v508) rfl (by kernel_rfl) (.inl ⟨by rfl, ?y508⟩) hHeld (fun _ _ _ h => h) ?_
  case y508 => intro w hSw; (try dsimp only at hSw); go_simp; first | done | rfl
  try simp only [nrm]
  have r1 := EB3.eb.cell (i := 3) rfl
  have r1f := EB3.eb.free 3
  have EC1 : Hid _ := EB3.set 3 (.slice (some ⟨g, 0, none⟩) 1 c)
  have RK : Hid _ := Fl.Rd.cm (cm_mono (show ge + 1 ≤ w3.heap.size by omega) _) _ _ (GL6.far (g := ge) (i := 3) (u := .slice (some ⟨g, 0, none⟩) 1 c) hgl).rd
  clear GL6 hB6 EB2 EB3 S5 S6 hg6 xC hR2 hs5
  refine el rfl (by kernel_rfl) (by kernel_rfl) (fun K hK => ?_)
  go_simp
  refine hK.out _ _ ?_
  clear hK K hHeld r1 r1f d0 d1 d2
  go_wp2_with fail
  generalize w6.setCell ⟨ge, 3, none⟩ (.slice (some ⟨g, 0, none⟩) 1 c) = w7 at *
  replace EC1 := EC1.out
  replace RK := RK.out
  simp only [List.set_cons_succ, List.set_cons_zero] at EC1
  have d0 := EC1.wb.cell (i := 0) rfl
  have d1 := EC1.wb.cell (i := 1) rfl
  have d2 := EC1.wb.cell (i := 2) rfl
  have HQ := wantYes pb t2 y ts ⟨#[59]⟩ w7 EC1.at' (by simpa [sT] using h2)
  rw [rounds_succ]
  go_wp2_with fail
  refine HQ.mono ?_
  rintro e w8 ⟨rfl, ha3, hk3⟩
  have EB4 := EC1.go hk3 ha3
  replace RK := Fl.Rd.cm (hk3.cm (N := ge + 1) (by omega)) _ _ RK
  clear HQ hk3 ha3 EC1 d0 d1 d2
  go_wp2_with fail
  have d0 := EB4.wb.cell (i := 0) rfl
  have d1 := EB4.wb.cell (i := 1) rfl
  have d2 := EB4.wb.cell (i := 2) rfl
  rw [rounds_succ]
  have r0 := EB4.eb.cell (i := 0) rfl
  have y0 := EB4.xb.cell (i := 0) rfl
  have u0 := EB4.xb.free 0
  have r1 := EB4.eb.cell (i := 1) rfl
  have y1 := EB4.xb.cell (i := 1) rfl
  have u1 := EB4.xb.free 1
  have r2 := EB4.eb.cell (i := 2) rfl
  have y2 := EB4.xb.cell (i := 2) rfl
  have u2 := EB4.xb.free 2
  have r3 := EB4.eb.cell (i := 3) rfl
  have y3 := EB4.xb.cell (i := 3) rfl
  have u3 := EB4.xb.free 3
  have r4 := EB4.eb.cell (i := 4) rfl
  have y4 := EB4.xb.cell (i := 4) rfl
  have u4 := EB4.xb.free 4
  have r5 := EB4.eb.cell (i := 5) rfl
  have y5 := EB4.xb.cell (i := 5) rfl
  have u5 := EB4.xb.free 5
  have HR : Hid _ := fin6 (r := (St.mk 7 0 [] [x] [] []).fl) (a0 := .int .i64 7) (a1 := .int .i64 0) (a2 := .slice none 0 0) (a3 := .slice (some ⟨g, 0, none⟩) 1 c) (a4 := .slice none 0 0) (a5 := .slice none 0 0) EB4.xb EB4.at' EB4.kp (by unfold St.fl; exact ⟨_, _, rfl, rfl, _, _, rfl, rfl, _, _, rfl, rd_none _, _, _, rfl, Fl.Rd.cm (cm_mono (by have := EB4.h2; omega) _) _ _ RK, _, _, rfl, rd_noL _ _, _, _, rfl, rd_noL _ _, rfl⟩)
  clear EB4 RK
  go_wp2_with fail
  generalize (((((w8.setCell ⟨W.heap.size, 0, none⟩ (.int .i64 7)).setCell ⟨W.heap.size, 1, none⟩ (.int .i64 0)).setCell ⟨W.heap.size, 2, none⟩ (.slice none 0 0)).setCell ⟨W.heap.size, 3, none⟩ (.slice (some ⟨g, 0, none⟩) 1 c)).setCell ⟨W.heap.size, 4, none⟩ (.slice none 0 0)).setCell ⟨W.heap.size, 5, none⟩ (.slice none 0 0) = wz at *
  obtain ⟨bR, rR⟩ := HR.out
  have e0 := bR.cell (i := 0) rfl
  have e1 := bR.cell (i := 1) rfl
  have e2 := bR.cell (i := 2) rfl
  have e3 := bR.cell (i := 3) rfl
  have e4 := bR.cell (i := 4) rfl
  have e5 := bR.cell (i := 5) rfl
  refine bodyPost_ret (v := agg [.int .i64 7, .int .i64 0, .slice none 0 0, .slice (some ⟨g, 0, none⟩) 1 c, .slice none 0 0, .slice none 0 0]) ?_ rfl ⟨_, rfl, rR⟩
  simp [results, Tryz.results87, go_sem, e0, e1, e2, e3, e4, e5, agg]

attribute [local go_sem] Oper.semAt_some

def PsSS (ts : List Tok) (l : List St) (r : List Tok) : Prop := ∀ (W0 W : World) (pb : Nat), Tabs W0 → Below W0.heap.size W0 W → W0.heap.size ≤ pb → At W pb ts →
  Calls Tryz.prog 53 #[.pointer (some ⟨pb, 0, none⟩)] W fun e W' => ∃ v, e = .returned v ∧ (Fl.l 6 (sts l)).Rd (fr W.heap.size W') v ∧ At W' pb r ∧ Kp pb W W'
theorem rd6 {w : World} {x : St} {vs : List Value} (h : RdVals w x.fl vs) : ∃ k n a1 n1 c1 a2 n2 c2 a3 n3 c3 a4 n4 c4, vs = [.int .i64 k, .int .i64 n, .slice a1 n1 c1, .slice a2 n2 c2, .slice a3 n3 c3, .slice a4 n4 c4] := by
  cases x with
  | mk k n a ks bs es =>
    unfold St.fl at h
    obtain ⟨y0, _, rfl, rfl, y1, _, rfl, rfl, y2, _, rfl, ⟨a2, c2, rfl, _⟩, y3, _, rfl, ⟨a3, c3, rfl, _⟩, y4, _, rfl, ⟨a4, c4, rfl, _⟩, y5, _, rfl, ⟨a5, c5, rfl, _⟩, rfl⟩ := h
    exact ⟨_, _, _, _, _, _, _, _, _, _, _, _, _, _, rfl⟩
theorem sT_no {t : List Int} {s : Array UInt8} (h : sT t s.toList = false) : ((strOfNums t).toList == (⟨s⟩ : ByteArray).toList) = false := by rw [show (⟨s⟩ : ByteArray).toList = s.toList by simp [ByteArray.toList_eq]]; exact h
theorem sT_yes {t : List Int} {s : Array UInt8} (h : sT t s.toList = true) : ((strOfNums t).toList == (⟨s⟩ : ByteArray).toList) = true := by rw [show (⟨s⟩ : ByteArray).toList = s.toList by simp [ByteArray.toList_eq]]; exact h

set_option maxHeartbeats 8000000 in
theorem ss1 (t0 t1 : Tok) (u0 u1 : List Tok) (x0 : St) (hS0 : PsS (t0 :: u0) x0 (t1 :: u1)) (e0 : sT t0.text [69, 78, 68] = false) (l0 : sT t0.text [69, 76, 83, 69] = false) (e1 : sT t1.text [69, 78, 68] = true) : PsSS (t0 :: u0) [x0] (t1 :: u1) := by
  intro W0 W pb hT hb hp hA
  have hpl : pb < W.heap.size := by obtain ⟨_, _, _, h1, _⟩ := hA.ex; exact h1.lt
  have P0 : PW W0 W W pb (t0 :: u0) := ⟨hb, hA, Kp.refl _ _, hpl, hp⟩
  have G0 := GL.nil W W.heap.size 133 6
  clear hb hA
  go_enter Tryz.func53, Tryz.ntmps53
  go_wp2_with fail
  refine wp_loop_rounds 2 ?_
  have HE := seesC pb t0 u0 ⟨#[69, 78, 68]⟩ _ P0.at'
  have HL := seesC pb t0 u0 ⟨#[69, 76, 83, 69]⟩ _ P0.at'
  rw [sT_no e0] at HE
  rw [sT_no l0] at HL
  have HS := hS0 W0 _ pb hT P0.bel hp P0.at'
  rw [rounds_succ]
  go_wp2_with fail
  refine HE.mono ?_
  rintro e wq ⟨rfl, hq⟩
  rw [hq]
  clear HE hq wq
  go_wp2_with fail
  refine HL.mono ?_
  rintro e wq ⟨rfl, hq⟩
  rw [hq]
  clear HL hq wq
  go_wp2_with fail
  refine HS.mono ?_
  rintro e p0 ⟨vs, rfl, hR, hA1, hK1⟩
  obtain ⟨k, n, a1, n1, c1, a2, n2, c2, a3, n3, c3, a4, n4, c4, rfl⟩ := rd6 hR
  have hq1 := fun q hq => (G0.ty q hq).2.1
  have hs0 := P0.kp.size
  replace P0 := P0.go hK1 hA1
  replace G0 := G0.kp hK1 hpl
  have hB := below_grown (grown_alloc p0 (.cells #[.int .i64 k, .int .i64 n, .slice a1 n1 c1, .slice a2 n2 c2, .slice a3 n3 c3, .slice a4 n4 c4] 133 (0, 0)) none)
  have xC := Blk.new p0 133 [.int .i64 k, .int .i64 n, .slice a1 n1 c1, .slice a2 n2 c2, .slice a3 n3 c3, .slice a4 n4 c4]
  replace P0 := P0.al hB
  replace G0 := G0.below hB
  replace hR := RdVals.cm ((Kp.below (pb := pb) hB).cm (N := W.heap.size) (by omega)) hR
  have hs5 := P0.kp.size
  simp only [agg]
  clear HS hA1 hK1 hB
  go_wp2_with (at_builtin; refine wpList_appG rfl infoSt Tryz.underlying62 rfl (by decide) (by decide) _ _ rfl (v := .slice none 0 0) rfl G0 rfl xC rfl hR hs0 hq1 (by simp) hs5 ?_)
  intro g1 c1' q1 GG hg
  replace P0 := P0.row hg G0 (Nat.le_refl _) (by decide) (by decide)
  clear G0 hg xC hR hs5 hs0 hq1
  generalize p0.alloc (.cells #[.int .i64 k, .int .i64 n, .slice a1 n1 c1, .slice a2 n2 c2, .slice a3 n3 c3, .slice a4 n4 c4] 133 (0, 0)) = pq at *
  have G0 := GG
  clear GG
  try simp only [List.length_cons, List.length_nil, Nat.zero_add, Nat.reduceAdd, List.cons_append, List.nil_append] at G0 ⊢
  go_wp2_with fail
  have HE := seesC pb t1 u1 ⟨#[69, 78, 68]⟩ _ P0.at'
  rw [sT_yes e1] at HE
  rw [rounds_succ]
  go_wp2_with fail
  refine HE.mono ?_
  rintro e wq ⟨rfl, hq⟩
  rw [hq]
  have PR : Hid _ := P0
  have GR : Hid _ := G0
  clear HE hq wq P0 G0
  go_wp2_with fail
  go_ret
  exact ⟨_, rfl, GR.out.rd, PR.out.at', PR.out.kp⟩

set_option maxHeartbeats 8000000 in
theorem ss2 (t0 t1 t2 : Tok) (u0 u1 u2 : List Tok) (x0 x1 : St) (hS0 : PsS (t0 :: u0) x0 (t1 :: u1)) (e0 : sT t0.text [69, 78, 68] = false) (l0 : sT t0.text [69, 76, 83, 69] = false) (hS1 : PsS (t1 :: u1) x1 (t2 :: u2)) (e1 : sT t1.text [69, 78, 68] = false) (l1 : sT t1.text [69, 76, 83, 69] = false) (e2 : sT t2.text [69, 78, 68] = true) : PsSS (t0 :: u0) [x0, x1] (t2 :: u2) := by
  intro W0 W pb hT hb hp hA
  have hpl : pb < W.heap.size := by obtain ⟨_, _, _, h1, _⟩ := hA.ex; exact h1.lt
  have P0 : PW W0 W W pb (t0 :: u0) := ⟨hb, hA, Kp.refl _ _, hpl, hp⟩
  have G0 := GL.nil W W.heap.size 133 6
  clear hb hA
  go_enter Tryz.func53, Tryz.ntmps53
  go_wp2_with fail
  refine wp_loop_rounds 3 ?_
  have HE := seesC pb t0 u0 ⟨#[69, 78, 68]⟩ _ P0.at'
  have HL := seesC pb t0 u0 ⟨#[69, 76, 83, 69]⟩ _ P0.at'
  rw [sT_no e0] at HE
  rw [sT_no l0] at HL
  have HS := hS0 W0 _ pb hT P0.bel hp P0.at'
  rw [rounds_succ]
  go_wp2_with fail
  refine HE.mono ?_
  rintro e wq ⟨rfl, hq⟩
  rw [hq]
  clear HE hq wq
  go_wp2_with fail
  refine HL.mono ?_
  rintro e wq ⟨rfl, hq⟩
  rw [hq]
  clear HL hq wq
  go_wp2_with fail
  refine HS.mono ?_
  rintro e p0 ⟨vs, rfl, hR, hA1, hK1⟩
  obtain ⟨k, n, a1, n1, c1, a2, n2, c2, a3, n3, c3, a4, n4, c4, rfl⟩ := rd6 hR
  have hq1 := fun q hq => (G0.ty q hq).2.1
  have hs0 := P0.kp.size
  replace P0 := P0.go hK1 hA1
  replace G0 := G0.kp hK1 hpl
  have hB := below_grown (grown_alloc p0 (.cells #[.int .i64 k, .int .i64 n, .slice a1 n1 c1, .slice a2 n2 c2, .slice a3 n3 c3, .slice a4 n4 c4] 133 (0, 0)) none)
  have xC := Blk.new p0 133 [.int .i64 k, .int .i64 n, .slice a1 n1 c1, .slice a2 n2 c2, .slice a3 n3 c3, .slice a4 n4 c4]
  replace P0 := P0.al hB
  replace G0 := G0.below hB
  replace hR := RdVals.cm ((Kp.below (pb := pb) hB).cm (N := W.heap.size) (by omega)) hR
  have hs5 := P0.kp.size
  simp only [agg]
  clear HS hA1 hK1 hB
  go_wp2_with (at_builtin; refine wpList_appG rfl infoSt Tryz.underlying62 rfl (by decide) (by decide) _ _ rfl (v := .slice none 0 0) rfl G0 rfl xC rfl hR hs0 hq1 (by simp) hs5 ?_)
  intro g1 c1' q1 GG hg
  replace P0 := P0.row hg G0 (Nat.le_refl _) (by decide) (by decide)
  clear G0 hg xC hR hs5 hs0 hq1
  generalize p0.alloc (.cells #[.int .i64 k, .int .i64 n, .slice a1 n1 c1, .slice a2 n2 c2, .slice a3 n3 c3, .slice a4 n4 c4] 133 (0, 0)) = pq at *
  have G0 := GG
  clear GG
  try simp only [List.length_cons, List.length_nil, Nat.zero_add, Nat.reduceAdd, List.cons_append, List.nil_append] at G0 ⊢
  go_wp2_with fail
  have HE := seesC pb t1 u1 ⟨#[69, 78, 68]⟩ _ P0.at'
  have HL := seesC pb t1 u1 ⟨#[69, 76, 83, 69]⟩ _ P0.at'
  rw [sT_no e1] at HE
  rw [sT_no l1] at HL
  have HS := hS1 W0 _ pb hT P0.bel hp P0.at'
  rw [rounds_succ]
  go_wp2_with fail
  refine HE.mono ?_
  rintro e wq ⟨rfl, hq⟩
  rw [hq]
  clear HE hq wq
  go_wp2_with fail
  refine HL.mono ?_
  rintro e wq ⟨rfl, hq⟩
  rw [hq]
  clear HL hq wq
  go_wp2_with fail
  refine HS.mono ?_
  rintro e p1 ⟨vs, rfl, hR, hA1, hK1⟩
  obtain ⟨k, n, a1, n1, c1, a2, n2, c2, a3, n3, c3, a4, n4, c4, rfl⟩ := rd6 hR
  have hq1 := fun q hq => (G0.ty q hq).2.1
  have hs0 := P0.kp.size
  replace P0 := P0.go hK1 hA1
  replace G0 := G0.kp hK1 hpl
  have hB := below_grown (grown_alloc p1 (.cells #[.int .i64 k, .int .i64 n, .slice a1 n1 c1, .slice a2 n2 c2, .slice a3 n3 c3, .slice a4 n4 c4] 133 (0, 0)) none)
  have xC := Blk.new p1 133 [.int .i64 k, .int .i64 n, .slice a1 n1 c1, .slice a2 n2 c2, .slice a3 n3 c3, .slice a4 n4 c4]
  replace P0 := P0.al hB
  replace G0 := G0.below hB
  replace hR := RdVals.cm ((Kp.below (pb := pb) hB).cm (N := q1.heap.size) (by omega)) hR
  have hs5 := P0.kp.size
  simp only [agg]
  clear HS hA1 hK1 hB
  go_wp2_with (at_builtin; refine wpList_appG rfl infoSt Tryz.underlying62 rfl (by decide) (by decide) _ _ rfl (v := .slice (some ⟨g1, 0, none⟩) 1 c1') rfl G0 rfl xC rfl hR hs0 hq1 (by simp) hs5 ?_)
  intro g2 c2' q2 GG hg
  replace P0 := P0.row hg G0 (Nat.le_refl _) (by decide) (by decide)
  clear G0 hg xC hR hs5 hs0 hq1
  generalize p1.alloc (.cells #[.int .i64 k, .int .i64 n, .slice a1 n1 c1, .slice a2 n2 c2, .slice a3 n3 c3, .slice a4 n4 c4] 133 (0, 0)) = pq at *
  have G0 := GG
  clear GG
  try simp only [List.length_cons, List.length_nil, Nat.zero_add, Nat.reduceAdd, List.cons_append, List.nil_append] at G0 ⊢
  go_wp2_with fail
  have HE := seesC pb t2 u2 ⟨#[69, 78, 68]⟩ _ P0.at'
  rw [sT_yes e2] at HE
  rw [rounds_succ]
  go_wp2_with fail
  refine HE.mono ?_
  rintro e wq ⟨rfl, hq⟩
  rw [hq]
  have PR : Hid _ := P0
  have GR : Hid _ := G0
  clear HE hq wq P0 G0
  go_wp2_with fail
  go_ret
  exact ⟨_, rfl, GR.out.rd, PR.out.at', PR.out.kp⟩


def fz (N M : Nat) (W : World) : World := { W with heap := W.heap.mapIdx fun i o => if N ≤ i ∧ i < M then o else .deferred none }
theorem fz_cell {N M : Nat} {W : World} {a : Addr} {v : Value} : (fz N M W).cell? a = some v ↔ (N ≤ a.block ∧ a.block < M) ∧ W.cell? a = some v := by
  unfold World.cell?
  have e : (fz N M W).heap[a.block]? = (W.heap[a.block]?).map fun o => if N ≤ a.block ∧ a.block < M then o else .deferred none := by simp [fz]
  rw [e]
  by_cases h : N ≤ a.block ∧ a.block < M
  · have e : (W.heap[a.block]?).map (fun o => if N ≤ a.block ∧ a.block < M then o else Obj.deferred none) = W.heap[a.block]? := by simp [h]
    rw [e]
    exact ⟨fun h' => ⟨h, h'⟩, fun h' => h'.2⟩
  · constructor
    · intro h'
      cases hh : W.heap[a.block]? with
      | none => rw [hh] at h'; cases h'
      | some o => rw [hh] at h'; simp [h] at h'
    · intro h'; exact absurd h'.1 h
theorem fz_on {N M : Nat} {A B : World} (h : ∀ k, N ≤ k → k < M → k < A.heap.size → B.heap[k]? = A.heap[k]?) : Cm (fz N M A) (fz N M B) := fun a v hv => by
  obtain ⟨p, q⟩ := fz_cell.1 hv
  exact fz_cell.2 ⟨p, (World.cell?_of_block (h _ p.1 p.2 (World.block_lt_of_cell? _ _ q))).trans q⟩
theorem fz_kp {N M pb : Nat} {A B : World} (h : Kp pb A B) (hp : pb < N) : Cm (fz N M A) (fz N M B) := fz_on fun k a b c => h.block k c (by omega)
theorem fz_set {N M g i : Nat} {A : World} {u : Value} (h : g < N ∨ M ≤ g) : Cm (fz N M A) (fz N M (A.setCell ⟨g, i, none⟩ u)) := fz_on fun k a b c => heap_setCell_other A ⟨g, i, none⟩ k u (by show k ≠ g; omega)
theorem fz_row {N M : Nat} {A B : World} {row : Option Nat} (h : A.grownBy B row) (hr : ∀ q, row = some q → M ≤ q) : Cm (fz N M A) (fz N M B) := fz_on fun k a b c => h.block k c (fun e => by have := hr k e.symm; omega)
theorem fz_in {N : Nat} {A : World} : Cm (fr N A) (fz N A.heap.size A) := fun a v hv => by
  obtain ⟨p, q⟩ := fr_cell.1 hv
  exact fz_cell.2 ⟨⟨p, World.block_lt_of_cell? _ _ q⟩, q⟩
theorem fz_out {N N' M : Nat} {A : World} (h : N' ≤ N) : Cm (fz N M A) (fr N' A) := fun a v hv => by
  obtain ⟨p, q⟩ := fz_cell.1 hv
  exact fr_cell.2 ⟨by omega, q⟩
attribute [local go_sem] Oper.semAt_some

/-- One cell of a result is laid down. -/
structure Lay (W w : World) (pb T : Nat) (ts : List Tok) (r : List Fl) (vs os : List Value) : Prop where
  b : Blk w W.heap.size T os
  a : At w pb ts
  k : Kp pb W w
  r : RdVals (fr (W.heap.size + 1) w) r vs
theorem Lay.set {W w : World} {pb T i : Nat} {ts : List Tok} {r : List Fl} {vs os : List Value} {v : Value} (t1 : T ≠ 38) (t2 : T ≠ 53) (h : Lay W w pb T ts r vs os) : Lay W (w.setCell ⟨W.heap.size, i, none⟩ v) pb T ts r vs (os.set i v) :=
  ⟨h.b.set (i := i) v, h.a.farT h.b t1 t2, h.k.far (Nat.le_refl _), RdVals.cm (cm_set (Nat.lt_succ_self _)) h.r⟩
theorem Lay.fin {W w : World} {pb T : Nat} {ts : List Tok} {r : List Fl} {vs os : List Value} (h : Lay W w pb T ts r vs os) : RdVals (fr W.heap.size w) r vs := RdVals.cm (cm_mono (Nat.le_succ _) _) h.r

def PsP (ts : List Tok) (x : Pr) (r : List Tok) : Prop := ∀ (W0 W : World) (pb : Nat), Tabs W0 → Below W0.heap.size W0 W → W0.heap.size ≤ pb → At W pb ts →
  Calls Tryz.prog 22 #[.pointer (some ⟨pb, 0, none⟩)] W fun e W' => ∃ vs, e = .returned (agg vs) ∧ RdVals (fr W.heap.size W') x.fl vs ∧ At W' pb r ∧ Kp pb W W'

set_option maxHeartbeats 8000000 in
theorem psP (x t1 s1 b1 c0 e1 s2 y : Tok) (u1 u3 ts : List Tok) (ps : List Pa) (l : List St) (hk : x.kind = 3) (hx : ∀ b ∈ x.text, 0 ≤ b ∧ b ≤ 255) (hn : x.text.length ≤ 3000) (hst : sT t1.text [42] = false) (hB : PsBP (t1 :: u1) ps (s1 :: b1 :: c0 :: u3)) (h1 : sT s1.text [59] = true) (hv : sT b1.text [86, 65, 82] = false) (hb1 : sT b1.text [66, 69, 71, 73, 78] = true)
    (hS : PsSS (c0 :: u3) l (e1 :: s2 :: y :: ts)) (he1 : sT e1.text [69, 78, 68] = true) (h2 : sT s2.text [59] = true) : PsP (x :: t1 :: u1) ⟨x.text, false, ps, [], l⟩ (y :: ts) := by
  intro W0 W pb hT hb hp hA
  have hmf : ∀ (fn : Fn) (first cap : Array Value) (w : World), (Instr.makeFunc fn first cap).run Tryz.prog w = .ok (.func fn first cap) w := fun _ _ _ _ => rfl
  have hpl : pb < W.heap.size := by obtain ⟨_, _, _, h1, _⟩ := hA.ex; exact h1.lt
  have x0 := Blk.new W 64 [.slice none 0 0, .bool false, .slice none 0 0, .slice none 0 0, .slice none 0 0]
  have hB9 := below_grown (grown_alloc W (.cells #[.slice none 0 0, .bool false, .slice none 0 0, .slice none 0 0, .slice none 0 0] 64 (0, 0)) none)
  have P0 : PW W0 W W pb (x :: t1 :: u1) := ⟨hb, hA, Kp.refl _ _, hpl, hp⟩
  replace P0 := P0.al hB9
  clear hb hA hB9
  have HN := smallYes pb x t1 u1 _ P0.at' hk hx hn
  go_enter Tryz.func22, Tryz.ntmps22
  go_wp2_with fail
  refine HN.mono ?_
  rintro e w2 ⟨v, rfl, hR, hA1, hK1⟩
  replace P0 := P0.go hK1 hA1
  replace x0 := hK1.blk x0 (by omega)
  clear HN
  have hsz : W.heap.size + 1 ≤ w2.heap.size := by have := hK1.size; simpa using this
  obtain ⟨aN, cN, rfl, hRS⟩ := hR
  have hRN : (Fl.b x.text).Rd (fr (W.heap.size + 1) w2) (.slice aN x.text.length cN) := Fl.Rd.cm (cm_mono (by simp) _) _ _ ⟨aN, cN, rfl, hRS⟩
  clear hA1 hK1 hRS
  have hB9 := below_grown (grown_alloc w2 (.cells #[.slice aN x.text.length cN, .bool false, .slice none 0 0, .slice none 0 0, .slice none 0 0] 64 (0, 0)) none)
  have q0 := Blk.new w2 64 [.slice aN x.text.length cN, .bool false, .slice none 0 0, .slice none 0 0, .slice none 0 0]
  replace P0 := P0.al hB9
  replace x0 := x0.below hB9 x0.lt
  replace hRN := Fl.Rd.cm fz_in _ _ hRN
  replace hRN := Fl.Rd.cm (fz_kp (Kp.below (pb := pb) hB9) (by omega)) _ _ hRN
  have HG := gotNo pb t1 u1 ⟨#[42]⟩ _ P0.at' (sT_no hst)
  have hgq : W.heap.size < w2.heap.size := by omega
  clear hB9
  go_wp2_with fail
  refine HG.mono ?_
  generalize w2.alloc (.cells #[.slice aN x.text.length cN, .bool false, .slice none 0 0, .slice none 0 0, .slice none 0 0] 64 (0, 0)) = w3 at *
  rintro e wq ⟨rfl, hq⟩
  rw [hq]
  clear HG hq wq hsz
  generalize w2.heap.size = gq at *
  have r1 := q0.cell (i := 1) rfl
  have r1f := q0.free 1
  go_wp2_with fail
  replace P0 := P0.set (i := 1) (v := .bool false) q0 (by omega) (by decide) (by decide)
  replace x0 := x0.other (k := gq) (i := 1) (v := .bool false) (by omega)
  replace q0 := q0.set (i := 1) (.bool false)
  simp only [List.set_cons_succ, List.set_cons_zero] at q0
  replace hRN := Fl.Rd.cm (fz_set (i := 1) (u := .bool false) (.inr (Nat.le_refl gq))) _ _ hRN
  clear r1 r1f
  generalize w3.setCell ⟨gq, 1, none⟩ (.bool false) = w4 at *
  have HB := hB W0 w4 pb hT P0.bel hp P0.at'
  go_wp2_with fail
  refine HB.mono ?_
  rintro e w5 ⟨vP, rfl, hRP, hA1, hK1⟩
  have hs5 : gq + 1 ≤ w4.heap.size := q0.lt
  replace hRP : (Fl.l 2 (ps.map Pa.fl)).Rd (fr (gq + 1) w5) vP := Fl.Rd.cm (cm_mono hs5 _) _ _ hRP
  obtain ⟨aP, cP, rfl, hRS⟩ := hRP
  have hRP : (Fl.l 2 (ps.map Pa.fl)).Rd (fr (gq + 1) w5) (.slice aP (ps.map Pa.fl).length cP) := ⟨aP, cP, rfl, hRS⟩
  generalize (ps.map Pa.fl).length = nP at *
  replace P0 := P0.go hK1 hA1
  replace x0 := hK1.blk x0 (by omega)
  replace q0 := hK1.blk q0 (by omega)
  replace hRN := Fl.Rd.cm (fz_kp hK1 (by omega)) _ _ hRN
  clear HB hA1 hK1 hRS hs5
  have r1 := q0.cell (i := 2) rfl
  have r1f := q0.free 2
  go_wp2_with fail
  replace P0 := P0.set (i := 2) (v := .slice aP nP cP) q0 (by omega) (by decide) (by decide)
  replace x0 := x0.other (k := gq) (i := 2) (v := .slice aP nP cP) (by omega)
  replace q0 := q0.set (i := 2) (.slice aP nP cP)
  simp only [List.set_cons_succ, List.set_cons_zero] at q0
  replace hRN := Fl.Rd.cm (fz_set (i := 2) (u := .slice aP nP cP) (.inr (Nat.le_refl gq))) _ _ hRN
  replace hRP := Fl.Rd.cm (cm_set (g := gq) (i := 2) (u := .slice aP nP cP) (Nat.lt_succ_self gq)) _ _ hRP
  clear r1 r1f
  generalize w5.setCell ⟨gq, 2, none⟩ (.slice aP nP cP) = w6 at *
  have HQ := wantYes pb s1 b1 (c0 :: u3) ⟨#[59]⟩ w6 P0.at' (sT_yes h1)
  go_wp2_with fail
  refine HQ.mono ?_
  rintro e w7 ⟨rfl, hA1, hK1⟩
  replace P0 := P0.go hK1 hA1
  replace x0 := hK1.blk x0 (by omega)
  replace q0 := hK1.blk q0 (by omega)
  replace hRN := Fl.Rd.cm (fz_kp hK1 (by omega)) _ _ hRN
  replace hRP := Fl.Rd.cm (hK1.cm (N := gq + 1) (by omega)) _ _ hRP
  clear HQ hA1 hK1
  have HQ := gotNo pb b1 (c0 :: u3) ⟨#[86, 65, 82]⟩ w7 P0.at' (sT_no hv)
  go_wp2_with fail
  refine wp_loop_rounds 1 ?_
  rw [rounds_succ]
  go_wp2_with fail
  refine HQ.mono ?_
  rintro e wq ⟨rfl, hq⟩
  rw [hq]
  clear HQ hq wq
  have HQ := wantYes pb b1 c0 u3 ⟨#[66, 69, 71, 73, 78]⟩ w7 P0.at' (sT_yes hb1)
  go_wp2_with fail
  refine HQ.mono ?_
  rintro e w8 ⟨rfl, hA1, hK1⟩
  replace P0 := P0.go hK1 hA1
  replace x0 := hK1.blk x0 (by omega)
  replace q0 := hK1.blk q0 (by omega)
  replace hRN := Fl.Rd.cm (fz_kp hK1 (by omega)) _ _ hRN
  replace hRP := Fl.Rd.cm (hK1.cm (N := gq + 1) (by omega)) _ _ hRP
  clear HQ hA1 hK1
  have HQ := hS W0 w8 pb hT P0.bel hp P0.at'
  go_wp2_with fail
  refine HQ.mono ?_
  rintro e w9 ⟨vB, rfl, hRB, hA1, hK1⟩
  have hs5 : gq + 1 ≤ w8.heap.size := q0.lt
  replace hRB : (Fl.l 6 (sts l)).Rd (fr (gq + 1) w9) vB := Fl.Rd.cm (cm_mono hs5 _) _ _ hRB
  obtain ⟨aB, cB, rfl, hRS⟩ := hRB
  have hRB : (Fl.l 6 (sts l)).Rd (fr (gq + 1) w9) (.slice aB (sts l).length cB) := ⟨aB, cB, rfl, hRS⟩
  generalize (sts l).length = nB at *
  replace P0 := P0.go hK1 hA1
  replace x0 := hK1.blk x0 (by omega)
  replace q0 := hK1.blk q0 (by omega)
  replace hRN := Fl.Rd.cm (fz_kp hK1 (by omega)) _ _ hRN
  replace hRP := Fl.Rd.cm (hK1.cm (N := gq + 1) (by omega)) _ _ hRP
  clear HQ hA1 hK1 hRS hs5
  have r1 := q0.cell (i := 4) rfl
  have r1f := q0.free 4
  go_wp2_with fail
  replace P0 := P0.set (i := 4) (v := .slice aB nB cB) q0 (by omega) (by decide) (by decide)
  replace x0 := x0.other (k := gq) (i := 4) (v := .slice aB nB cB) (by omega)
  replace q0 := q0.set (i := 4) (.slice aB nB cB)
  simp only [List.set_cons_succ, List.set_cons_zero] at q0
  replace hRN := Fl.Rd.cm (fz_set (i := 4) (u := .slice aB nB cB) (.inr (Nat.le_refl gq))) _ _ hRN
  replace hRP := Fl.Rd.cm (cm_set (g := gq) (i := 4) (u := .slice aB nB cB) (Nat.lt_succ_self gq)) _ _ hRP
  replace hRB := Fl.Rd.cm (cm_set (g := gq) (i := 4) (u := .slice aB nB cB) (Nat.lt_succ_self gq)) _ _ hRB
  clear r1 r1f
  generalize w9.setCell ⟨gq, 4, none⟩ (.slice aB nB cB) = w10 at *
  have HQ := wantYes pb e1 s2 (y :: ts) ⟨#[69, 78, 68]⟩ w10 P0.at' (sT_yes he1)
  go_wp2_with fail
  refine HQ.mono ?_
  rintro e w11 ⟨rfl, hA1, hK1⟩
  replace P0 := P0.go hK1 hA1
  replace x0 := hK1.blk x0 (by omega)
  replace q0 := hK1.blk q0 (by omega)
  replace hRN := Fl.Rd.cm (fz_kp hK1 (by omega)) _ _ hRN
  replace hRP := Fl.Rd.cm (hK1.cm (N := gq + 1) (by omega)) _ _ hRP
  replace hRB := Fl.Rd.cm (hK1.cm (N := gq + 1) (by omega)) _ _ hRB
  clear HQ hA1 hK1
  have HQ := wantYes pb s2 y ts ⟨#[59]⟩ w11 P0.at' (sT_yes h2)
  go_wp2_with fail
  refine HQ.mono ?_
  rintro e w12 ⟨rfl, hA1, hK1⟩
  replace P0 := P0.go hK1 hA1
  replace x0 := hK1.blk x0 (by omega)
  replace q0 := hK1.blk q0 (by omega)
  replace hRN := Fl.Rd.cm (fz_kp hK1 (by omega)) _ _ hRN
  replace hRP := Fl.Rd.cm (hK1.cm (N := gq + 1) (by omega)) _ _ hRP
  replace hRB := Fl.Rd.cm (hK1.cm (N := gq + 1) (by omega)) _ _ hRB
  clear HQ hA1 hK1
  have L0 : Lay W w12 pb 64 (y :: ts) (Pr.mk x.text false ps [] l).fl [.slice aN x.text.length cN, .bool false, .slice aP nP cP, .slice none 0 0, .slice aB nB cB] _ := ⟨x0, P0.at', P0.kp, by
    unfold Pr.fl
    exact ⟨_, _, rfl, Fl.Rd.cm (fz_out (Nat.le_refl _)) _ _ hRN, _, _, rfl, rfl, _, _, rfl, Fl.Rd.cm (cm_mono (by omega) _) _ _ hRP, _, _, rfl, rd_noL _ _, _, _, rfl, Fl.Rd.cm (cm_mono (by omega) _) _ _ hRB, rfl⟩⟩
  have r0 := q0.cell (i := 0) rfl
  have y0 := x0.cell (i := 0) rfl
  have f0 := x0.free 0
  have r1 := q0.cell (i := 1) rfl
  have y1 := x0.cell (i := 1) rfl
  have f1 := x0.free 1
  have r2 := q0.cell (i := 2) rfl
  have y2 := x0.cell (i := 2) rfl
  have f2 := x0.free 2
  have r3 := q0.cell (i := 3) rfl
  have y3 := x0.cell (i := 3) rfl
  have f3 := x0.free 3
  have r4 := q0.cell (i := 4) rfl
  have y4 := x0.cell (i := 4) rfl
  have f4 := x0.free 4
  have L5 : Hid _ := (((((L0.set (i := 0) (v := .slice aN x.text.length cN) (by decide) (by decide)).set (i := 1) (v := .bool false) (by decide) (by decide)).set (i := 2) (v := .slice aP nP cP) (by decide) (by decide)).set (i := 3) (v := .slice none 0 0) (by decide) (by decide)).set (i := 4) (v := .slice aB nB cB) (by decide) (by decide))
  clear L0 x0 q0 P0 hRN hRP hRB
  go_wp2_with fail
  generalize ((((w12.setCell ⟨W.heap.size, 0, none⟩ (.slice aN x.text.length cN)).setCell ⟨W.heap.size, 1, none⟩ (.bool false)).setCell ⟨W.heap.size, 2, none⟩ (.slice aP nP cP)).setCell ⟨W.heap.size, 3, none⟩ (.slice none 0 0)).setCell ⟨W.heap.size, 4, none⟩ (.slice aB nB cB) = wz at *
  have LZ := L5.out
  simp only [List.set_cons_succ, List.set_cons_zero] at LZ
  have e0 := LZ.b.cell (i := 0) rfl
  have e1 := LZ.b.cell (i := 1) rfl
  have e2 := LZ.b.cell (i := 2) rfl
  have e3 := LZ.b.cell (i := 3) rfl
  have e4 := LZ.b.cell (i := 4) rfl
  refine bodyPost_ret (v := agg [.slice aN x.text.length cN, .bool false, .slice aP nP cP, .slice none 0 0, .slice aB nB cB]) ?_ rfl ⟨_, rfl, LZ.fin, LZ.a, LZ.k⟩
  simp [results, Tryz.results22, go_sem, e0, e1, e2, e3, e4, agg]

attribute [local go_sem] Oper.semAt_some

def PsV (ts : List Tok) (x : Va) (r : List Tok) : Prop := ∀ (W0 W : World) (pb : Nat), Tabs W0 → Below W0.heap.size W0 W → W0.heap.size ≤ pb → At W pb ts →
  Calls Tryz.prog 21 #[.pointer (some ⟨pb, 0, none⟩)] W fun e W' => ∃ vs, e = .returned (agg vs) ∧ RdVals (fr W.heap.size W') x.fl vs ∧ At W' pb r ∧ Kp pb W W'
theorem psV0 (x y : Tok) (ts : List Tok) (hk : x.kind = 3) (hx : ∀ b ∈ x.text, 0 ≤ b ∧ b ≤ 255) (hn : x.text.length ≤ 3000) (hs : sT y.text [91] = false) : PsV (x :: y :: ts) ⟨x.text, 0⟩ (y :: ts) := fun _ W pb _ _ _ h => varNo pb x y ts W h hk hx hn hs
theorem psV1 (x y t u z : Tok) (n : Int) (ts : List Tok) (hk : x.kind = 3) (hx : ∀ b ∈ x.text, 0 ≤ b ∧ b ≤ 255) (hn : x.text.length ≤ 3000) (hs : sT y.text [91] = true) (htk : t.kind = 5) (htn : t.text.length ≤ 3000) (hta : Lib.atoiAll (strOfNums t.text).data.toList = .ok n) (hn1 : 1 ≤ n) (hn2 : n ≤ 2147483647) (hu : sT u.text [93] = true) : PsV (x :: y :: t :: u :: z :: ts) ⟨x.text, n⟩ (z :: ts) := fun _ W pb _ _ _ h => varYes pb x y t u z n ts W h hk hx hn hs htk htn hta hn1 hn2 hu
theorem rdVa {w : World} {x : Va} {vs : List Value} (h : RdVals w x.fl vs) : ∃ a1 n1 c1 k, vs = [.slice a1 n1 c1, .int .i64 k] := by
  unfold Va.fl at h
  obtain ⟨y0, _, rfl, ⟨a2, c2, rfl, _⟩, y1, _, rfl, rfl, rfl⟩ := h
  exact ⟨_, _, _, _, rfl⟩
theorem rdPr {w : World} {x : Pr} {vs : List Value} (h : RdVals w x.fl vs) : ∃ a1 n1 c1 b a2 n2 c2 a3 n3 c3 a4 n4 c4, vs = [.slice a1 n1 c1, .bool b, .slice a2 n2 c2, .slice a3 n3 c3, .slice a4 n4 c4] := by
  unfold Pr.fl at h
  obtain ⟨y0, _, rfl, ⟨a2, c2, rfl, _⟩, y1, _, rfl, rfl, y2, _, rfl, ⟨a3, c3, rfl, _⟩, y3, _, rfl, ⟨a4, c4, rfl, _⟩, y4, _, rfl, ⟨a5, c5, rfl, _⟩, rfl⟩ := h
  exact ⟨_, _, _, _, _, _, _, _, _, _, _, _, _, rfl⟩
/-- From the tokens on the program takes the module m, and nothing is left. -/
def PsMo (ts : List Tok) (m : Mo) : Prop := ∀ (W0 W : World) (pb : Nat), Tabs W0 → Below W0.heap.size W0 W → W0.heap.size ≤ pb → At W pb ts →
  Calls Tryz.prog 9 #[.pointer (some ⟨pb, 0, none⟩)] W fun e W' => ∃ vs, e = .returned (agg vs) ∧ RdVals (fr W.heap.size W') m.fl vs ∧ Kp pb W W'

structure MS (W0 W w : World) (pb gm M : Nat) (nm : List Int) (nv : Value) (ts : List Tok) (ev : List Value) : Prop where
  p : PW W0 W w pb ts
  x : Blk w W.heap.size 29 [.slice none 0 0, .slice none 0 0, .slice none 0 0, .slice none 0 0]
  m : Blk w gm 29 ev
  n : (Fl.b nm).Rd (fz (gm + 1) M w) nv
  g : W.heap.size < gm
  s : M ≤ w.heap.size
theorem MS.h1 {W0 W w : World} {pb gm M : Nat} {nm : List Int} {nv : Value} {ts : List Tok} {ev : List Value} (h : MS W0 W w pb gm M nm nv ts ev) : pb < gm := Nat.lt_trans h.p.h1 h.g
theorem MS.go {W0 W w w' : World} {pb gm M : Nat} {nm : List Int} {nv : Value} {ts ts' : List Tok} {ev : List Value} (h : MS W0 W w pb gm M nm nv ts ev) (hk : Kp pb w w') (ha : At w' pb ts') : MS W0 W w' pb gm M nm nv ts' ev := by
  have a := h.h1
  have b := h.p.h1
  exact ⟨h.p.go hk ha, hk.blk h.x (by omega), hk.blk h.m (by omega), Fl.Rd.cm (fz_kp hk (by omega)) _ _ h.n, h.g, Nat.le_trans h.s hk.size⟩
theorem MS.al {W0 W w w' : World} {pb gm M : Nat} {nm : List Int} {nv : Value} {ts : List Tok} {ev : List Value} (h : MS W0 W w pb gm M nm nv ts ev) (hB : Below w.heap.size w w') : MS W0 W w' pb gm M nm nv ts ev := h.go (Kp.below hB) (h.p.at'.kp hB)
theorem MS.set {W0 W w : World} {pb gm M : Nat} {nm : List Int} {nv : Value} {ts : List Tok} {ev : List Value} (h : MS W0 W w pb gm M nm nv ts ev) (i : Nat) (v : Value) : MS W0 W (w.setCell ⟨gm, i, none⟩ v) pb gm M nm nv ts (ev.set i v) := by
  have a := h.g
  exact ⟨h.p.set h.m (by omega) (by decide) (by decide), h.x.other (by omega), h.m.set (i := i) v, Fl.Rd.cm (fz_set (.inl (Nat.lt_succ_self gm))) _ _ h.n, h.g, by have := h.s; simpa using this⟩
theorem MS.row {W0 W w w' : World} {pb gm M N T k : Nat} {nm : List Int} {nv v : Value} {ts : List Tok} {ev : List Value} {rs : List (List Fl)} (h : MS W0 W w pb gm M nm nv ts ev) (hg : w.grownBy w' v.ownBlock) (hl : GL w N T k v rs) (hM : M ≤ N) (hN : gm < N) (t1 : T ≠ 38) (t2 : T ≠ 53) (t3 : 29 ≠ T) : MS W0 W w' pb gm M nm nv ts ev := by
  have a := h.g
  exact ⟨h.p.row hg hl (by omega) t1 t2, h.x.row hg hl t3, h.m.row hg hl t3, Fl.Rd.cm (fz_row hg (fun q hq => Nat.le_trans hM (hl.ty q hq).1)) _ _ h.n, h.g, Nat.le_trans h.s hg.size⟩
end Go.Proofs.YtajnfknldofjlaaGreatDoor

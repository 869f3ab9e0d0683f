/- The law of FaceOf returns true at every argument, and writes nothing that was there. -/
import Derived.Test.YtopnodadggohiaaGreatDoorPackF
import Derived.Test.YtopnodadggohiaaGreatDoorTreeEq
import Derived.Test.YtopnodadggohiaaGreatDoorTreeOpen
import Derived.Test.YtopnodadggohiaaGreatDoorPackG
namespace Go.Proofs.YtopnodadggohiaaGreatDoor
open Go.RowKit
set_option linter.unusedVariables false
set_option linter.unusedSimpArgs false
set_option maxRecDepth 100000

theorem shapeModule {w : World} {lo hi : Nat} {us : List Value} {x : Mo} (h : RecHas w lo hi x.fl us) :
  ∃ g0 m0 g1 m1 g2 m2 g3 m3, us = [.slice (some ⟨g0, 0, none⟩) m0 m0, .slice (some ⟨g1, 0, none⟩) m1 m1, .slice (some ⟨g2, 0, none⟩) m2 m2, .slice (some ⟨g3, 0, none⟩) m3 m3] := by
 unfold Mo.fl at h
 simp only [RecHas, Fl.Has] at h
 obtain ⟨u0, _, _, rfl, _, _, ⟨g0, rfl, _⟩, u1, _, _, rfl, _, _, ⟨g1, _, _, rfl, _⟩, u2, _, _, rfl, _, _, ⟨g2, _, _, rfl, _⟩, u3, _, _, rfl, _, _, ⟨g3, _, _, rfl, _⟩, rfl⟩ := h
 exact ⟨g0, _, g1, _, g2, _, g3, _, rfl⟩

theorem fpsOf_rows (l : List Pr) : (fpsOf l).length + rowsLen ((fpsOf l).map Fp.fl) ≤ l.length + rowsLen (l.map Pr.fl) := by
 induction l with
 | nil => simp [fpsOf, rowsLen]
 | cons q l ih =>
  have e : recLen q.fl = q.name.length + (q.params.length + rowsLen (q.params.map Pa.fl) + recLen [.l 1 (txts q.locals), .l 6 (sts q.body)]) := by simp [Pr.fl, recLen, Fl.len]
  cases ho : q.opn
  ·
   have e2 : fpsOf (q :: l) = fpsOf l := by unfold fpsOf; rw [List.filter_cons, ho]; rfl
   rw [e2]
   simp only [List.length_cons, List.map_cons, rowsLen]
   omega
  ·
   have e2 : fpsOf (q :: l) = q.fp :: fpsOf l := by unfold fpsOf; rw [List.filter_cons, ho]; rfl
   have e3 : recLen q.fp.fl = q.name.length + q.params.length := by simp [Pr.fp, Fp.fl, recLen, Fl.len, kindsP]
   rw [e2]
   simp only [List.length_cons, List.map_cons, rowsLen]
   omega
theorem fwt_rows (l : List Fp) : fwt l = rowsLen (l.map Fp.fl) := by
 induction l with
 | nil => rfl
 | cons q l ih => simp [fwt, rowsLen, ih, Fp.wt, Fp.fl, recLen, Fl.len]
theorem faceP_len (m : Mo) : recLen (faceP m).fl ≤ recLen m.fl := by
 unfold faceP
 split
 ·
  have := fpsOf_rows m.procs
  simp [faceC, Fa.fl, Mo.fl, recLen, Fl.len]
  omega
 ·
  simp [Fa.fl, recLen, Fl.len, rowsLen]
theorem fa_wt (f : Fa) : f.wt + f.procs.length = recLen f.fl := by simp [Fa.wt, fwt_rows, Fa.fl, recLen, Fl.len]; omega

/-- What the law's walk holds: the argument, the specification's answer and the program's. -/
structure FL (w W4 W : World) (gw gg s6 : Nat) (VV : List Value) (nw pw ng pg : Value) (l : List (Value × Value)) (f : Fa) : Prop where
 x : Blk W w.heap.size 27 VV
 y : Below W4.heap.size W4 W
 cW : Blk W gw 31 [nw, pw]
 cG : Blk W gg 31 [ng, pg]
 g : Fg W s6 gg ng pg l f
theorem FL.step {w W4 W W' : World} {gw gg s6 : Nat} {VV : List Value} {nw pw ng pg : Value} {l : List (Value × Value)} {f : Fa} (h : FL w W4 W gw gg s6 VV nw pw ng pg l f) (b : Below W.heap.size W W') : FL w W4 W' gw gg s6 VV nw pw ng pg l f :=
 ⟨h.x.below b h.x.lt, h.y.trans (b.mono h.y.size), h.cW.below b h.cW.lt, h.cG.below b h.cG.lt, h.g.stays (Stays.of b (Nat.le_of_lt h.cG.lt))⟩
theorem FL.out {w W4 W W' : World} {gw gg s6 lo hi : Nat} {VV : List Value} {nw pw ng pg : Value} {l : List (Value × Value)} {f f' : Fa} (h : FL w W4 W gw gg s6 VV nw pw ng pg l f) (o : Out lo hi W W') (h1 : w.heap.size < lo) (h2 : gw < lo) (h3 : hi ≤ gg) (h4 : W4.heap.size ≤ lo) (hg : Fg W' s6 gg ng pg l f') : FL w W4 W' gw gg s6 VV nw pw ng pg l f' :=
 ⟨o.blk h.x (.inl h1), h.y.trans ⟨o.os, o.tape, o.output, o.size, fun k hk => o.block k (Nat.lt_of_lt_of_le hk h.y.size) (.inl (by omega))⟩, o.blk h.cW (.inl h2), o.blk h.cG (.inr h3), hg⟩

set_option maxHeartbeats 16000000 in
theorem faceof_walk (x : Mo) (vs : List Value) (w : World) (hT : Tabs w) (h : RdVals w x.fl vs) :
  Calls Tryz.prog 3 #[.agg vs.toArray] w fun e w' => e = .returned (.bool true) ∧ Below w.heap.size w w' := by
 obtain ⟨v0, v1, v2, v3, rfl⟩ := four_of (h.len.trans (show x.fl.length = 4 from rfl))
 have x0 := Blk.new w 27 [v0, v1, v2, v3]
 have y0 : Below w.heap.size w (w.alloc (.cells #[v0, v1, v2, v3] 27 (0, 0))) := (Below.refl _ _).alloc (Nat.le_refl _) _
 have Hh : Hid (RdVals w x.fl [v0, v1, v2, v3]) := h
 have HT : Hid (Tabs w) := hT
 clear h hT
 simp only [List.toArray] at x0
 go_enter Tryz.func3, Tryz.ntmps3
 go_upto_region 2 with fail
 generalize w.alloc (.cells #[v0, v1, v2, v3] 27 (0, 0)) = w0 at *
 obtain ⟨k0, k1, k2, k3⟩ := x0.c4
 have H1 := szMo x w [v0, v1, v2, v3] Hh.out w0 1048576 y0 (by omega) (by omega)
 simp only [List.toArray] at H1
 generalize hN0 : recLen x.fl = Nn at H1
 by_cases hs : (Nn : Int) ≤ 1048576
 ·
  rw [szL_yes hs] at H1
  have hneg : ¬ ((1048576 : Int) - (Nn : Int) < 0) := by omega
  have hsz : Hid (recLen x.fl ≤ 1048576) := by show _ ≤ _; omega
  clear hN0
  have hfl := Nat.le_trans (faceP_len x) hsz.out
  have S1 : Hid (∀ us w1, RdVals w1 x.fl us → Calls Tryz.prog 6 #[agg us] w1 fun e w' => ∃ nv pv, e = .returned (.agg #[nv, pv]) ∧ Seen w1 w' nv pv (faceP x)) := fun us w1 hr => specFaceOf x us w1 hr hsz.out
  have S2 : Hid (∀ us w1, Tabs w1 → RdVals w1 x.fl us → Calls Tryz.prog 8 #[agg us] w1 fun e w' => ∃ nv pv, e = .returned (.agg #[nv, pv]) ∧ Seen w1 w' nv pv (faceP x)) := fun us w1 ht hr => implFaceOf x us w1 ht hr hsz.out
  generalize faceP x = f at *
  have hfw := fa_wt f
  have EQ : Hid (EqR 9 f.fl) := eqFa f hfl
  go_wp2_with fail
  refine H1.mono ?_
  rintro e w1 ⟨rfl, hb⟩
  have x1 := x0.below hb x0.lt
  have y1 : Below w.heap.size w w1 := y0.trans (hb.mono y0.size)
  clear H1 k0 k1 k2 k3 x0 y0 hb
  obtain ⟨k0, k1, k2, k3⟩ := x1.c4
  have H2 := toMo x hsz.out w [v0, v1, v2, v3] Hh.out w1 y1
  simp only [List.toArray] at H2
  go_wp2_with fail
  refine H2.mono ?_
  rintro e w2 ⟨u2, rfl, hl2, hO2, hb⟩
  have x2 := x1.below hb x1.lt
  have y2 : Below w.heap.size w w2 := y1.trans (hb.mono y1.size)
  have H3 := S1.out u2 w2 hO2.vals
  simp only [agg] at H3
  clear H2 k0 k1 k2 k3 x1 y1 hb hO2
  go_wp2_with fail
  refine H3.mono ?_
  rintro e w3 ⟨nw, pw, rfl, ⟨lw, gW⟩, bW⟩
  have rW := gW.vals
  obtain ⟨aw, cw, rfl, _⟩ : ∃ aw cw, nw = .slice aw f.name.length cw ∧ True := by obtain ⟨_, _, _, on, _⟩ := gW.name; obtain ⟨a, c, e, _⟩ := owns_shape on.own; exact ⟨a, c, e, trivial⟩
  obtain ⟨bw, dw, rfl, _⟩ : ∃ aw cw, pw = .slice aw f.procs.length cw ∧ True := by obtain ⟨a, c, e, _⟩ := owns_shape gW.row; exact ⟨a, c, e, trivial⟩
  generalize hfn : f.name.length = fn at *
  generalize hfp : f.procs.length = fp at *
  have x3 := x2.below bW x2.lt
  have y3 : Below w.heap.size w w3 := y2.trans (bW.mono y2.size)
  clear H3 x2 y2 bW gW
  have c4 := Blk.new w3 31 [.slice aw fn cw, .slice bw fp dw]
  have b4 : Below w3.heap.size w3 (w3.alloc (.cells #[.slice aw fn cw, .slice bw fp dw] 31 (0, 0))) := (Below.refl _ _).alloc (Nat.le_refl _) _
  have x4 := x3.below b4 x3.lt
  have y4 : Below w.heap.size w (w3.alloc (.cells #[.slice aw fn cw, .slice bw fp dw] 31 (0, 0))) := y3.trans (b4.mono y3.size)
  have rW4 := rW.below b4
  have o1 : w.heap.size < w3.heap.size := x3.lt
  simp only [List.toArray] at c4
  clear x3 y3 b4 rW
  go_upto_region 6 with fail
  generalize w3.alloc (.cells #[.slice aw fn cw, .slice bw fp dw] 31 (0, 0)) = W4 at *
  generalize w3.heap.size = gw at *
  have o2 := c4.lt
  have RW : Hid (RdVals W4 f.fl [.slice aw fn cw, .slice bw fp dw]) := rW4
  clear rW4
  obtain ⟨k0, k1, k2, k3⟩ := x4.c4
  have H4 := toMo x hsz.out w [v0, v1, v2, v3] Hh.out W4 y4
  simp only [List.toArray] at H4
  go_wp2_with fail
  refine H4.mono ?_
  rintro e w5 ⟨u5, rfl, hl5, hO5, b5⟩
  obtain ⟨g0, m0, g1, m1, g2, m2, g3, m3, hu5⟩ := shapeModule hO5
  subst hu5
  have x5 := x4.below b5 x4.lt
  have c5 := c4.below b5 c4.lt
  clear H4 k0 k1 k2 k3
  have d6 := Blk.new w5 36 [.slice (some ⟨g0, 0, none⟩) m0 m0, .slice (some ⟨g1, 0, none⟩) m1 m1, .slice (some ⟨g2, 0, none⟩) m2 m2, .slice (some ⟨g3, 0, none⟩) m3 m3]
  have b6 : Below w5.heap.size w5 (w5.alloc (.cells #[.slice (some ⟨g0, 0, none⟩) m0 m0, .slice (some ⟨g1, 0, none⟩) m1 m1, .slice (some ⟨g2, 0, none⟩) m2 m2, .slice (some ⟨g3, 0, none⟩) m3 m3] 36 (0, 0))) := (Below.refl _ _).alloc (Nat.le_refl _) _
  have x6 := x5.below b6 x5.lt
  have c6 := c5.below b6 c5.lt
  have y46 : Below W4.heap.size W4 (w5.alloc (.cells #[.slice (some ⟨g0, 0, none⟩) m0 m0, .slice (some ⟨g1, 0, none⟩) m1 m1, .slice (some ⟨g2, 0, none⟩) m2 m2, .slice (some ⟨g3, 0, none⟩) m3 m3] 36 (0, 0))) := b5.trans (b6.mono b5.size)
  have OX6 := hO5.stays (Stays.of b6 (Nat.le_refl _))
  have o3 := b5.size
  simp only [List.toArray] at d6
  clear x5 c5 b5 b6 hO5
  go_upto_region 7 with fail
  generalize w5.alloc (.cells #[.slice (some ⟨g0, 0, none⟩) m0 m0, .slice (some ⟨g1, 0, none⟩) m1 m1, .slice (some ⟨g2, 0, none⟩) m2 m2, .slice (some ⟨g3, 0, none⟩) m3 m3] 36 (0, 0)) = W6 at *
  generalize w5.heap.size = gx at *
  have o4 := d6.lt
  have y6 : Below w.heap.size w W6 := y4.trans (y46.mono y4.size)
  obtain ⟨j0, j1, j2, j3⟩ := d6.c4
  have H6 := S2.out _ W6 (HT.out.below y6) OX6.vals
  simp only [agg, List.toArray] at H6
  go_wp2_with fail
  refine H6.mono ?_
  rintro e w7 ⟨ng, pg, rfl, ⟨lg, gG⟩, bG⟩
  obtain ⟨ag, cg, rfl, _⟩ : ∃ aw cw, ng = .slice aw fn cw ∧ True := by obtain ⟨_, _, _, on, _⟩ := gG.name; obtain ⟨a, c, e, _⟩ := owns_shape on.own; exact ⟨a, c, by rw [← hfn]; exact e, trivial⟩
  obtain ⟨bg, dg, rfl, _⟩ : ∃ aw cw, pg = .slice aw fp cw ∧ True := by obtain ⟨a, c, e, _⟩ := owns_shape gG.row; exact ⟨a, c, by rw [← hfp]; exact e, trivial⟩
  clear H6 j0 j1 j2 j3
  have c8 := Blk.new w7 31 [.slice ag fn cg, .slice bg fp dg]
  have b8 : Below w7.heap.size w7 (w7.alloc (.cells #[.slice ag fn cg, .slice bg fp dg] 31 (0, 0))) := (Below.refl _ _).alloc (Nat.le_refl _) _
  have b68 : Below W6.heap.size W6 (w7.alloc (.cells #[.slice ag fn cg, .slice bg fp dg] 31 (0, 0))) := bG.trans (b8.mono bG.size)
  have L8 : FL w W4 (w7.alloc (.cells #[.slice ag fn cg, .slice bg fp dg] 31 (0, 0))) gw w7.heap.size W6.heap.size [v0, v1, v2, v3] (.slice aw fn cw) (.slice bw fp dw) (.slice ag fn cg) (.slice bg fp dg) lg f :=
   ⟨x6.below b68 x6.lt, y46.trans (b68.mono y46.size), c6.below b68 c6.lt, c8, gG.stays (Stays.of b8 (Nat.le_refl _))⟩
  have d8 := d6.below b68 d6.lt
  have OX8 : Hid (RecHas _ W4.heap.size gx x.fl _) := OX6.stays (Stays.of b68 (Nat.le_of_lt o4))
  have o5 := bG.size
  clear x6 c6 y6 y46 c8 b8 b68 gG bG d6 OX6
  go_upto_region 8 with fail
  generalize w7.alloc (.cells #[.slice ag fn cg, .slice bg fp dg] 31 (0, 0)) = W8 at *
  generalize w7.heap.size = gg at *
  generalize W6.heap.size = s6 at *
  obtain ⟨q0, q1⟩ := L8.cG.c2
  obtain ⟨p0, p1⟩ := L8.cW.c2
  have H8 := EQ.out W8 _ _ L8.g.vals (RW.out.below L8.y) W8 (Below.refl _ _)
  simp only [agg, List.toArray] at H8
  go_wp2_with fail
  refine H8.mono ?_
  rintro e W9 ⟨rfl, b9⟩
  have L9 := L8.step b9
  have d9 := d8.below b9 d8.lt
  have OX9 : Hid (RecHas W9 W4.heap.size gx x.fl _) := OX8.out.stays (Stays.of b9 (Nat.le_of_lt d8.lt))
  clear H8 q0 q1 p0 p1 L8 d8 OX8 b9
  obtain ⟨k0, k1, k2, k3⟩ := L9.x.c4
  obtain ⟨j0, j1, j2, j3⟩ := d9.c4
  have hs7 := L9.x.lt
  have hx7 := d9.lt
  go_wp2_with fail
  have HS : ∀ {wl : World}, Below W9.heap.size W9 wl → (wl.cell? ⟨w.heap.size, 0, none⟩ = some v0 ∧ wl.cell? ⟨w.heap.size, 1, none⟩ = some v1 ∧ wl.cell? ⟨w.heap.size, 2, none⟩ = some v2 ∧ wl.cell? ⟨w.heap.size, 3, none⟩ = some v3) ∧ (wl.cell? ⟨gx, 0, none⟩ = some (.slice (some ⟨g0, 0, none⟩) m0 m0) ∧ wl.cell? ⟨gx, 1, none⟩ = some (.slice (some ⟨g1, 0, none⟩) m1 m1) ∧ wl.cell? ⟨gx, 2, none⟩ = some (.slice (some ⟨g2, 0, none⟩) m2 m2) ∧ wl.cell? ⟨gx, 3, none⟩ = some (.slice (some ⟨g3, 0, none⟩) m3 m3)) :=
   fun hb => ⟨⟨cell_on k0 hb, cell_on k1 hb, cell_on k2 hb, cell_on k3 hb⟩, ⟨cell_on j0 hb, cell_on j1 hb, cell_on j2 hb, cell_on j3 hb⟩⟩
  have y9 : Below w.heap.size w W9 := y4.trans (L9.y.mono y4.size)
  have HT7 := toMo x hsz.out w [v0, v1, v2, v3] Hh.out W9.drew y9.drew
  simp only [List.toArray] at HT7
  have HS0 := HS (wl := W9.drew) (Below.refl _ _).drew
  refine wp_region_held_drew (S := fun wl => (wl.cell? ⟨w.heap.size, 0, none⟩ = some v0 ∧ wl.cell? ⟨w.heap.size, 1, none⟩ = some v1 ∧ wl.cell? ⟨w.heap.size, 2, none⟩ = some v2 ∧ wl.cell? ⟨w.heap.size, 3, none⟩ = some v3) ∧ (wl.cell? ⟨gx, 0, none⟩ = some (.slice (some ⟨g0, 0, none⟩) m0 m0) ∧ wl.cell? ⟨gx, 1, none⟩ = some (.slice (some ⟨g1, 0, none⟩) m1 m1) ∧ wl.cell? ⟨gx, 2, none⟩ = some (.slice (some ⟨g2, 0, none⟩) m2 m2) ∧ wl.cell? ⟨gx, 3, none⟩ = some (.slice (some ⟨g3, 0, none⟩) m3 m3))) (by kernel_rfl) HS0 (fun hHeld => ?_)
  refine wpAnyH_take (i := 0) (v := ?v501) rfl (by kernel_rfl) (by kernel_rfl) (by kernel_rfl) (fun _ _ _ h => h) (.inl ⟨by rfl, ?y501⟩) hHeld ?_
  case y501 => intro w hSw; (try dsimp only at hSw); go_simp; first | done | rfl
  refine wpAnyH_take (i := 1) (v := ?v502) rfl (by kernel_rfl) (by kernel_rfl) (by kernel_rfl) (fun _ _ _ h => h) (.inl ⟨by rfl, ?y502⟩) hHeld ?_
  case y502 => intro w hSw; (try dsimp only at hSw); go_simp; first | done | rfl
  try simp only [Act.put, List.getElem_toArray, List.getElem_cons_zero, List.getElem_cons_succ, List.setIfInBounds_toArray, List.set_cons_zero, List.set_cons_succ]
  refine ra 2 fun K hK => ?_
  go_simp
  (with_reducible refine HT7.mono ?_)
  rintro e wa ⟨ua, rfl, hla, hOa, hba⟩
  have hb9a : Below W9.heap.size W9 wa := (Below.refl W9.heap.size W9).drew.trans hba
  have HSa := HS hb9a
  have HQ8 := eqMo x hsz.out wa [.slice (some ⟨g0, 0, none⟩) m0 m0, .slice (some ⟨g1, 0, none⟩) m1 m1, .slice (some ⟨g2, 0, none⟩) m2 m2, .slice (some ⟨g3, 0, none⟩) m3 m3] ua ((RecHas.vals OX9.out).below hb9a) hOa.vals wa (Below.refl _ _)
  simp only [List.toArray] at HQ8
  go_wp2_with fail
  refine hK.out _ _ (HSa) (fun hHeld => ?_)
  clear hK K
  try simp only [Act.put, List.getElem_toArray, List.getElem_cons_zero, List.getElem_cons_succ, List.setIfInBounds_toArray, List.set_cons_zero, List.set_cons_succ]
  refine ra 3 fun K hK => ?_
  go_simp
  (with_reducible refine HQ8.mono ?_)
  rintro e W10 ⟨rfl, hb10⟩
  have b10 : Below W9.heap.size W9 W10 := hb9a.trans (hb10.mono hb9a.size)
  have HS8 := HS b10
  go_wp2_with fail
  refine hK.out _ _ (HS8) (fun hHeld => ?_)
  clear hK K
  try simp only [Act.put, List.getElem_toArray, List.getElem_cons_zero, List.getElem_cons_succ, List.setIfInBounds_toArray, List.set_cons_zero, List.set_cons_succ]
  refine wpAnyH_take (i := 4) (v := ?v505) rfl (by kernel_rfl) (by kernel_rfl) (by kernel_rfl) (fun _ _ _ h => h) (.inl ⟨by rfl, ?y505⟩) hHeld ?_
  case y505 => intro w hSw; (try dsimp only at hSw); go_simp; first | done | rfl
  try simp only [Act.put, List.getElem_toArray, List.getElem_cons_zero, List.getElem_cons_succ, List.setIfInBounds_toArray, List.set_cons_zero, List.set_cons_succ]
  refine wpAnyH_done (by kernel_rfl) ?_ _
  have LA := L9.step b10
  have d10 := d9.below b10 hx7
  have OX10 : RecHas W10 W4.heap.size gx x.fl [.slice (some ⟨g0, 0, none⟩) m0 m0, .slice (some ⟨g1, 0, none⟩) m1 m1, .slice (some ⟨g2, 0, none⟩) m2 m2, .slice (some ⟨g3, 0, none⟩) m3 m3] := OX9.out.stays (Stays.of b10 (Nat.le_of_lt hx7))
  have H10 := mkModule x W10 W4.heap.size gx _ 1 OX10 (Nat.le_of_lt d10.lt) (by omega) (by have := hsz.out; omega)
  simp only [List.toArray] at H10
  clear HS HS0 HSa HS8 HQ8 HT7 L9 y9 OX9 hb9a b10 hba hb10 hOa k0 k1 k2 k3 j0 j1 j2 j3 hs7 hx7 OX10
  obtain ⟨j0, j1, j2, j3⟩ := d10.c4
  go_wp2_with fail
  refine H10.mono ?_
  rintro e W11 ⟨⟨k9, rfl, hk9, _⟩, K9⟩
  have LB := LA.out K9 (by omega) o2 (by omega) (Nat.le_refl _) (LA.g.stays (K9.stays (Nat.le_of_lt LA.cG.lt) (.inr (by omega))))
  clear H10 j0 j1 j2 j3 d10 LA K9
  have hM : ¬ (k9 < 0) := by omega
  obtain ⟨q0, q1⟩ := LB.cG.c2
  obtain ⟨p0, p1⟩ := LB.cW.c2
  have H11 := EQ.out W11 _ _ LB.g.vals (RW.out.below LB.y) W11 (Below.refl _ _)
  simp only [agg, List.toArray] at H11
  go_wp2_with fail
  refine H11.mono ?_
  rintro e W12 ⟨rfl, b12⟩
  have LC := LB.step b12
  clear H11 q0 q1 p0 p1 LB b12
  have H12 := markFaceG s6 gg _ _ lg f 1 W12 LC.g (Nat.le_of_lt LC.cG.lt) (by omega) (by omega)
  obtain ⟨q0, q1⟩ := LC.cG.c2
  go_wp2_with fail
  refine H12.mono ?_
  rintro e W13 ⟨rfl, gm, om⟩
  have LD := LC.out om (by omega) (by omega) (Nat.le_refl _) (by omega) gm
  clear H12 q0 q1 LC gm om
  have H13 := heldFaceG s6 gg _ _ lg f 1 W13 LD.g (Nat.le_of_lt LD.cG.lt) (by omega) (by omega)
  obtain ⟨q0, q1⟩ := LD.cG.c2
  have hk13 : ¬ (((1 + f.wt : Nat) : Int) < 0) := by omega
  go_wp2_with fail
  refine H13.mono ?_
  rintro e W14 ⟨rfl, b14⟩
  have LE := LD.step b14
  clear H13 q0 q1 LD b14
  have y14 : Below w.heap.size w W14 := y4.trans (LE.y.mono y4.size)
  obtain ⟨k0, k1, k2, k3⟩ := LE.x.c4
  have H14 := toMo x hsz.out w [v0, v1, v2, v3] Hh.out W14 y14
  simp only [List.toArray] at H14
  go_wp2_with fail
  refine H14.mono ?_
  rintro e W15 ⟨uc, rfl, hlc, hOc, b15⟩
  have LF := LE.step b15
  have y15 : Below w.heap.size w W15 := y14.trans (b15.mono y14.size)
  have H15 := S2.out uc W15 (HT.out.below y15) hOc.vals
  simp only [agg] at H15
  clear H14 k0 k1 k2 k3 LE y14 b15 hOc
  go_wp2_with fail
  refine H15.mono ?_
  rintro e W16 ⟨nh, ph, rfl, ⟨lh, gH⟩, bH⟩
  obtain ⟨ah, ch, rfl, _⟩ : ∃ aw cw, nh = .slice aw fn cw ∧ True := by obtain ⟨_, _, _, on, _⟩ := gH.name; obtain ⟨a, c, e, _⟩ := owns_shape on.own; exact ⟨a, c, by rw [← hfn]; exact e, trivial⟩
  obtain ⟨bh, dh, rfl, _⟩ : ∃ aw cw, ph = .slice aw fp cw ∧ True := by obtain ⟨a, c, e, _⟩ := owns_shape gH.row; exact ⟨a, c, by rw [← hfp]; exact e, trivial⟩
  have c17 := Blk.new W16 31 [.slice ah fn ch, .slice bh fp dh]
  have b17 : Below W16.heap.size W16 (W16.alloc (.cells #[.slice ah fn ch, .slice bh fp dh] 31 (0, 0))) := (Below.refl _ _).alloc (Nat.le_refl _) _
  have LG := (LF.step bH).step b17
  have rH := gH.vals.below b17
  simp only [List.toArray] at c17
  clear H15 LF y15 gH bH b17
  go_upto_region 25 with fail
  generalize W16.alloc (.cells #[.slice ah fn ch, .slice bh fp dh] 31 (0, 0)) = W17 at *
  generalize W16.heap.size = gh at *
  obtain ⟨q0, q1⟩ := c17.c2
  obtain ⟨p0, p1⟩ := LG.cW.c2
  have H17 := EQ.out W17 _ _ rH (RW.out.below LG.y) W17 (Below.refl _ _)
  simp only [agg, List.toArray] at H17
  go_wp2_with fail
  refine H17.mono ?_
  rintro e W18 ⟨rfl, b18⟩
  have LH := LG.step b18
  clear H17 q0 q1 p0 p1 LG b18 rH c17
  have H18 := heldFaceG s6 gg _ _ lg f 1 W18 LH.g (Nat.le_of_lt LH.cG.lt) (by omega) (by omega)
  obtain ⟨q0, q1⟩ := LH.cG.c2
  go_wp2_with fail
  refine H18.mono ?_
  rintro e W19 ⟨rfl, b19⟩
  have y19 : Below w.heap.size w W19 := y4.trans ((LH.step b19).y.mono y4.size)
  clear H18 q0 q1 LH b19
  go_wp2_with fail
  go_ret
  exact ⟨rfl, y19⟩
 ·
  rw [szL_no hs] at H1
  clear hN0
  go_wp2_with fail
  refine H1.mono ?_
  rintro e w1 ⟨rfl, hb⟩
  have y1 : Below w.heap.size w w1 := y0.trans (hb.mono y0.size)
  go_wp2_with fail
  go_ret
  exact ⟨rfl, y1⟩
end Go.Proofs.YtopnodadggohiaaGreatDoor

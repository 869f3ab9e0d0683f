/- Modules out of tokens. By mkpsmod.py. -/
import Derived.Test.YtajnfknldofjlaaGreatDoorPackA
namespace Go.Proofs.YtajnfknldofjlaaGreatDoor
open Go.RowKit Go.Shelf
set_option linter.unusedVariables false
set_option linter.unusedSimpArgs false
set_option maxRecDepth 100000
attribute [local go_sem] Oper.semAt_some

set_option maxHeartbeats 16000000 in
theorem mo000 (tM tN tS tE tD tZ : Tok) (hM : sT tM.text [77, 79, 68, 85, 76, 69] = true) (hN : tN.kind = 4) (hNx : ∀ b ∈ tN.text, 0 ≤ b ∧ b ≤ 255) (hNn : tN.text.length ≤ 3000) (hS : sT tS.text [59] = true) (noU : sT tE.text [73, 77, 80, 79, 82, 84] = false) (noV : sT tE.text [86, 65, 82] = false) (noP : sT tE.text [80, 82, 79, 67] = false) (hE : sT tE.text [69, 78, 68] = true) (hD : sT tD.text [46] = true) (hZ : tZ.kind = 1) : PsMo (tM :: tN :: tS :: tE :: tD :: [tZ]) ⟨tN.text, [], [], []⟩ := by
  intro W0 W pb hT hb hp hA
  have hpl : pb < W.heap.size := by obtain ⟨_, _, _, h1, _⟩ := hA.ex; exact h1.lt
  have x0 := (Blk.new W 29 [.slice none 0 0, .slice none 0 0, .slice none 0 0, .slice none 0 0]).old (o := .cells #[.slice none 0 0, .slice none 0 0, .slice none 0 0, .slice none 0 0] 29 (0, 0))
  have m0 := Blk.new (W.alloc (.cells #[.slice none 0 0, .slice none 0 0, .slice none 0 0, .slice none 0 0] 29 (0, 0))) 29 [.slice none 0 0, .slice none 0 0, .slice none 0 0, .slice none 0 0]
  have g1 := below_grown (grown_alloc W (.cells #[.slice none 0 0, .slice none 0 0, .slice none 0 0, .slice none 0 0] 29 (0, 0)) none)
  have hB9 := g1.trans ((below_grown (grown_alloc (W.alloc (.cells #[.slice none 0 0, .slice none 0 0, .slice none 0 0, .slice none 0 0] 29 (0, 0))) (.cells #[.slice none 0 0, .slice none 0 0, .slice none 0 0, .slice none 0 0] 29 (0, 0)) none)).mono g1.size)
  have P0 : PW W0 W W pb (tM :: tN :: tS :: tE :: tD :: [tZ]) := ⟨hb, hA, Kp.refl _ _, hpl, hp⟩
  replace P0 := P0.al hB9
  clear hb hA hB9 g1
  rw [World.size_alloc] at m0
  have HQ := wantYes pb tM tN (tS :: tE :: tD :: [tZ]) ⟨#[77, 79, 68, 85, 76, 69]⟩ _ P0.at' (sT_yes hM)
  go_enter Tryz.func9, Tryz.ntmps9
  go_wp2_with fail
  refine HQ.mono ?_
  rintro e w1 ⟨rfl, hA1, hK1⟩
  replace P0 := P0.go hK1 hA1
  replace x0 := hK1.blk x0 (by omega)
  replace m0 := hK1.blk m0 (by omega)
  clear HQ hA1 hK1
  have hgm : W.heap.size < W.heap.size + 1 := Nat.lt_succ_self _
  obtain ⟨gm, hge⟩ : ∃ gm, W.heap.size + 1 = gm := ⟨_, rfl⟩
  rw [hge] at m0 hgm ⊢
  clear hge
  have HQ := greatYes pb tN tS (tE :: tD :: [tZ]) _ P0.at' hN hNx hNn
  go_wp2_with fail
  refine HQ.mono ?_
  rintro e w2 ⟨v, rfl, hR, hA1, hK1⟩
  have hs5 : gm + 1 ≤ w1.heap.size := m0.lt
  obtain ⟨aN, cN, rfl, hRS⟩ := hR
  have hRN : (Fl.b tN.text).Rd (fr (gm + 1) w2) (.slice aN tN.text.length cN) := Fl.Rd.cm (cm_mono hs5 _) _ _ ⟨aN, cN, rfl, hRS⟩
  have Q0 : MS W0 W w2 pb gm w2.heap.size tN.text (.slice aN tN.text.length cN) _ _ := ⟨P0.go hK1 hA1, hK1.blk x0 (by omega), hK1.blk m0 (by omega), Fl.Rd.cm fz_in _ _ hRN, hgm, Nat.le_refl _⟩
  have hM9 : gm < w2.heap.size := Q0.m.lt
  clear HQ hA1 hK1 hRS hs5 hRN P0 x0 m0 hgm
  generalize w2.heap.size = M at *
  have r1 := Q0.m.cell (i := 0) rfl
  have r1f := Q0.m.free 0
  go_wp2_with fail
  replace Q0 := Q0.set 0 (.slice aN tN.text.length cN)
  simp only [List.set_cons_succ, List.set_cons_zero] at Q0
  clear r1 r1f
  generalize w2.setCell ⟨gm, 0, none⟩ (.slice aN tN.text.length cN) = w3 at *
  have HQ := wantYes pb tS tE (tD :: [tZ]) ⟨#[59]⟩ _ Q0.p.at' (sT_yes hS)
  go_wp2_with fail
  refine HQ.mono ?_
  rintro e w4 ⟨rfl, hA1, hK1⟩
  replace Q0 := Q0.go hK1 hA1
  clear HQ hA1 hK1
  go_wp2_with fail
  refine wp_loop_rounds 1 ?_
  have HQ := gotNo pb tE (tD :: [tZ]) ⟨#[73, 77, 80, 79, 82, 84]⟩ _ Q0.p.at' (sT_no noU)
  rw [rounds_succ]
  go_wp2_with fail
  refine HQ.mono ?_
  rintro e wq ⟨rfl, hq⟩
  rw [hq]
  clear HQ hq wq
  go_wp2_with fail
  refine wp_loop_rounds 1 ?_
  have HQ := gotNo pb tE (tD :: [tZ]) ⟨#[86, 65, 82]⟩ _ Q0.p.at' (sT_no noV)
  rw [rounds_succ]
  go_wp2_with fail
  refine HQ.mono ?_
  rintro e wq ⟨rfl, hq⟩
  rw [hq]
  clear HQ hq wq
  go_wp2_with fail
  refine wp_loop_rounds 1 ?_
  have HQ := gotNo pb tE (tD :: [tZ]) ⟨#[80, 82, 79, 67]⟩ _ Q0.p.at' (sT_no noP)
  rw [rounds_succ]
  go_wp2_with fail
  refine HQ.mono ?_
  rintro e wq ⟨rfl, hq⟩
  rw [hq]
  clear HQ hq wq
  have HQ := wantYes pb tE tD [tZ] ⟨#[69, 78, 68]⟩ _ Q0.p.at' (sT_yes hE)
  go_wp2_with fail
  refine HQ.mono ?_
  rintro e w5 ⟨rfl, hA1, hK1⟩
  replace Q0 := Q0.go hK1 hA1
  clear HQ hA1 hK1
  have HQ := wantYes pb tD tZ [] ⟨#[46]⟩ _ Q0.p.at' (sT_yes hD)
  go_wp2_with fail
  refine HQ.mono ?_
  rintro e w6 ⟨rfl, hA1, hK1⟩
  replace Q0 := Q0.go hK1 hA1
  clear HQ hA1 hK1
  have HQ := takeEnd pb tZ _ Q0.p.at'
  rw [hZ] at HQ
  go_wp2_with fail
  refine HQ.mono ?_
  rintro e w7 ⟨rfl, hK1⟩
  have hg := Q0.g
  have hl := Q0.p.h1
  have x0 := hK1.blk Q0.x (by omega)
  have m0 := hK1.blk Q0.m (by omega)
  have kp := Q0.p.kp.trans hK1
  have hRN := Fl.Rd.cm (fz_kp hK1 (by omega)) _ _ Q0.n
  clear HQ hK1
  have RZ : Hid (RdVals (fr (W.heap.size + 1) w7) (Mo.mk tN.text [] [] []).fl [.slice aN tN.text.length cN, .slice none 0 0, .slice none 0 0, .slice none 0 0]) := by
    unfold Mo.fl
    exact ⟨_, _, rfl, Fl.Rd.cm (fz_out (by omega)) _ _ hRN, _, _, rfl, rd_noL _ _, _, _, rfl, rd_noL _ _, _, _, rfl, rd_noL _ _, rfl⟩
  have KZ : Hid _ := kp
  have r0 := m0.cell (i := 0) rfl
  have y0 := x0.cell (i := 0) rfl
  have f0 := x0.free 0
  have r1 := m0.cell (i := 1) rfl
  have y1 := x0.cell (i := 1) rfl
  have f1 := x0.free 1
  have r2 := m0.cell (i := 2) rfl
  have y2 := x0.cell (i := 2) rfl
  have f2 := x0.free 2
  have r3 := m0.cell (i := 3) rfl
  have y3 := x0.cell (i := 3) rfl
  have f3 := x0.free 3
  have b1 := x0.set (i := 0) (.slice aN tN.text.length cN)
  have b2 := b1.set (i := 1) (.slice none 0 0)
  have b3 := b2.set (i := 2) (.slice none 0 0)
  have b4 : Hid (Blk _ W.heap.size 29 [.slice aN tN.text.length cN, .slice none 0 0, .slice none 0 0, .slice none 0 0]) := b3.set (i := 3) (.slice none 0 0)
  clear hRN kp Q0 hg hl b1 b2 b3
  clear x0 m0
  go_wp2_with fail
  have KF := (((KZ.out.far (i := 0) (v := .slice aN tN.text.length cN) (Nat.le_refl _)).far (i := 1) (v := .slice none 0 0) (Nat.le_refl _)).far (i := 2) (v := .slice none 0 0) (Nat.le_refl _)).far (i := 3) (v := .slice none 0 0) (Nat.le_refl _)
  have l := Nat.lt_succ_self W.heap.size
  have RF := RdVals.cm (cm_mono (Nat.le_succ _) _) (RdVals.cm (cm_set (i := 3) (u := .slice none 0 0) l) (RdVals.cm (cm_set (i := 2) (u := .slice none 0 0) l) (RdVals.cm (cm_set (i := 1) (u := .slice none 0 0) l) (RdVals.cm (cm_set (i := 0) (u := .slice aN tN.text.length cN) l) RZ.out))))
  have bR := b4.out
  generalize (((w7.setCell ⟨W.heap.size, 0, none⟩ (.slice aN tN.text.length cN)).setCell ⟨W.heap.size, 1, none⟩ (.slice none 0 0)).setCell ⟨W.heap.size, 2, none⟩ (.slice none 0 0)).setCell ⟨W.heap.size, 3, none⟩ (.slice none 0 0) = wz at *
  have e0 := bR.cell (i := 0) rfl
  have e1 := bR.cell (i := 1) rfl
  have e2 := bR.cell (i := 2) rfl
  have e3 := bR.cell (i := 3) rfl
  refine bodyPost_ret (v := agg [.slice aN tN.text.length cN, .slice none 0 0, .slice none 0 0, .slice none 0 0]) ?_ rfl ⟨_, rfl, RF, KF⟩
  simp [results, Tryz.results9, go_sem, e0, e1, e2, e3, agg]

set_option maxHeartbeats 16000000 in
theorem mo020 (tM tN tS kv0 bv0 sv0 kv1 bv1 sv1 tE tD tZ : Tok) (uv0 uv1 : List Tok) (xv0 : Va) (xv1 : Va) (hM : sT tM.text [77, 79, 68, 85, 76, 69] = true) (hN : tN.kind = 4) (hNx : ∀ b ∈ tN.text, 0 ≤ b ∧ b ≤ 255) (hNn : tN.text.length ≤ 3000) (hS : sT tS.text [59] = true) (hkv0 : sT kv0.text [86, 65, 82] = true) (hXv0 : PsV (bv0 :: uv0) xv0 (sv0 :: kv1 :: bv1 :: uv1)) (hsv0 : sT sv0.text [59] = true) (hkv1 : sT kv1.text [86, 65, 82] = true) (hXv1 : PsV (bv1 :: uv1) xv1 (sv1 :: tE :: tD :: [tZ])) (hsv1 : sT sv1.text [59] = true) (noU : sT kv0.text [73, 77, 80, 79, 82, 84] = false) (noV : sT tE.text [86, 65, 82] = false) (noP : sT tE.text [80, 82, 79, 67] = false) (hE : sT tE.text [69, 78, 68] = true) (hD : sT tD.text [46] = true) (hZ : tZ.kind = 1) : PsMo (tM :: tN :: tS :: kv0 :: bv0 :: uv0) ⟨tN.text, [], [xv0, xv1], []⟩ := by
  intro W0 W pb hT hb hp hA
  have hpl : pb < W.heap.size := by obtain ⟨_, _, _, h1, _⟩ := hA.ex; exact h1.lt
  have x0 := (Blk.new W 29 [.slice none 0 0, .slice none 0 0, .slice none 0 0, .slice none 0 0]).old (o := .cells #[.slice none 0 0, .slice none 0 0, .slice none 0 0, .slice none 0 0] 29 (0, 0))
  have m0 := Blk.new (W.alloc (.cells #[.slice none 0 0, .slice none 0 0, .slice none 0 0, .slice none 0 0] 29 (0, 0))) 29 [.slice none 0 0, .slice none 0 0, .slice none 0 0, .slice none 0 0]
  have g1 := below_grown (grown_alloc W (.cells #[.slice none 0 0, .slice none 0 0, .slice none 0 0, .slice none 0 0] 29 (0, 0)) none)
  have hB9 := g1.trans ((below_grown (grown_alloc (W.alloc (.cells #[.slice none 0 0, .slice none 0 0, .slice none 0 0, .slice none 0 0] 29 (0, 0))) (.cells #[.slice none 0 0, .slice none 0 0, .slice none 0 0, .slice none 0 0] 29 (0, 0)) none)).mono g1.size)
  have P0 : PW W0 W W pb (tM :: tN :: tS :: kv0 :: bv0 :: uv0) := ⟨hb, hA, Kp.refl _ _, hpl, hp⟩
  replace P0 := P0.al hB9
  clear hb hA hB9 g1
  rw [World.size_alloc] at m0
  have HQ := wantYes pb tM tN (tS :: kv0 :: bv0 :: uv0) ⟨#[77, 79, 68, 85, 76, 69]⟩ _ P0.at' (sT_yes hM)
  go_enter Tryz.func9, Tryz.ntmps9
  go_wp2_with fail
  refine HQ.mono ?_
  rintro e w1 ⟨rfl, hA1, hK1⟩
  replace P0 := P0.go hK1 hA1
  replace x0 := hK1.blk x0 (by omega)
  replace m0 := hK1.blk m0 (by omega)
  clear HQ hA1 hK1
  have hgm : W.heap.size < W.heap.size + 1 := Nat.lt_succ_self _
  obtain ⟨gm, hge⟩ : ∃ gm, W.heap.size + 1 = gm := ⟨_, rfl⟩
  rw [hge] at m0 hgm ⊢
  clear hge
  have HQ := greatYes pb tN tS (kv0 :: bv0 :: uv0) _ P0.at' hN hNx hNn
  go_wp2_with fail
  refine HQ.mono ?_
  rintro e w2 ⟨v, rfl, hR, hA1, hK1⟩
  have hs5 : gm + 1 ≤ w1.heap.size := m0.lt
  obtain ⟨aN, cN, rfl, hRS⟩ := hR
  have hRN : (Fl.b tN.text).Rd (fr (gm + 1) w2) (.slice aN tN.text.length cN) := Fl.Rd.cm (cm_mono hs5 _) _ _ ⟨aN, cN, rfl, hRS⟩
  have Q0 : MS W0 W w2 pb gm w2.heap.size tN.text (.slice aN tN.text.length cN) _ _ := ⟨P0.go hK1 hA1, hK1.blk x0 (by omega), hK1.blk m0 (by omega), Fl.Rd.cm fz_in _ _ hRN, hgm, Nat.le_refl _⟩
  have hM9 : gm < w2.heap.size := Q0.m.lt
  clear HQ hA1 hK1 hRS hs5 hRN P0 x0 m0 hgm
  generalize w2.heap.size = M at *
  have r1 := Q0.m.cell (i := 0) rfl
  have r1f := Q0.m.free 0
  go_wp2_with fail
  replace Q0 := Q0.set 0 (.slice aN tN.text.length cN)
  simp only [List.set_cons_succ, List.set_cons_zero] at Q0
  clear r1 r1f
  generalize w2.setCell ⟨gm, 0, none⟩ (.slice aN tN.text.length cN) = w3 at *
  have HQ := wantYes pb tS kv0 (bv0 :: uv0) ⟨#[59]⟩ _ Q0.p.at' (sT_yes hS)
  go_wp2_with fail
  refine HQ.mono ?_
  rintro e w4 ⟨rfl, hA1, hK1⟩
  replace Q0 := Q0.go hK1 hA1
  clear HQ hA1 hK1
  go_wp2_with fail
  refine wp_loop_rounds 1 ?_
  have HQ := gotNo pb kv0 (bv0 :: uv0) ⟨#[73, 77, 80, 79, 82, 84]⟩ _ Q0.p.at' (sT_no noU)
  rw [rounds_succ]
  go_wp2_with fail
  refine HQ.mono ?_
  rintro e wq ⟨rfl, hq⟩
  rw [hq]
  clear HQ hq wq
  have G0 := GL.nil w4 w4.heap.size 59 2
  have hNs : w4.heap.size ≤ w4.heap.size := Nat.le_refl _
  have hNM : M ≤ w4.heap.size := Q0.s
  have hNg : gm < w4.heap.size := Q0.m.lt
  obtain ⟨N, hNe⟩ : ∃ N, w4.heap.size = N := ⟨_, rfl⟩
  rw [hNe] at G0 hNM hNg
  replace hNs : N ≤ w4.heap.size := by omega
  clear hNe
  go_wp2_with fail
  refine wp_loop_rounds 3 ?_
  have HQ := gotYes pb kv0 bv0 (uv0) ⟨#[86, 65, 82]⟩ _ Q0.p.at' (sT_yes hkv0)
  rw [rounds_succ]
  go_wp2_with fail
  refine HQ.mono ?_
  rintro e w5 ⟨rfl, hA1, hK1⟩
  replace Q0 := Q0.go hK1 hA1
  replace G0 := G0.kp hK1 (by have := Q0.h1; omega)
  replace hNs := Nat.le_trans hNs hK1.size
  clear HQ hA1 hK1
  have HQ := hXv0 W0 w5.drew pb hT Q0.p.bel.drew hp (Q0.p.at'.kp (Below.refl _ _).drew)
  have hq1 := fun q hq => (G0.ty q hq).2.1
  have r1 : w5.drew.cell? ⟨gm, 2, none⟩ = some (.slice none 0 0) := Q0.m.cell (i := 2) rfl
  have hD9 : Kp pb w5 w5.drew := Kp.below (Below.refl _ _).drew
  have hpa : pb < w5.heap.size := by have := Q0.m.lt; have := Q0.h1; omega
  have hNa : N ≤ w5.heap.size := hNs
  go_wp2_with fail
  refine rl 7 (S := fun wl => wl.cell? ⟨gm, 2, none⟩ = some (.slice none 0 0)) (by kernel_rfl) r1 (fun hHeld => ?_)
  refine tl 0 (v := ?v501) rfl (by kernel_rfl) (.inl ⟨by rfl, ?y501⟩) hHeld (fun _ _ _ h => h) ?_
  case y501 => intro w hSw; (try dsimp only at hSw); go_simp; first | done | rfl
  refine tl 1 (v := ?v502) rfl (by kernel_rfl) (.inl ⟨by rfl, ?y502⟩) hHeld (fun _ _ _ h => h) ?_
  case y502 => intro w hSw; (try dsimp only at hSw); go_simp; first | done | rfl
  refine tl 2 (v := ?v503) rfl (by kernel_rfl) (.inl ⟨by rfl, ?y503⟩) hHeld (fun _ _ _ h => h) ?_
  case y503 => intro w hSw; (try dsimp only at hSw); go_simp; first | done | rfl
  try simp only [nrm]
  try simp only [nrm]
  refine dl 3 rfl (by kernel_rfl) (fun K hK => ?_)
  go_simp
  (with_reducible refine HQ.mono ?_)
  rintro e w6 ⟨vs, rfl, hR, hA1, hK9⟩
  obtain ⟨a1, n1, c1, k, rfl⟩ := rdVa hR
  replace hR : RdVals (fr w5.heap.size w6) xv0.fl [.slice a1 n1 c1, .int .i64 k] := hR
  simp only [agg]
  have hK1 := hD9.trans hK9
  replace Q0 := Q0.go hK1 hA1
  replace G0 := G0.kp hK1 (by have := Q0.h1; omega)
  replace hNs := Nat.le_trans hNs hK1.size
  have S4 := Q0.m.cell (i := 2) rfl
  clear HQ hA1 hK9 r1 hD9
  go_wp2_with fail
  refine hK.out _ _ (S4) (fun hHeld => ?_)
  clear hK K
  try simp only [Act.put, List.getElem_toArray, List.getElem_cons_zero, List.getElem_cons_succ, List.setIfInBounds_toArray, List.set_cons_zero, List.set_cons_succ]
  have hB := below_grown (grown_alloc w6 (.cells #[.slice a1 n1 c1, .int .i64 k] 59 (0, 0)) none)
  have xC := Blk.new w6 59 [.slice a1 n1 c1, .int .i64 k]
  have hK2 := Kp.below (pb := pb) hB
  replace hR := RdVals.cm (hK2.cm (N := w5.heap.size) hpa) hR
  replace Q0 := Q0.al hB
  replace G0 := G0.below hB
  replace hNs := Nat.le_trans hNs hB.size
  have S5 := Q0.m.cell (i := 2) rfl
  refine dl 4 rfl (by kernel_rfl) (fun K hK => ?_)
  go_simp
  refine hK.out _ _ (S5) (fun hHeld => ?_)
  clear hK K
  try simp only [Act.put, List.getElem_toArray, List.getElem_cons_zero, List.getElem_cons_succ, List.setIfInBounds_toArray, List.set_cons_zero, List.set_cons_succ]
  clear hB hK1 hK2 S4
  simp only [List.toArray] at xC
  generalize w6.alloc (.cells #[.slice a1 n1 c1, .int .i64 k] 59 (0, 0)) = w7 at *
  generalize w6.heap.size = gx at *
  refine dl 5 rfl (by kernel_rfl) (fun K hK => ?_)
  rw [if_pos (by kernel_rfl)]
  refine wp_appG infoVa Tryz.underlying26 rfl (by decide) (by decide) _ _ rfl (v := .slice none 0 0) rfl G0 rfl xC rfl hR hNa hq1 (by simp) hNs ?_
  intro gv0 cv0 w8 GG hg
  try simp only [List.length_cons, List.length_nil, Nat.zero_add, Nat.reduceAdd, List.cons_append, List.nil_append] at GG ⊢
  replace Q0 := Q0.row hg G0 hNM hNg (by decide) (by decide) (by decide)
  replace hNs := Nat.le_trans hNs hg.size
  have S6 := Q0.m.cell (i := 2) rfl
  clear G0 hg xC hR S5 hq1 hNa hpa
  refine hK.out _ _ (S6) (fun hHeld => ?_)
  clear hK K
  try simp only [Act.put, List.getElem_toArray, List.getElem_cons_zero, List.getElem_cons_succ, List.setIfInBounds_toArray, List.set_cons_zero, List.set_cons_succ]
  refine tl 6 (v := ?v504) rfl (by kernel_rfl) (.inl ⟨by rfl, ?y504⟩) hHeld (fun _ _ _ h => h) ?_
  case y504 => intro w hSw; (try dsimp only at hSw); go_simp; first | done | rfl
  try simp only [nrm]
  have r1 := Q0.m.cell (i := 2) rfl
  have r1f := Q0.m.free 2
  refine el rfl (by kernel_rfl) (by kernel_rfl) (fun K hK => ?_)
  go_simp
  refine hK.out _ _ ?_
  clear hK K hHeld r1 r1f S6
  replace Q0 := Q0.set 2 (.slice (some ⟨gv0, 0, none⟩) 1 cv0)
  have G0 := GG.far (g := gm) (i := 2) (u := .slice (some ⟨gv0, 0, none⟩) 1 cv0) hNg
  replace hNs : N ≤ (w8.setCell ⟨gm, 2, none⟩ (.slice (some ⟨gv0, 0, none⟩) 1 cv0)).heap.size := by simpa using hNs
  clear GG
  simp only [List.set_cons_succ, List.set_cons_zero] at Q0
  generalize w8.setCell ⟨gm, 2, none⟩ (.slice (some ⟨gv0, 0, none⟩) 1 cv0) = w9 at *
  have HQ := wantYes pb sv0 kv1 (bv1 :: uv1) ⟨#[59]⟩ _ Q0.p.at' (sT_yes hsv0)
  go_wp2_with fail
  refine HQ.mono ?_
  rintro e w10 ⟨rfl, hA1, hK1⟩
  replace Q0 := Q0.go hK1 hA1
  replace G0 := G0.kp hK1 (by have := Q0.h1; omega)
  replace hNs := Nat.le_trans hNs hK1.size
  clear HQ hA1 hK1
  go_wp2_with fail
  have HQ := gotYes pb kv1 bv1 (uv1) ⟨#[86, 65, 82]⟩ _ Q0.p.at' (sT_yes hkv1)
  rw [rounds_succ]
  go_wp2_with fail
  refine HQ.mono ?_
  rintro e w11 ⟨rfl, hA1, hK1⟩
  replace Q0 := Q0.go hK1 hA1
  replace G0 := G0.kp hK1 (by have := Q0.h1; omega)
  replace hNs := Nat.le_trans hNs hK1.size
  clear HQ hA1 hK1
  have HQ := hXv1 W0 w11.drew pb hT Q0.p.bel.drew hp (Q0.p.at'.kp (Below.refl _ _).drew)
  have hq1 := fun q hq => (G0.ty q hq).2.1
  have r1 : w11.drew.cell? ⟨gm, 2, none⟩ = some (.slice (some ⟨gv0, 0, none⟩) 1 cv0) := Q0.m.cell (i := 2) rfl
  have hD9 : Kp pb w11 w11.drew := Kp.below (Below.refl _ _).drew
  have hpa : pb < w11.heap.size := by have := Q0.m.lt; have := Q0.h1; omega
  have hNa : N ≤ w11.heap.size := hNs
  go_wp2_with fail
  refine rl 7 (S := fun wl => wl.cell? ⟨gm, 2, none⟩ = some (.slice (some ⟨gv0, 0, none⟩) 1 cv0)) (by kernel_rfl) r1 (fun hHeld => ?_)
  refine tl 0 (v := ?v505) rfl (by kernel_rfl) (.inl ⟨by rfl, ?y505⟩) hHeld (fun _ _ _ h => h) ?_
  case y505 => intro w hSw; (try dsimp only at hSw); go_simp; first | done | rfl
  refine tl 1 (v := ?v506) rfl (by kernel_rfl) (.inl ⟨by rfl, ?y506⟩) hHeld (fun _ _ _ h => h) ?_
  case y506 => intro w hSw; (try dsimp only at hSw); go_simp; first | done | rfl
  refine tl 2 (v := ?v507) rfl (by kernel_rfl) (.inl ⟨by rfl, ?y507⟩) hHeld (fun _ _ _ h => h) ?_
  case y507 => intro w hSw; (try dsimp only at hSw); go_simp; first | done | rfl
  try simp only [nrm]
  try simp only [nrm]
  refine dl 3 rfl (by kernel_rfl) (fun K hK => ?_)
  go_simp
  (with_reducible refine HQ.mono ?_)
  rintro e w12 ⟨vs, rfl, hR, hA1, hK9⟩
  obtain ⟨a1, n1, c1, k, rfl⟩ := rdVa hR
  replace hR : RdVals (fr w11.heap.size w12) xv1.fl [.slice a1 n1 c1, .int .i64 k] := hR
  simp only [agg]
  have hK1 := hD9.trans hK9
  replace Q0 := Q0.go hK1 hA1
  replace G0 := G0.kp hK1 (by have := Q0.h1; omega)
  replace hNs := Nat.le_trans hNs hK1.size
  have S4 := Q0.m.cell (i := 2) rfl
  clear HQ hA1 hK9 r1 hD9
  go_wp2_with fail
  refine hK.out _ _ (S4) (fun hHeld => ?_)
  clear hK K
  try simp only [Act.put, List.getElem_toArray, List.getElem_cons_zero, List.getElem_cons_succ, List.setIfInBounds_toArray, List.set_cons_zero, List.set_cons_succ]
  have hB := below_grown (grown_alloc w12 (.cells #[.slice a1 n1 c1, .int .i64 k] 59 (0, 0)) none)
  have xC := Blk.new w12 59 [.slice a1 n1 c1, .int .i64 k]
  have hK2 := Kp.below (pb := pb) hB
  replace hR := RdVals.cm (hK2.cm (N := w11.heap.size) hpa) hR
  replace Q0 := Q0.al hB
  replace G0 := G0.below hB
  replace hNs := Nat.le_trans hNs hB.size
  have S5 := Q0.m.cell (i := 2) rfl
  refine dl 4 rfl (by kernel_rfl) (fun K hK => ?_)
  go_simp
  refine hK.out _ _ (S5) (fun hHeld => ?_)
  clear hK K
  try simp only [Act.put, List.getElem_toArray, List.getElem_cons_zero, List.getElem_cons_succ, List.setIfInBounds_toArray, List.set_cons_zero, List.set_cons_succ]
  clear hB hK1 hK2 S4
  simp only [List.toArray] at xC
  generalize w12.alloc (.cells #[.slice a1 n1 c1, .int .i64 k] 59 (0, 0)) = w13 at *
  generalize w12.heap.size = gx at *
  refine dl 5 rfl (by kernel_rfl) (fun K hK => ?_)
  rw [if_pos (by kernel_rfl)]
  refine wp_appG infoVa Tryz.underlying26 rfl (by decide) (by decide) _ _ rfl (v := .slice (some ⟨gv0, 0, none⟩) 1 cv0) rfl G0 rfl xC rfl hR hNa hq1 (by simp) hNs ?_
  intro gv1 cv1 w14 GG hg
  try simp only [List.length_cons, List.length_nil, Nat.zero_add, Nat.reduceAdd, List.cons_append, List.nil_append] at GG ⊢
  replace Q0 := Q0.row hg G0 hNM hNg (by decide) (by decide) (by decide)
  replace hNs := Nat.le_trans hNs hg.size
  have S6 := Q0.m.cell (i := 2) rfl
  clear G0 hg xC hR S5 hq1 hNa hpa
  refine hK.out _ _ (S6) (fun hHeld => ?_)
  clear hK K
  try simp only [Act.put, List.getElem_toArray, List.getElem_cons_zero, List.getElem_cons_succ, List.setIfInBounds_toArray, List.set_cons_zero, List.set_cons_succ]
  refine tl 6 (v := ?v508) rfl (by kernel_rfl) (.inl ⟨by rfl, ?y508⟩) hHeld (fun _ _ _ h => h) ?_
  case y508 => intro w hSw; (try dsimp only at hSw); go_simp; first | done | rfl
  try simp only [nrm]
  have r1 := Q0.m.cell (i := 2) rfl
  have r1f := Q0.m.free 2
  refine el rfl (by kernel_rfl) (by kernel_rfl) (fun K hK => ?_)
  go_simp
  refine hK.out _ _ ?_
  clear hK K hHeld r1 r1f S6
  replace Q0 := Q0.set 2 (.slice (some ⟨gv1, 0, none⟩) 2 cv1)
  have G0 := GG.far (g := gm) (i := 2) (u := .slice (some ⟨gv1, 0, none⟩) 2 cv1) hNg
  replace hNs : N ≤ (w14.setCell ⟨gm, 2, none⟩ (.slice (some ⟨gv1, 0, none⟩) 2 cv1)).heap.size := by simpa using hNs
  clear GG
  simp only [List.set_cons_succ, List.set_cons_zero] at Q0
  generalize w14.setCell ⟨gm, 2, none⟩ (.slice (some ⟨gv1, 0, none⟩) 2 cv1) = w15 at *
  have HQ := wantYes pb sv1 tE (tD :: [tZ]) ⟨#[59]⟩ _ Q0.p.at' (sT_yes hsv1)
  go_wp2_with fail
  refine HQ.mono ?_
  rintro e w16 ⟨rfl, hA1, hK1⟩
  replace Q0 := Q0.go hK1 hA1
  replace G0 := G0.kp hK1 (by have := Q0.h1; omega)
  replace hNs := Nat.le_trans hNs hK1.size
  clear HQ hA1 hK1
  go_wp2_with fail
  have HQ := gotNo pb tE (tD :: [tZ]) ⟨#[86, 65, 82]⟩ _ Q0.p.at' (sT_no noV)
  rw [rounds_succ]
  go_wp2_with fail
  refine HQ.mono ?_
  rintro e wq ⟨rfl, hq⟩
  rw [hq]
  clear HQ hq wq
  have hRV := Fl.Rd.cm (cm_mono (show gm + 1 ≤ N by omega) _) _ _ G0.rd
  clear G0 hNs hNM hNg
  go_wp2_with fail
  refine wp_loop_rounds 1 ?_
  have HQ := gotNo pb tE (tD :: [tZ]) ⟨#[80, 82, 79, 67]⟩ _ Q0.p.at' (sT_no noP)
  rw [rounds_succ]
  go_wp2_with fail
  refine HQ.mono ?_
  rintro e wq ⟨rfl, hq⟩
  rw [hq]
  clear HQ hq wq
  have HQ := wantYes pb tE tD [tZ] ⟨#[69, 78, 68]⟩ _ Q0.p.at' (sT_yes hE)
  go_wp2_with fail
  refine HQ.mono ?_
  rintro e w17 ⟨rfl, hA1, hK1⟩
  replace Q0 := Q0.go hK1 hA1
  replace hRV := Fl.Rd.cm (hK1.cm (N := gm + 1) (by have := Q0.h1; omega)) _ _ hRV
  clear HQ hA1 hK1
  have HQ := wantYes pb tD tZ [] ⟨#[46]⟩ _ Q0.p.at' (sT_yes hD)
  go_wp2_with fail
  refine HQ.mono ?_
  rintro e w18 ⟨rfl, hA1, hK1⟩
  replace Q0 := Q0.go hK1 hA1
  replace hRV := Fl.Rd.cm (hK1.cm (N := gm + 1) (by have := Q0.h1; omega)) _ _ hRV
  clear HQ hA1 hK1
  have HQ := takeEnd pb tZ _ Q0.p.at'
  rw [hZ] at HQ
  go_wp2_with fail
  refine HQ.mono ?_
  rintro e w19 ⟨rfl, hK1⟩
  have hg := Q0.g
  have hl := Q0.p.h1
  have x0 := hK1.blk Q0.x (by omega)
  have m0 := hK1.blk Q0.m (by omega)
  have kp := Q0.p.kp.trans hK1
  have hRN := Fl.Rd.cm (fz_kp hK1 (by omega)) _ _ Q0.n
  replace hRV := Fl.Rd.cm (hK1.cm (N := gm + 1) (by have := Q0.h1; omega)) _ _ hRV
  clear HQ hK1
  have RZ : Hid (RdVals (fr (W.heap.size + 1) w19) (Mo.mk tN.text [] [xv0, xv1] []).fl [.slice aN tN.text.length cN, .slice none 0 0, .slice (some ⟨gv1, 0, none⟩) 2 cv1, .slice none 0 0]) := by
    unfold Mo.fl
    exact ⟨_, _, rfl, Fl.Rd.cm (fz_out (by omega)) _ _ hRN, _, _, rfl, rd_noL _ _, _, _, rfl, Fl.Rd.cm (cm_mono (by have := Q0.g; omega) _) _ _ hRV, _, _, rfl, rd_noL _ _, rfl⟩
  have KZ : Hid _ := kp
  have r0 := m0.cell (i := 0) rfl
  have y0 := x0.cell (i := 0) rfl
  have f0 := x0.free 0
  have r1 := m0.cell (i := 1) rfl
  have y1 := x0.cell (i := 1) rfl
  have f1 := x0.free 1
  have r2 := m0.cell (i := 2) rfl
  have y2 := x0.cell (i := 2) rfl
  have f2 := x0.free 2
  have r3 := m0.cell (i := 3) rfl
  have y3 := x0.cell (i := 3) rfl
  have f3 := x0.free 3
  have b1 := x0.set (i := 0) (.slice aN tN.text.length cN)
  have b2 := b1.set (i := 1) (.slice none 0 0)
  have b3 := b2.set (i := 2) (.slice (some ⟨gv1, 0, none⟩) 2 cv1)
  have b4 : Hid (Blk _ W.heap.size 29 [.slice aN tN.text.length cN, .slice none 0 0, .slice (some ⟨gv1, 0, none⟩) 2 cv1, .slice none 0 0]) := b3.set (i := 3) (.slice none 0 0)
  clear hRN kp Q0 hg hl b1 b2 b3 hRV
  clear x0 m0
  go_wp2_with fail
  have KF := (((KZ.out.far (i := 0) (v := .slice aN tN.text.length cN) (Nat.le_refl _)).far (i := 1) (v := .slice none 0 0) (Nat.le_refl _)).far (i := 2) (v := .slice (some ⟨gv1, 0, none⟩) 2 cv1) (Nat.le_refl _)).far (i := 3) (v := .slice none 0 0) (Nat.le_refl _)
  have l := Nat.lt_succ_self W.heap.size
  have RF := RdVals.cm (cm_mono (Nat.le_succ _) _) (RdVals.cm (cm_set (i := 3) (u := .slice none 0 0) l) (RdVals.cm (cm_set (i := 2) (u := .slice (some ⟨gv1, 0, none⟩) 2 cv1) l) (RdVals.cm (cm_set (i := 1) (u := .slice none 0 0) l) (RdVals.cm (cm_set (i := 0) (u := .slice aN tN.text.length cN) l) RZ.out))))
  have bR := b4.out
  generalize (((w19.setCell ⟨W.heap.size, 0, none⟩ (.slice aN tN.text.length cN)).setCell ⟨W.heap.size, 1, none⟩ (.slice none 0 0)).setCell ⟨W.heap.size, 2, none⟩ (.slice (some ⟨gv1, 0, none⟩) 2 cv1)).setCell ⟨W.heap.size, 3, none⟩ (.slice none 0 0) = wz at *
  have e0 := bR.cell (i := 0) rfl
  have e1 := bR.cell (i := 1) rfl
  have e2 := bR.cell (i := 2) rfl
  have e3 := bR.cell (i := 3) rfl
  refine bodyPost_ret (v := agg [.slice aN tN.text.length cN, .slice none 0 0, .slice (some ⟨gv1, 0, none⟩) 2 cv1, .slice none 0 0]) ?_ rfl ⟨_, rfl, RF, KF⟩
  simp [results, Tryz.results9, go_sem, e0, e1, e2, e3, agg]

set_option maxHeartbeats 16000000 in
theorem mo100 (tM tN tS ku0 bu0 su0 tE tD tZ : Tok) (hM : sT tM.text [77, 79, 68, 85, 76, 69] = true) (hN : tN.kind = 4) (hNx : ∀ b ∈ tN.text, 0 ≤ b ∧ b ≤ 255) (hNn : tN.text.length ≤ 3000) (hS : sT tS.text [59] = true) (hku0 : sT ku0.text [73, 77, 80, 79, 82, 84] = true) (hbu0 : bu0.kind = 4) (hxu0 : ∀ b ∈ bu0.text, 0 ≤ b ∧ b ≤ 255) (hnu0 : bu0.text.length ≤ 3000) (hsu0 : sT su0.text [59] = true) (noU : sT tE.text [73, 77, 80, 79, 82, 84] = false) (noV : sT tE.text [86, 65, 82] = false) (noP : sT tE.text [80, 82, 79, 67] = false) (hE : sT tE.text [69, 78, 68] = true) (hD : sT tD.text [46] = true) (hZ : tZ.kind = 1) : PsMo (tM :: tN :: tS :: ku0 :: bu0 :: su0 :: tE :: tD :: [tZ]) ⟨tN.text, [bu0.text], [], []⟩ := by
  intro W0 W pb hT hb hp hA
  have hpl : pb < W.heap.size := by obtain ⟨_, _, _, h1, _⟩ := hA.ex; exact h1.lt
  have x0 := (Blk.new W 29 [.slice none 0 0, .slice none 0 0, .slice none 0 0, .slice none 0 0]).old (o := .cells #[.slice none 0 0, .slice none 0 0, .slice none 0 0, .slice none 0 0] 29 (0, 0))
  have m0 := Blk.new (W.alloc (.cells #[.slice none 0 0, .slice none 0 0, .slice none 0 0, .slice none 0 0] 29 (0, 0))) 29 [.slice none 0 0, .slice none 0 0, .slice none 0 0, .slice none 0 0]
  have g1 := below_grown (grown_alloc W (.cells #[.slice none 0 0, .slice none 0 0, .slice none 0 0, .slice none 0 0] 29 (0, 0)) none)
  have hB9 := g1.trans ((below_grown (grown_alloc (W.alloc (.cells #[.slice none 0 0, .slice none 0 0, .slice none 0 0, .slice none 0 0] 29 (0, 0))) (.cells #[.slice none 0 0, .slice none 0 0, .slice none 0 0, .slice none 0 0] 29 (0, 0)) none)).mono g1.size)
  have P0 : PW W0 W W pb (tM :: tN :: tS :: ku0 :: bu0 :: su0 :: tE :: tD :: [tZ]) := ⟨hb, hA, Kp.refl _ _, hpl, hp⟩
  replace P0 := P0.al hB9
  clear hb hA hB9 g1
  rw [World.size_alloc] at m0
  have HQ := wantYes pb tM tN (tS :: ku0 :: bu0 :: su0 :: tE :: tD :: [tZ]) ⟨#[77, 79, 68, 85, 76, 69]⟩ _ P0.at' (sT_yes hM)
  go_enter Tryz.func9, Tryz.ntmps9
  go_wp2_with fail
  refine HQ.mono ?_
  rintro e w1 ⟨rfl, hA1, hK1⟩
  replace P0 := P0.go hK1 hA1
  replace x0 := hK1.blk x0 (by omega)
  replace m0 := hK1.blk m0 (by omega)
  clear HQ hA1 hK1
  have hgm : W.heap.size < W.heap.size + 1 := Nat.lt_succ_self _
  obtain ⟨gm, hge⟩ : ∃ gm, W.heap.size + 1 = gm := ⟨_, rfl⟩
  rw [hge] at m0 hgm ⊢
  clear hge
  have HQ := greatYes pb tN tS (ku0 :: bu0 :: su0 :: tE :: tD :: [tZ]) _ P0.at' hN hNx hNn
  go_wp2_with fail
  refine HQ.mono ?_
  rintro e w2 ⟨v, rfl, hR, hA1, hK1⟩
  have hs5 : gm + 1 ≤ w1.heap.size := m0.lt
  obtain ⟨aN, cN, rfl, hRS⟩ := hR
  have hRN : (Fl.b tN.text).Rd (fr (gm + 1) w2) (.slice aN tN.text.length cN) := Fl.Rd.cm (cm_mono hs5 _) _ _ ⟨aN, cN, rfl, hRS⟩
  have Q0 : MS W0 W w2 pb gm w2.heap.size tN.text (.slice aN tN.text.length cN) _ _ := ⟨P0.go hK1 hA1, hK1.blk x0 (by omega), hK1.blk m0 (by omega), Fl.Rd.cm fz_in _ _ hRN, hgm, Nat.le_refl _⟩
  have hM9 : gm < w2.heap.size := Q0.m.lt
  clear HQ hA1 hK1 hRS hs5 hRN P0 x0 m0 hgm
  generalize w2.heap.size = M at *
  have r1 := Q0.m.cell (i := 0) rfl
  have r1f := Q0.m.free 0
  go_wp2_with fail
  replace Q0 := Q0.set 0 (.slice aN tN.text.length cN)
  simp only [List.set_cons_succ, List.set_cons_zero] at Q0
  clear r1 r1f
  generalize w2.setCell ⟨gm, 0, none⟩ (.slice aN tN.text.length cN) = w3 at *
  have HQ := wantYes pb tS ku0 (bu0 :: su0 :: tE :: tD :: [tZ]) ⟨#[59]⟩ _ Q0.p.at' (sT_yes hS)
  go_wp2_with fail
  refine HQ.mono ?_
  rintro e w4 ⟨rfl, hA1, hK1⟩
  replace Q0 := Q0.go hK1 hA1
  clear HQ hA1 hK1
  have G0 := GL.nil w4 w4.heap.size 22 1
  have hNs : w4.heap.size ≤ w4.heap.size := Nat.le_refl _
  have hNM : M ≤ w4.heap.size := Q0.s
  have hNg : gm < w4.heap.size := Q0.m.lt
  obtain ⟨N, hNe⟩ : ∃ N, w4.heap.size = N := ⟨_, rfl⟩
  rw [hNe] at G0 hNM hNg
  replace hNs : N ≤ w4.heap.size := by omega
  clear hNe
  go_wp2_with fail
  refine wp_loop_rounds 2 ?_
  have HQ := gotYes pb ku0 bu0 (su0 :: tE :: tD :: [tZ]) ⟨#[73, 77, 80, 79, 82, 84]⟩ _ Q0.p.at' (sT_yes hku0)
  rw [rounds_succ]
  go_wp2_with fail
  refine HQ.mono ?_
  rintro e w5 ⟨rfl, hA1, hK1⟩
  replace Q0 := Q0.go hK1 hA1
  replace G0 := G0.kp hK1 (by have := Q0.h1; omega)
  replace hNs := Nat.le_trans hNs hK1.size
  clear HQ hA1 hK1
  have HQ := greatYes pb bu0 su0 (tE :: tD :: [tZ]) w5.drew (Q0.p.at'.kp (Below.refl _ _).drew) hbu0 hxu0 hnu0
  have hq1 := fun q hq => (G0.ty q hq).2.1
  have r1 : w5.drew.cell? ⟨gm, 1, none⟩ = some (.slice none 0 0) := Q0.m.cell (i := 1) rfl
  have hD9 : Kp pb w5 w5.drew := Kp.below (Below.refl _ _).drew
  have hpa : pb < w5.heap.size := by have := Q0.m.lt; have := Q0.h1; omega
  have hNa : N ≤ w5.heap.size := hNs
  go_wp2_with fail
  refine rl 7 (S := fun wl => wl.cell? ⟨gm, 1, none⟩ = some (.slice none 0 0)) (by kernel_rfl) r1 (fun hHeld => ?_)
  refine tl 0 (v := ?v509) rfl (by kernel_rfl) (.inl ⟨by rfl, ?y509⟩) hHeld (fun _ _ _ h => h) ?_
  case y509 => intro w hSw; (try dsimp only at hSw); go_simp; first | done | rfl
  refine tl 1 (v := ?v510) rfl (by kernel_rfl) (.inl ⟨by rfl, ?y510⟩) hHeld (fun _ _ _ h => h) ?_
  case y510 => intro w hSw; (try dsimp only at hSw); go_simp; first | done | rfl
  refine tl 2 (v := ?v511) rfl (by kernel_rfl) (.inl ⟨by rfl, ?y511⟩) hHeld (fun _ _ _ h => h) ?_
  case y511 => intro w hSw; (try dsimp only at hSw); go_simp; first | done | rfl
  try simp only [nrm]
  try simp only [nrm]
  refine dl 3 rfl (by kernel_rfl) (fun K hK => ?_)
  go_simp
  (with_reducible refine HQ.mono ?_)
  rintro e w6 ⟨v, rfl, hRx, hA1, hK9⟩
  obtain ⟨a1, c1, rfl, hRS⟩ := hRx
  have hR : RdVals (fr w5.heap.size w6) [.b bu0.text] [.slice a1 bu0.text.length c1] := ⟨_, _, rfl, ⟨a1, c1, rfl, hRS⟩, rfl⟩
  clear hRS
  generalize bu0.text.length = n1 at *
  have hK1 := hD9.trans hK9
  replace Q0 := Q0.go hK1 hA1
  replace G0 := G0.kp hK1 (by have := Q0.h1; omega)
  replace hNs := Nat.le_trans hNs hK1.size
  have S4 := Q0.m.cell (i := 1) rfl
  clear HQ hA1 hK9 r1 hD9
  go_wp2_with fail
  refine hK.out _ _ (S4) (fun hHeld => ?_)
  clear hK K
  try simp only [Act.put, List.getElem_toArray, List.getElem_cons_zero, List.getElem_cons_succ, List.setIfInBounds_toArray, List.set_cons_zero, List.set_cons_succ]
  have hB := below_grown (grown_alloc w6 (.cells #[.slice a1 n1 c1] 22 (0, 0)) none)
  have xC := Blk.new w6 22 [.slice a1 n1 c1]
  have hK2 := Kp.below (pb := pb) hB
  replace hR := RdVals.cm (hK2.cm (N := w5.heap.size) hpa) hR
  replace Q0 := Q0.al hB
  replace G0 := G0.below hB
  replace hNs := Nat.le_trans hNs hB.size
  have S5 := Q0.m.cell (i := 1) rfl
  refine dl 4 rfl (by kernel_rfl) (fun K hK => ?_)
  go_simp
  refine hK.out _ _ (S5) (fun hHeld => ?_)
  clear hK K
  try simp only [Act.put, List.getElem_toArray, List.getElem_cons_zero, List.getElem_cons_succ, List.setIfInBounds_toArray, List.set_cons_zero, List.set_cons_succ]
  clear hB hK1 hK2 S4
  simp only [List.toArray] at xC
  generalize w6.alloc (.cells #[.slice a1 n1 c1] 22 (0, 0)) = w7 at *
  generalize w6.heap.size = gx at *
  refine dl 5 rfl (by kernel_rfl) (fun K hK => ?_)
  rw [if_pos (by kernel_rfl)]
  refine wp_appG infoBs Tryz.underlying25 rfl (by decide) (by decide) _ _ rfl (v := .slice none 0 0) rfl G0 rfl xC rfl hR hNa hq1 (by simp) hNs ?_
  intro gu0 cu0 w8 GG hg
  try simp only [List.length_cons, List.length_nil, Nat.zero_add, Nat.reduceAdd, List.cons_append, List.nil_append] at GG ⊢
  replace Q0 := Q0.row hg G0 hNM hNg (by decide) (by decide) (by decide)
  replace hNs := Nat.le_trans hNs hg.size
  have S6 := Q0.m.cell (i := 1) rfl
  clear G0 hg xC hR S5 hq1 hNa hpa
  refine hK.out _ _ (S6) (fun hHeld => ?_)
  clear hK K
  try simp only [Act.put, List.getElem_toArray, List.getElem_cons_zero, List.getElem_cons_succ, List.setIfInBounds_toArray, List.set_cons_zero, List.set_cons_succ]
  refine tl 6 (v := ?v512) rfl (by kernel_rfl) (.inl ⟨by rfl, ?y512⟩) hHeld (fun _ _ _ h => h) ?_
  case y512 => intro w hSw; (try dsimp only at hSw); go_simp; first | done | rfl
  try simp only [nrm]
  have r1 := Q0.m.cell (i := 1) rfl
  have r1f := Q0.m.free 1
  refine el rfl (by kernel_rfl) (by kernel_rfl) (fun K hK => ?_)
  go_simp
  refine hK.out _ _ ?_
  clear hK K hHeld r1 r1f S6
  replace Q0 := Q0.set 1 (.slice (some ⟨gu0, 0, none⟩) 1 cu0)
  have G0 := GG.far (g := gm) (i := 1) (u := .slice (some ⟨gu0, 0, none⟩) 1 cu0) hNg
  replace hNs : N ≤ (w8.setCell ⟨gm, 1, none⟩ (.slice (some ⟨gu0, 0, none⟩) 1 cu0)).heap.size := by simpa using hNs
  clear GG
  simp only [List.set_cons_succ, List.set_cons_zero] at Q0
  generalize w8.setCell ⟨gm, 1, none⟩ (.slice (some ⟨gu0, 0, none⟩) 1 cu0) = w9 at *
  have HQ := wantYes pb su0 tE (tD :: [tZ]) ⟨#[59]⟩ _ Q0.p.at' (sT_yes hsu0)
  go_wp2_with fail
  refine HQ.mono ?_
  rintro e w10 ⟨rfl, hA1, hK1⟩
  replace Q0 := Q0.go hK1 hA1
  replace G0 := G0.kp hK1 (by have := Q0.h1; omega)
  replace hNs := Nat.le_trans hNs hK1.size
  clear HQ hA1 hK1
  go_wp2_with fail
  have HQ := gotNo pb tE (tD :: [tZ]) ⟨#[73, 77, 80, 79, 82, 84]⟩ _ Q0.p.at' (sT_no noU)
  rw [rounds_succ]
  go_wp2_with fail
  refine HQ.mono ?_
  rintro e wq ⟨rfl, hq⟩
  rw [hq]
  clear HQ hq wq
  have hRU := Fl.Rd.cm (cm_mono (show gm + 1 ≤ N by omega) _) _ _ G0.rd
  clear G0 hNs hNM hNg
  go_wp2_with fail
  refine wp_loop_rounds 1 ?_
  have HQ := gotNo pb tE (tD :: [tZ]) ⟨#[86, 65, 82]⟩ _ Q0.p.at' (sT_no noV)
  rw [rounds_succ]
  go_wp2_with fail
  refine HQ.mono ?_
  rintro e wq ⟨rfl, hq⟩
  rw [hq]
  clear HQ hq wq
  go_wp2_with fail
  refine wp_loop_rounds 1 ?_
  have HQ := gotNo pb tE (tD :: [tZ]) ⟨#[80, 82, 79, 67]⟩ _ Q0.p.at' (sT_no noP)
  rw [rounds_succ]
  go_wp2_with fail
  refine HQ.mono ?_
  rintro e wq ⟨rfl, hq⟩
  rw [hq]
  clear HQ hq wq
  have HQ := wantYes pb tE tD [tZ] ⟨#[69, 78, 68]⟩ _ Q0.p.at' (sT_yes hE)
  go_wp2_with fail
  refine HQ.mono ?_
  rintro e w11 ⟨rfl, hA1, hK1⟩
  replace Q0 := Q0.go hK1 hA1
  replace hRU := Fl.Rd.cm (hK1.cm (N := gm + 1) (by have := Q0.h1; omega)) _ _ hRU
  clear HQ hA1 hK1
  have HQ := wantYes pb tD tZ [] ⟨#[46]⟩ _ Q0.p.at' (sT_yes hD)
  go_wp2_with fail
  refine HQ.mono ?_
  rintro e w12 ⟨rfl, hA1, hK1⟩
  replace Q0 := Q0.go hK1 hA1
  replace hRU := Fl.Rd.cm (hK1.cm (N := gm + 1) (by have := Q0.h1; omega)) _ _ hRU
  clear HQ hA1 hK1
  have HQ := takeEnd pb tZ _ Q0.p.at'
  rw [hZ] at HQ
  go_wp2_with fail
  refine HQ.mono ?_
  rintro e w13 ⟨rfl, hK1⟩
  have hg := Q0.g
  have hl := Q0.p.h1
  have x0 := hK1.blk Q0.x (by omega)
  have m0 := hK1.blk Q0.m (by omega)
  have kp := Q0.p.kp.trans hK1
  have hRN := Fl.Rd.cm (fz_kp hK1 (by omega)) _ _ Q0.n
  replace hRU := Fl.Rd.cm (hK1.cm (N := gm + 1) (by have := Q0.h1; omega)) _ _ hRU
  clear HQ hK1
  have RZ : Hid (RdVals (fr (W.heap.size + 1) w13) (Mo.mk tN.text [bu0.text] [] []).fl [.slice aN tN.text.length cN, .slice (some ⟨gu0, 0, none⟩) 1 cu0, .slice none 0 0, .slice none 0 0]) := by
    unfold Mo.fl
    exact ⟨_, _, rfl, Fl.Rd.cm (fz_out (by omega)) _ _ hRN, _, _, rfl, Fl.Rd.cm (cm_mono (by have := Q0.g; omega) _) _ _ hRU, _, _, rfl, rd_noL _ _, _, _, rfl, rd_noL _ _, rfl⟩
  have KZ : Hid _ := kp
  have r0 := m0.cell (i := 0) rfl
  have y0 := x0.cell (i := 0) rfl
  have f0 := x0.free 0
  have r1 := m0.cell (i := 1) rfl
  have y1 := x0.cell (i := 1) rfl
  have f1 := x0.free 1
  have r2 := m0.cell (i := 2) rfl
  have y2 := x0.cell (i := 2) rfl
  have f2 := x0.free 2
  have r3 := m0.cell (i := 3) rfl
  have y3 := x0.cell (i := 3) rfl
  have f3 := x0.free 3
  have b1 := x0.set (i := 0) (.slice aN tN.text.length cN)
  have b2 := b1.set (i := 1) (.slice (some ⟨gu0, 0, none⟩) 1 cu0)
  have b3 := b2.set (i := 2) (.slice none 0 0)
  have b4 : Hid (Blk _ W.heap.size 29 [.slice aN tN.text.length cN, .slice (some ⟨gu0, 0, none⟩) 1 cu0, .slice none 0 0, .slice none 0 0]) := b3.set (i := 3) (.slice none 0 0)
  clear hRN kp Q0 hg hl b1 b2 b3 hRU
  clear x0 m0
  go_wp2_with fail
  have KF := (((KZ.out.far (i := 0) (v := .slice aN tN.text.length cN) (Nat.le_refl _)).far (i := 1) (v := .slice (some ⟨gu0, 0, none⟩) 1 cu0) (Nat.le_refl _)).far (i := 2) (v := .slice none 0 0) (Nat.le_refl _)).far (i := 3) (v := .slice none 0 0) (Nat.le_refl _)
  have l := Nat.lt_succ_self W.heap.size
  have RF := RdVals.cm (cm_mono (Nat.le_succ _) _) (RdVals.cm (cm_set (i := 3) (u := .slice none 0 0) l) (RdVals.cm (cm_set (i := 2) (u := .slice none 0 0) l) (RdVals.cm (cm_set (i := 1) (u := .slice (some ⟨gu0, 0, none⟩) 1 cu0) l) (RdVals.cm (cm_set (i := 0) (u := .slice aN tN.text.length cN) l) RZ.out))))
  have bR := b4.out
  generalize (((w13.setCell ⟨W.heap.size, 0, none⟩ (.slice aN tN.text.length cN)).setCell ⟨W.heap.size, 1, none⟩ (.slice (some ⟨gu0, 0, none⟩) 1 cu0)).setCell ⟨W.heap.size, 2, none⟩ (.slice none 0 0)).setCell ⟨W.heap.size, 3, none⟩ (.slice none 0 0) = wz at *
  have e0 := bR.cell (i := 0) rfl
  have e1 := bR.cell (i := 1) rfl
  have e2 := bR.cell (i := 2) rfl
  have e3 := bR.cell (i := 3) rfl
  refine bodyPost_ret (v := agg [.slice aN tN.text.length cN, .slice (some ⟨gu0, 0, none⟩) 1 cu0, .slice none 0 0, .slice none 0 0]) ?_ rfl ⟨_, rfl, RF, KF⟩
  simp [results, Tryz.results9, go_sem, e0, e1, e2, e3, agg]

set_option maxHeartbeats 16000000 in
theorem mo001 (tM tN tS kp0 bp0 tE tD tZ : Tok) (up0 : List Tok) (xp0 : Pr) (hM : sT tM.text [77, 79, 68, 85, 76, 69] = true) (hN : tN.kind = 4) (hNx : ∀ b ∈ tN.text, 0 ≤ b ∧ b ≤ 255) (hNn : tN.text.length ≤ 3000) (hS : sT tS.text [59] = true) (hkp0 : sT kp0.text [80, 82, 79, 67] = true) (hXp0 : PsP (bp0 :: up0) xp0 (tE :: tD :: [tZ])) (noU : sT kp0.text [73, 77, 80, 79, 82, 84] = false) (noV : sT kp0.text [86, 65, 82] = false) (noP : sT tE.text [80, 82, 79, 67] = false) (hE : sT tE.text [69, 78, 68] = true) (hD : sT tD.text [46] = true) (hZ : tZ.kind = 1) : PsMo (tM :: tN :: tS :: kp0 :: bp0 :: up0) ⟨tN.text, [], [], [xp0]⟩ := by
  intro W0 W pb hT hb hp hA
  have hpl : pb < W.heap.size := by obtain ⟨_, _, _, h1, _⟩ := hA.ex; exact h1.lt
  have x0 := (Blk.new W 29 [.slice none 0 0, .slice none 0 0, .slice none 0 0, .slice none 0 0]).old (o := .cells #[.slice none 0 0, .slice none 0 0, .slice none 0 0, .slice none 0 0] 29 (0, 0))
  have m0 := Blk.new (W.alloc (.cells #[.slice none 0 0, .slice none 0 0, .slice none 0 0, .slice none 0 0] 29 (0, 0))) 29 [.slice none 0 0, .slice none 0 0, .slice none 0 0, .slice none 0 0]
  have g1 := below_grown (grown_alloc W (.cells #[.slice none 0 0, .slice none 0 0, .slice none 0 0, .slice none 0 0] 29 (0, 0)) none)
  have hB9 := g1.trans ((below_grown (grown_alloc (W.alloc (.cells #[.slice none 0 0, .slice none 0 0, .slice none 0 0, .slice none 0 0] 29 (0, 0))) (.cells #[.slice none 0 0, .slice none 0 0, .slice none 0 0, .slice none 0 0] 29 (0, 0)) none)).mono g1.size)
  have P0 : PW W0 W W pb (tM :: tN :: tS :: kp0 :: bp0 :: up0) := ⟨hb, hA, Kp.refl _ _, hpl, hp⟩
  replace P0 := P0.al hB9
  clear hb hA hB9 g1
  rw [World.size_alloc] at m0
  have HQ := wantYes pb tM tN (tS :: kp0 :: bp0 :: up0) ⟨#[77, 79, 68, 85, 76, 69]⟩ _ P0.at' (sT_yes hM)
  go_enter Tryz.func9, Tryz.ntmps9
  go_wp2_with fail
  refine HQ.mono ?_
  rintro e w1 ⟨rfl, hA1, hK1⟩
  replace P0 := P0.go hK1 hA1
  replace x0 := hK1.blk x0 (by omega)
  replace m0 := hK1.blk m0 (by omega)
  clear HQ hA1 hK1
  have hgm : W.heap.size < W.heap.size + 1 := Nat.lt_succ_self _
  obtain ⟨gm, hge⟩ : ∃ gm, W.heap.size + 1 = gm := ⟨_, rfl⟩
  rw [hge] at m0 hgm ⊢
  clear hge
  have HQ := greatYes pb tN tS (kp0 :: bp0 :: up0) _ P0.at' hN hNx hNn
  go_wp2_with fail
  refine HQ.mono ?_
  rintro e w2 ⟨v, rfl, hR, hA1, hK1⟩
  have hs5 : gm + 1 ≤ w1.heap.size := m0.lt
  obtain ⟨aN, cN, rfl, hRS⟩ := hR
  have hRN : (Fl.b tN.text).Rd (fr (gm + 1) w2) (.slice aN tN.text.length cN) := Fl.Rd.cm (cm_mono hs5 _) _ _ ⟨aN, cN, rfl, hRS⟩
  have Q0 : MS W0 W w2 pb gm w2.heap.size tN.text (.slice aN tN.text.length cN) _ _ := ⟨P0.go hK1 hA1, hK1.blk x0 (by omega), hK1.blk m0 (by omega), Fl.Rd.cm fz_in _ _ hRN, hgm, Nat.le_refl _⟩
  have hM9 : gm < w2.heap.size := Q0.m.lt
  clear HQ hA1 hK1 hRS hs5 hRN P0 x0 m0 hgm
  generalize w2.heap.size = M at *
  have r1 := Q0.m.cell (i := 0) rfl
  have r1f := Q0.m.free 0
  go_wp2_with fail
  replace Q0 := Q0.set 0 (.slice aN tN.text.length cN)
  simp only [List.set_cons_succ, List.set_cons_zero] at Q0
  clear r1 r1f
  generalize w2.setCell ⟨gm, 0, none⟩ (.slice aN tN.text.length cN) = w3 at *
  have HQ := wantYes pb tS kp0 (bp0 :: up0) ⟨#[59]⟩ _ Q0.p.at' (sT_yes hS)
  go_wp2_with fail
  refine HQ.mono ?_
  rintro e w4 ⟨rfl, hA1, hK1⟩
  replace Q0 := Q0.go hK1 hA1
  clear HQ hA1 hK1
  go_wp2_with fail
  refine wp_loop_rounds 1 ?_
  have HQ := gotNo pb kp0 (bp0 :: up0) ⟨#[73, 77, 80, 79, 82, 84]⟩ _ Q0.p.at' (sT_no noU)
  rw [rounds_succ]
  go_wp2_with fail
  refine HQ.mono ?_
  rintro e wq ⟨rfl, hq⟩
  rw [hq]
  clear HQ hq wq
  go_wp2_with fail
  refine wp_loop_rounds 1 ?_
  have HQ := gotNo pb kp0 (bp0 :: up0) ⟨#[86, 65, 82]⟩ _ Q0.p.at' (sT_no noV)
  rw [rounds_succ]
  go_wp2_with fail
  refine HQ.mono ?_
  rintro e wq ⟨rfl, hq⟩
  rw [hq]
  clear HQ hq wq
  have G0 := GL.nil w4 w4.heap.size 64 5
  have hNs : w4.heap.size ≤ w4.heap.size := Nat.le_refl _
  have hNM : M ≤ w4.heap.size := Q0.s
  have hNg : gm < w4.heap.size := Q0.m.lt
  obtain ⟨N, hNe⟩ : ∃ N, w4.heap.size = N := ⟨_, rfl⟩
  rw [hNe] at G0 hNM hNg
  replace hNs : N ≤ w4.heap.size := by omega
  clear hNe
  go_wp2_with fail
  refine wp_loop_rounds 2 ?_
  have HQ := gotYes pb kp0 bp0 (up0) ⟨#[80, 82, 79, 67]⟩ _ Q0.p.at' (sT_yes hkp0)
  rw [rounds_succ]
  go_wp2_with fail
  refine HQ.mono ?_
  rintro e w5 ⟨rfl, hA1, hK1⟩
  replace Q0 := Q0.go hK1 hA1
  replace G0 := G0.kp hK1 (by have := Q0.h1; omega)
  replace hNs := Nat.le_trans hNs hK1.size
  clear HQ hA1 hK1
  have HQ := hXp0 W0 w5.drew pb hT Q0.p.bel.drew hp (Q0.p.at'.kp (Below.refl _ _).drew)
  have hq1 := fun q hq => (G0.ty q hq).2.1
  have r1 : w5.drew.cell? ⟨gm, 3, none⟩ = some (.slice none 0 0) := Q0.m.cell (i := 3) rfl
  have hD9 : Kp pb w5 w5.drew := Kp.below (Below.refl _ _).drew
  have hpa : pb < w5.heap.size := by have := Q0.m.lt; have := Q0.h1; omega
  have hNa : N ≤ w5.heap.size := hNs
  go_wp2_with fail
  refine rl 7 (S := fun wl => wl.cell? ⟨gm, 3, none⟩ = some (.slice none 0 0)) (by kernel_rfl) r1 (fun hHeld => ?_)
  refine tl 0 (v := ?v513) rfl (by kernel_rfl) (.inl ⟨by rfl, ?y513⟩) hHeld (fun _ _ _ h => h) ?_
  case y513 => intro w hSw; (try dsimp only at hSw); go_simp; first | done | rfl
  refine tl 1 (v := ?v514) rfl (by kernel_rfl) (.inl ⟨by rfl, ?y514⟩) hHeld (fun _ _ _ h => h) ?_
  case y514 => intro w hSw; (try dsimp only at hSw); go_simp; first | done | rfl
  refine tl 2 (v := ?v515) rfl (by kernel_rfl) (.inl ⟨by rfl, ?y515⟩) hHeld (fun _ _ _ h => h) ?_
  case y515 => intro w hSw; (try dsimp only at hSw); go_simp; first | done | rfl
  try simp only [nrm]
  try simp only [nrm]
  refine dl 3 rfl (by kernel_rfl) (fun K hK => ?_)
  go_simp
  (with_reducible refine HQ.mono ?_)
  rintro e w6 ⟨vs, rfl, hR, hA1, hK9⟩
  obtain ⟨a1, n1, c1, b, a2, n2, c2, a3, n3, c3, a4, n4, c4, rfl⟩ := rdPr hR
  replace hR : RdVals (fr w5.heap.size w6) xp0.fl [.slice a1 n1 c1, .bool b, .slice a2 n2 c2, .slice a3 n3 c3, .slice a4 n4 c4] := hR
  simp only [agg]
  have hK1 := hD9.trans hK9
  replace Q0 := Q0.go hK1 hA1
  replace G0 := G0.kp hK1 (by have := Q0.h1; omega)
  replace hNs := Nat.le_trans hNs hK1.size
  have S4 := Q0.m.cell (i := 3) rfl
  clear HQ hA1 hK9 r1 hD9
  go_wp2_with fail
  refine hK.out _ _ (S4) (fun hHeld => ?_)
  clear hK K
  try simp only [Act.put, List.getElem_toArray, List.getElem_cons_zero, List.getElem_cons_succ, List.setIfInBounds_toArray, List.set_cons_zero, List.set_cons_succ]
  have hB := below_grown (grown_alloc w6 (.cells #[.slice a1 n1 c1, .bool b, .slice a2 n2 c2, .slice a3 n3 c3, .slice a4 n4 c4] 64 (0, 0)) none)
  have xC := Blk.new w6 64 [.slice a1 n1 c1, .bool b, .slice a2 n2 c2, .slice a3 n3 c3, .slice a4 n4 c4]
  have hK2 := Kp.below (pb := pb) hB
  replace hR := RdVals.cm (hK2.cm (N := w5.heap.size) hpa) hR
  replace Q0 := Q0.al hB
  replace G0 := G0.below hB
  replace hNs := Nat.le_trans hNs hB.size
  have S5 := Q0.m.cell (i := 3) rfl
  refine dl 4 rfl (by kernel_rfl) (fun K hK => ?_)
  go_simp
  refine hK.out _ _ (S5) (fun hHeld => ?_)
  clear hK K
  try simp only [Act.put, List.getElem_toArray, List.getElem_cons_zero, List.getElem_cons_succ, List.setIfInBounds_toArray, List.set_cons_zero, List.set_cons_succ]
  clear hB hK1 hK2 S4
  simp only [List.toArray] at xC
  generalize w6.alloc (.cells #[.slice a1 n1 c1, .bool b, .slice a2 n2 c2, .slice a3 n3 c3, .slice a4 n4 c4] 64 (0, 0)) = w7 at *
  generalize w6.heap.size = gx at *
  refine dl 5 rfl (by kernel_rfl) (fun K hK => ?_)
  rw [if_pos (by kernel_rfl)]
  refine wp_appG infoPr Tryz.underlying27 rfl (by decide) (by decide) _ _ rfl (v := .slice none 0 0) rfl G0 rfl xC rfl hR hNa hq1 (by simp) hNs ?_
  intro gp0 cp0 w8 GG hg
  try simp only [List.length_cons, List.length_nil, Nat.zero_add, Nat.reduceAdd, List.cons_append, List.nil_append] at GG ⊢
  replace Q0 := Q0.row hg G0 hNM hNg (by decide) (by decide) (by decide)
  replace hNs := Nat.le_trans hNs hg.size
  have S6 := Q0.m.cell (i := 3) rfl
  clear G0 hg xC hR S5 hq1 hNa hpa
  refine hK.out _ _ (S6) (fun hHeld => ?_)
  clear hK K
  try simp only [Act.put, List.getElem_toArray, List.getElem_cons_zero, List.getElem_cons_succ, List.setIfInBounds_toArray, List.set_cons_zero, List.set_cons_succ]
  refine tl 6 (v := ?v516) rfl (by kernel_rfl) (.inl ⟨by rfl, ?y516⟩) hHeld (fun _ _ _ h => h) ?_
  case y516 => intro w hSw; (try dsimp only at hSw); go_simp; first | done | rfl
  try simp only [nrm]
  have r1 := Q0.m.cell (i := 3) rfl
  have r1f := Q0.m.free 3
  refine el rfl (by kernel_rfl) (by kernel_rfl) (fun K hK => ?_)
  go_simp
  refine hK.out _ _ ?_
  clear hK K hHeld r1 r1f S6
  replace Q0 := Q0.set 3 (.slice (some ⟨gp0, 0, none⟩) 1 cp0)
  have G0 := GG.far (g := gm) (i := 3) (u := .slice (some ⟨gp0, 0, none⟩) 1 cp0) hNg
  replace hNs : N ≤ (w8.setCell ⟨gm, 3, none⟩ (.slice (some ⟨gp0, 0, none⟩) 1 cp0)).heap.size := by simpa using hNs
  clear GG
  simp only [List.set_cons_succ, List.set_cons_zero] at Q0
  generalize w8.setCell ⟨gm, 3, none⟩ (.slice (some ⟨gp0, 0, none⟩) 1 cp0) = w9 at *
  go_wp2_with fail
  have HQ := gotNo pb tE (tD :: [tZ]) ⟨#[80, 82, 79, 67]⟩ _ Q0.p.at' (sT_no noP)
  rw [rounds_succ]
  go_wp2_with fail
  refine HQ.mono ?_
  rintro e wq ⟨rfl, hq⟩
  rw [hq]
  clear HQ hq wq
  have hRP := Fl.Rd.cm (cm_mono (show gm + 1 ≤ N by omega) _) _ _ G0.rd
  clear G0 hNs hNM hNg
  have HQ := wantYes pb tE tD [tZ] ⟨#[69, 78, 68]⟩ _ Q0.p.at' (sT_yes hE)
  go_wp2_with fail
  refine HQ.mono ?_
  rintro e w10 ⟨rfl, hA1, hK1⟩
  replace Q0 := Q0.go hK1 hA1
  replace hRP := Fl.Rd.cm (hK1.cm (N := gm + 1) (by have := Q0.h1; omega)) _ _ hRP
  clear HQ hA1 hK1
  have HQ := wantYes pb tD tZ [] ⟨#[46]⟩ _ Q0.p.at' (sT_yes hD)
  go_wp2_with fail
  refine HQ.mono ?_
  rintro e w11 ⟨rfl, hA1, hK1⟩
  replace Q0 := Q0.go hK1 hA1
  replace hRP := Fl.Rd.cm (hK1.cm (N := gm + 1) (by have := Q0.h1; omega)) _ _ hRP
  clear HQ hA1 hK1
  have HQ := takeEnd pb tZ _ Q0.p.at'
  rw [hZ] at HQ
  go_wp2_with fail
  refine HQ.mono ?_
  rintro e w12 ⟨rfl, hK1⟩
  have hg := Q0.g
  have hl := Q0.p.h1
  have x0 := hK1.blk Q0.x (by omega)
  have m0 := hK1.blk Q0.m (by omega)
  have kp := Q0.p.kp.trans hK1
  have hRN := Fl.Rd.cm (fz_kp hK1 (by omega)) _ _ Q0.n
  replace hRP := Fl.Rd.cm (hK1.cm (N := gm + 1) (by have := Q0.h1; omega)) _ _ hRP
  clear HQ hK1
  have RZ : Hid (RdVals (fr (W.heap.size + 1) w12) (Mo.mk tN.text [] [] [xp0]).fl [.slice aN tN.text.length cN, .slice none 0 0, .slice none 0 0, .slice (some ⟨gp0, 0, none⟩) 1 cp0]) := by
    unfold Mo.fl
    exact ⟨_, _, rfl, Fl.Rd.cm (fz_out (by omega)) _ _ hRN, _, _, rfl, rd_noL _ _, _, _, rfl, rd_noL _ _, _, _, rfl, Fl.Rd.cm (cm_mono (by have := Q0.g; omega) _) _ _ hRP, rfl⟩
  have KZ : Hid _ := kp
  have r0 := m0.cell (i := 0) rfl
  have y0 := x0.cell (i := 0) rfl
  have f0 := x0.free 0
  have r1 := m0.cell (i := 1) rfl
  have y1 := x0.cell (i := 1) rfl
  have f1 := x0.free 1
  have r2 := m0.cell (i := 2) rfl
  have y2 := x0.cell (i := 2) rfl
  have f2 := x0.free 2
  have r3 := m0.cell (i := 3) rfl
  have y3 := x0.cell (i := 3) rfl
  have f3 := x0.free 3
  have b1 := x0.set (i := 0) (.slice aN tN.text.length cN)
  have b2 := b1.set (i := 1) (.slice none 0 0)
  have b3 := b2.set (i := 2) (.slice none 0 0)
  have b4 : Hid (Blk _ W.heap.size 29 [.slice aN tN.text.length cN, .slice none 0 0, .slice none 0 0, .slice (some ⟨gp0, 0, none⟩) 1 cp0]) := b3.set (i := 3) (.slice (some ⟨gp0, 0, none⟩) 1 cp0)
  clear hRN kp Q0 hg hl b1 b2 b3 hRP
  clear x0 m0
  go_wp2_with fail
  have KF := (((KZ.out.far (i := 0) (v := .slice aN tN.text.length cN) (Nat.le_refl _)).far (i := 1) (v := .slice none 0 0) (Nat.le_refl _)).far (i := 2) (v := .slice none 0 0) (Nat.le_refl _)).far (i := 3) (v := .slice (some ⟨gp0, 0, none⟩) 1 cp0) (Nat.le_refl _)
  have l := Nat.lt_succ_self W.heap.size
  have RF := RdVals.cm (cm_mono (Nat.le_succ _) _) (RdVals.cm (cm_set (i := 3) (u := .slice (some ⟨gp0, 0, none⟩) 1 cp0) l) (RdVals.cm (cm_set (i := 2) (u := .slice none 0 0) l) (RdVals.cm (cm_set (i := 1) (u := .slice none 0 0) l) (RdVals.cm (cm_set (i := 0) (u := .slice aN tN.text.length cN) l) RZ.out))))
  have bR := b4.out
  generalize (((w12.setCell ⟨W.heap.size, 0, none⟩ (.slice aN tN.text.length cN)).setCell ⟨W.heap.size, 1, none⟩ (.slice none 0 0)).setCell ⟨W.heap.size, 2, none⟩ (.slice none 0 0)).setCell ⟨W.heap.size, 3, none⟩ (.slice (some ⟨gp0, 0, none⟩) 1 cp0) = wz at *
  have e0 := bR.cell (i := 0) rfl
  have e1 := bR.cell (i := 1) rfl
  have e2 := bR.cell (i := 2) rfl
  have e3 := bR.cell (i := 3) rfl
  refine bodyPost_ret (v := agg [.slice aN tN.text.length cN, .slice none 0 0, .slice none 0 0, .slice (some ⟨gp0, 0, none⟩) 1 cp0]) ?_ rfl ⟨_, rfl, RF, KF⟩
  simp [results, Tryz.results9, go_sem, e0, e1, e2, e3, agg]

set_option maxHeartbeats 16000000 in
theorem mo011 (tM tN tS kv0 bv0 sv0 kp0 bp0 tE tD tZ : Tok) (uv0 up0 : List Tok) (xv0 : Va) (xp0 : Pr) (hM : sT tM.text [77, 79, 68, 85, 76, 69] = true) (hN : tN.kind = 4) (hNx : ∀ b ∈ tN.text, 0 ≤ b ∧ b ≤ 255) (hNn : tN.text.length ≤ 3000) (hS : sT tS.text [59] = true) (hkv0 : sT kv0.text [86, 65, 82] = true) (hXv0 : PsV (bv0 :: uv0) xv0 (sv0 :: kp0 :: bp0 :: up0)) (hsv0 : sT sv0.text [59] = true) (hkp0 : sT kp0.text [80, 82, 79, 67] = true) (hXp0 : PsP (bp0 :: up0) xp0 (tE :: tD :: [tZ])) (noU : sT kv0.text [73, 77, 80, 79, 82, 84] = false) (noV : sT kp0.text [86, 65, 82] = false) (noP : sT tE.text [80, 82, 79, 67] = false) (hE : sT tE.text [69, 78, 68] = true) (hD : sT tD.text [46] = true) (hZ : tZ.kind = 1) : PsMo (tM :: tN :: tS :: kv0 :: bv0 :: uv0) ⟨tN.text, [], [xv0], [xp0]⟩ := by
  intro W0 W pb hT hb hp hA
  have hpl : pb < W.heap.size := by obtain ⟨_, _, _, h1, _⟩ := hA.ex; exact h1.lt
  have x0 := (Blk.new W 29 [.slice none 0 0, .slice none 0 0, .slice none 0 0, .slice none 0 0]).old (o := .cells #[.slice none 0 0, .slice none 0 0, .slice none 0 0, .slice none 0 0] 29 (0, 0))
  have m0 := Blk.new (W.alloc (.cells #[.slice none 0 0, .slice none 0 0, .slice none 0 0, .slice none 0 0] 29 (0, 0))) 29 [.slice none 0 0, .slice none 0 0, .slice none 0 0, .slice none 0 0]
  have g1 := below_grown (grown_alloc W (.cells #[.slice none 0 0, .slice none 0 0, .slice none 0 0, .slice none 0 0] 29 (0, 0)) none)
  have hB9 := g1.trans ((below_grown (grown_alloc (W.alloc (.cells #[.slice none 0 0, .slice none 0 0, .slice none 0 0, .slice none 0 0] 29 (0, 0))) (.cells #[.slice none 0 0, .slice none 0 0, .slice none 0 0, .slice none 0 0] 29 (0, 0)) none)).mono g1.size)
  have P0 : PW W0 W W pb (tM :: tN :: tS :: kv0 :: bv0 :: uv0) := ⟨hb, hA, Kp.refl _ _, hpl, hp⟩
  replace P0 := P0.al hB9
  clear hb hA hB9 g1
  rw [World.size_alloc] at m0
  have HQ := wantYes pb tM tN (tS :: kv0 :: bv0 :: uv0) ⟨#[77, 79, 68, 85, 76, 69]⟩ _ P0.at' (sT_yes hM)
  go_enter Tryz.func9, Tryz.ntmps9
  go_wp2_with fail
  refine HQ.mono ?_
  rintro e w1 ⟨rfl, hA1, hK1⟩
  replace P0 := P0.go hK1 hA1
  replace x0 := hK1.blk x0 (by omega)
  replace m0 := hK1.blk m0 (by omega)
  clear HQ hA1 hK1
  have hgm : W.heap.size < W.heap.size + 1 := Nat.lt_succ_self _
  obtain ⟨gm, hge⟩ : ∃ gm, W.heap.size + 1 = gm := ⟨_, rfl⟩
  rw [hge] at m0 hgm ⊢
  clear hge
  have HQ := greatYes pb tN tS (kv0 :: bv0 :: uv0) _ P0.at' hN hNx hNn
  go_wp2_with fail
  refine HQ.mono ?_
  rintro e w2 ⟨v, rfl, hR, hA1, hK1⟩
  have hs5 : gm + 1 ≤ w1.heap.size := m0.lt
  obtain ⟨aN, cN, rfl, hRS⟩ := hR
  have hRN : (Fl.b tN.text).Rd (fr (gm + 1) w2) (.slice aN tN.text.length cN) := Fl.Rd.cm (cm_mono hs5 _) _ _ ⟨aN, cN, rfl, hRS⟩
  have Q0 : MS W0 W w2 pb gm w2.heap.size tN.text (.slice aN tN.text.length cN) _ _ := ⟨P0.go hK1 hA1, hK1.blk x0 (by omega), hK1.blk m0 (by omega), Fl.Rd.cm fz_in _ _ hRN, hgm, Nat.le_refl _⟩
  have hM9 : gm < w2.heap.size := Q0.m.lt
  clear HQ hA1 hK1 hRS hs5 hRN P0 x0 m0 hgm
  generalize w2.heap.size = M at *
  have r1 := Q0.m.cell (i := 0) rfl
  have r1f := Q0.m.free 0
  go_wp2_with fail
  replace Q0 := Q0.set 0 (.slice aN tN.text.length cN)
  simp only [List.set_cons_succ, List.set_cons_zero] at Q0
  clear r1 r1f
  generalize w2.setCell ⟨gm, 0, none⟩ (.slice aN tN.text.length cN) = w3 at *
  have HQ := wantYes pb tS kv0 (bv0 :: uv0) ⟨#[59]⟩ _ Q0.p.at' (sT_yes hS)
  go_wp2_with fail
  refine HQ.mono ?_
  rintro e w4 ⟨rfl, hA1, hK1⟩
  replace Q0 := Q0.go hK1 hA1
  clear HQ hA1 hK1
  go_wp2_with fail
  refine wp_loop_rounds 1 ?_
  have HQ := gotNo pb kv0 (bv0 :: uv0) ⟨#[73, 77, 80, 79, 82, 84]⟩ _ Q0.p.at' (sT_no noU)
  rw [rounds_succ]
  go_wp2_with fail
  refine HQ.mono ?_
  rintro e wq ⟨rfl, hq⟩
  rw [hq]
  clear HQ hq wq
  have G0 := GL.nil w4 w4.heap.size 59 2
  have hNs : w4.heap.size ≤ w4.heap.size := Nat.le_refl _
  have hNM : M ≤ w4.heap.size := Q0.s
  have hNg : gm < w4.heap.size := Q0.m.lt
  obtain ⟨N, hNe⟩ : ∃ N, w4.heap.size = N := ⟨_, rfl⟩
  rw [hNe] at G0 hNM hNg
  replace hNs : N ≤ w4.heap.size := by omega
  clear hNe
  go_wp2_with fail
  refine wp_loop_rounds 2 ?_
  have HQ := gotYes pb kv0 bv0 (uv0) ⟨#[86, 65, 82]⟩ _ Q0.p.at' (sT_yes hkv0)
  rw [rounds_succ]
  go_wp2_with fail
  refine HQ.mono ?_
  rintro e w5 ⟨rfl, hA1, hK1⟩
  replace Q0 := Q0.go hK1 hA1
  replace G0 := G0.kp hK1 (by have := Q0.h1; omega)
  replace hNs := Nat.le_trans hNs hK1.size
  clear HQ hA1 hK1
  have HQ := hXv0 W0 w5.drew pb hT Q0.p.bel.drew hp (Q0.p.at'.kp (Below.refl _ _).drew)
  have hq1 := fun q hq => (G0.ty q hq).2.1
  have r1 : w5.drew.cell? ⟨gm, 2, none⟩ = some (.slice none 0 0) := Q0.m.cell (i := 2) rfl
  have hD9 : Kp pb w5 w5.drew := Kp.below (Below.refl _ _).drew
  have hpa : pb < w5.heap.size := by have := Q0.m.lt; have := Q0.h1; omega
  have hNa : N ≤ w5.heap.size := hNs
  go_wp2_with fail
  refine rl 7 (S := fun wl => wl.cell? ⟨gm, 2, none⟩ = some (.slice none 0 0)) (by kernel_rfl) r1 (fun hHeld => ?_)
  refine tl 0 (v := ?v517) rfl (by kernel_rfl) (.inl ⟨by rfl, ?y517⟩) hHeld (fun _ _ _ h => h) ?_
  case y517 => intro w hSw; (try dsimp only at hSw); go_simp; first | done | rfl
  refine tl 1 (v := ?v518) rfl (by kernel_rfl) (.inl ⟨by rfl, ?y518⟩) hHeld (fun _ _ _ h => h) ?_
  case y518 => intro w hSw; (try dsimp only at hSw); go_simp; first | done | rfl
  refine tl 2 (v := ?v519) rfl (by kernel_rfl) (.inl ⟨by rfl, ?y519⟩) hHeld (fun _ _ _ h => h) ?_
  case y519 => intro w hSw; (try dsimp only at hSw); go_simp; first | done | rfl
  try simp only [nrm]
  try simp only [nrm]
  refine dl 3 rfl (by kernel_rfl) (fun K hK => ?_)
  go_simp
  (with_reducible refine HQ.mono ?_)
  rintro e w6 ⟨vs, rfl, hR, hA1, hK9⟩
  obtain ⟨a1, n1, c1, k, rfl⟩ := rdVa hR
  replace hR : RdVals (fr w5.heap.size w6) xv0.fl [.slice a1 n1 c1, .int .i64 k] := hR
  simp only [agg]
  have hK1 := hD9.trans hK9
  replace Q0 := Q0.go hK1 hA1
  replace G0 := G0.kp hK1 (by have := Q0.h1; omega)
  replace hNs := Nat.le_trans hNs hK1.size
  have S4 := Q0.m.cell (i := 2) rfl
  clear HQ hA1 hK9 r1 hD9
  go_wp2_with fail
  refine hK.out _ _ (S4) (fun hHeld => ?_)
  clear hK K
  try simp only [Act.put, List.getElem_toArray, List.getElem_cons_zero, List.getElem_cons_succ, List.setIfInBounds_toArray, List.set_cons_zero, List.set_cons_succ]
  have hB := below_grown (grown_alloc w6 (.cells #[.slice a1 n1 c1, .int .i64 k] 59 (0, 0)) none)
  have xC := Blk.new w6 59 [.slice a1 n1 c1, .int .i64 k]
  have hK2 := Kp.below (pb := pb) hB
  replace hR := RdVals.cm (hK2.cm (N := w5.heap.size) hpa) hR
  replace Q0 := Q0.al hB
  replace G0 := G0.below hB
  replace hNs := Nat.le_trans hNs hB.size
  have S5 := Q0.m.cell (i := 2) rfl
  refine dl 4 rfl (by kernel_rfl) (fun K hK => ?_)
  go_simp
  refine hK.out _ _ (S5) (fun hHeld => ?_)
  clear hK K
  try simp only [Act.put, List.getElem_toArray, List.getElem_cons_zero, List.getElem_cons_succ, List.setIfInBounds_toArray, List.set_cons_zero, List.set_cons_succ]
  clear hB hK1 hK2 S4
  simp only [List.toArray] at xC
  generalize w6.alloc (.cells #[.slice a1 n1 c1, .int .i64 k] 59 (0, 0)) = w7 at *
  generalize w6.heap.size = gx at *
  refine dl 5 rfl (by kernel_rfl) (fun K hK => ?_)
  rw [if_pos (by kernel_rfl)]
  refine wp_appG infoVa Tryz.underlying26 rfl (by decide) (by decide) _ _ rfl (v := .slice none 0 0) rfl G0 rfl xC rfl hR hNa hq1 (by simp) hNs ?_
  intro gv0 cv0 w8 GG hg
  try simp only [List.length_cons, List.length_nil, Nat.zero_add, Nat.reduceAdd, List.cons_append, List.nil_append] at GG ⊢
  replace Q0 := Q0.row hg G0 hNM hNg (by decide) (by decide) (by decide)
  replace hNs := Nat.le_trans hNs hg.size
  have S6 := Q0.m.cell (i := 2) rfl
  clear G0 hg xC hR S5 hq1 hNa hpa
  refine hK.out _ _ (S6) (fun hHeld => ?_)
  clear hK K
  try simp only [Act.put, List.getElem_toArray, List.getElem_cons_zero, List.getElem_cons_succ, List.setIfInBounds_toArray, List.set_cons_zero, List.set_cons_succ]
  refine tl 6 (v := ?v520) rfl (by kernel_rfl) (.inl ⟨by rfl, ?y520⟩) hHeld (fun _ _ _ h => h) ?_
  case y520 => intro w hSw; (try dsimp only at hSw); go_simp; first | done | rfl
  try simp only [nrm]
  have r1 := Q0.m.cell (i := 2) rfl
  have r1f := Q0.m.free 2
  refine el rfl (by kernel_rfl) (by kernel_rfl) (fun K hK => ?_)
  go_simp
  refine hK.out _ _ ?_
  clear hK K hHeld r1 r1f S6
  replace Q0 := Q0.set 2 (.slice (some ⟨gv0, 0, none⟩) 1 cv0)
  have G0 := GG.far (g := gm) (i := 2) (u := .slice (some ⟨gv0, 0, none⟩) 1 cv0) hNg
  replace hNs : N ≤ (w8.setCell ⟨gm, 2, none⟩ (.slice (some ⟨gv0, 0, none⟩) 1 cv0)).heap.size := by simpa using hNs
  clear GG
  simp only [List.set_cons_succ, List.set_cons_zero] at Q0
  generalize w8.setCell ⟨gm, 2, none⟩ (.slice (some ⟨gv0, 0, none⟩) 1 cv0) = w9 at *
  have HQ := wantYes pb sv0 kp0 (bp0 :: up0) ⟨#[59]⟩ _ Q0.p.at' (sT_yes hsv0)
  go_wp2_with fail
  refine HQ.mono ?_
  rintro e w10 ⟨rfl, hA1, hK1⟩
  replace Q0 := Q0.go hK1 hA1
  replace G0 := G0.kp hK1 (by have := Q0.h1; omega)
  replace hNs := Nat.le_trans hNs hK1.size
  clear HQ hA1 hK1
  go_wp2_with fail
  have HQ := gotNo pb kp0 (bp0 :: up0) ⟨#[86, 65, 82]⟩ _ Q0.p.at' (sT_no noV)
  rw [rounds_succ]
  go_wp2_with fail
  refine HQ.mono ?_
  rintro e wq ⟨rfl, hq⟩
  rw [hq]
  clear HQ hq wq
  have hRV := Fl.Rd.cm (cm_mono (show gm + 1 ≤ N by omega) _) _ _ G0.rd
  clear G0 hNs hNM hNg
  have G0 := GL.nil w10 w10.heap.size 64 5
  have hNs : w10.heap.size ≤ w10.heap.size := Nat.le_refl _
  have hNM : M ≤ w10.heap.size := Q0.s
  have hNg : gm < w10.heap.size := Q0.m.lt
  obtain ⟨N, hNe⟩ : ∃ N, w10.heap.size = N := ⟨_, rfl⟩
  rw [hNe] at G0 hNM hNg
  replace hNs : N ≤ w10.heap.size := by omega
  clear hNe
  go_wp2_with fail
  refine wp_loop_rounds 2 ?_
  have HQ := gotYes pb kp0 bp0 (up0) ⟨#[80, 82, 79, 67]⟩ _ Q0.p.at' (sT_yes hkp0)
  rw [rounds_succ]
  go_wp2_with fail
  refine HQ.mono ?_
  rintro e w11 ⟨rfl, hA1, hK1⟩
  replace Q0 := Q0.go hK1 hA1
  replace G0 := G0.kp hK1 (by have := Q0.h1; omega)
  replace hNs := Nat.le_trans hNs hK1.size
  replace hRV := Fl.Rd.cm (hK1.cm (N := gm + 1) (by have := Q0.h1; omega)) _ _ hRV
  clear HQ hA1 hK1
  have HQ := hXp0 W0 w11.drew pb hT Q0.p.bel.drew hp (Q0.p.at'.kp (Below.refl _ _).drew)
  have hq1 := fun q hq => (G0.ty q hq).2.1
  have r1 : w11.drew.cell? ⟨gm, 3, none⟩ = some (.slice none 0 0) := Q0.m.cell (i := 3) rfl
  have hD9 : Kp pb w11 w11.drew := Kp.below (Below.refl _ _).drew
  have hpa : pb < w11.heap.size := by have := Q0.m.lt; have := Q0.h1; omega
  have hNa : N ≤ w11.heap.size := hNs
  go_wp2_with fail
  refine rl 7 (S := fun wl => wl.cell? ⟨gm, 3, none⟩ = some (.slice none 0 0)) (by kernel_rfl) r1 (fun hHeld => ?_)
  refine tl 0 (v := ?v521) rfl (by kernel_rfl) (.inl ⟨by rfl, ?y521⟩) hHeld (fun _ _ _ h => h) ?_
  case y521 => intro w hSw; (try dsimp only at hSw); go_simp; first | done | rfl
  refine tl 1 (v := ?v522) rfl (by kernel_rfl) (.inl ⟨by rfl, ?y522⟩) hHeld (fun _ _ _ h => h) ?_
  case y522 => intro w hSw; (try dsimp only at hSw); go_simp; first | done | rfl
  refine tl 2 (v := ?v523) rfl (by kernel_rfl) (.inl ⟨by rfl, ?y523⟩) hHeld (fun _ _ _ h => h) ?_
  case y523 => intro w hSw; (try dsimp only at hSw); go_simp; first | done | rfl
  try simp only [nrm]
  try simp only [nrm]
  refine dl 3 rfl (by kernel_rfl) (fun K hK => ?_)
  go_simp
  (with_reducible refine HQ.mono ?_)
  rintro e w12 ⟨vs, rfl, hR, hA1, hK9⟩
  obtain ⟨a1, n1, c1, b, a2, n2, c2, a3, n3, c3, a4, n4, c4, rfl⟩ := rdPr hR
  replace hR : RdVals (fr w11.heap.size w12) xp0.fl [.slice a1 n1 c1, .bool b, .slice a2 n2 c2, .slice a3 n3 c3, .slice a4 n4 c4] := hR
  simp only [agg]
  have hK1 := hD9.trans hK9
  replace Q0 := Q0.go hK1 hA1
  replace G0 := G0.kp hK1 (by have := Q0.h1; omega)
  replace hNs := Nat.le_trans hNs hK1.size
  replace hRV := Fl.Rd.cm (hK1.cm (N := gm + 1) (by have := Q0.h1; omega)) _ _ hRV
  have S4 := Q0.m.cell (i := 3) rfl
  clear HQ hA1 hK9 r1 hD9
  go_wp2_with fail
  refine hK.out _ _ (S4) (fun hHeld => ?_)
  clear hK K
  try simp only [Act.put, List.getElem_toArray, List.getElem_cons_zero, List.getElem_cons_succ, List.setIfInBounds_toArray, List.set_cons_zero, List.set_cons_succ]
  have hB := below_grown (grown_alloc w12 (.cells #[.slice a1 n1 c1, .bool b, .slice a2 n2 c2, .slice a3 n3 c3, .slice a4 n4 c4] 64 (0, 0)) none)
  have xC := Blk.new w12 64 [.slice a1 n1 c1, .bool b, .slice a2 n2 c2, .slice a3 n3 c3, .slice a4 n4 c4]
  have hK2 := Kp.below (pb := pb) hB
  replace hR := RdVals.cm (hK2.cm (N := w11.heap.size) hpa) hR
  replace Q0 := Q0.al hB
  replace G0 := G0.below hB
  replace hNs := Nat.le_trans hNs hB.size
  replace hRV := Fl.Rd.cm (hK2.cm (N := gm + 1) (by have := Q0.h1; omega)) _ _ hRV
  have S5 := Q0.m.cell (i := 3) rfl
  refine dl 4 rfl (by kernel_rfl) (fun K hK => ?_)
  go_simp
  refine hK.out _ _ (S5) (fun hHeld => ?_)
  clear hK K
  try simp only [Act.put, List.getElem_toArray, List.getElem_cons_zero, List.getElem_cons_succ, List.setIfInBounds_toArray, List.set_cons_zero, List.set_cons_succ]
  clear hB hK1 hK2 S4
  simp only [List.toArray] at xC
  generalize w12.alloc (.cells #[.slice a1 n1 c1, .bool b, .slice a2 n2 c2, .slice a3 n3 c3, .slice a4 n4 c4] 64 (0, 0)) = w13 at *
  generalize w12.heap.size = gx at *
  refine dl 5 rfl (by kernel_rfl) (fun K hK => ?_)
  rw [if_pos (by kernel_rfl)]
  refine wp_appG infoPr Tryz.underlying27 rfl (by decide) (by decide) _ _ rfl (v := .slice none 0 0) rfl G0 rfl xC rfl hR hNa hq1 (by simp) hNs ?_
  intro gp0 cp0 w14 GG hg
  try simp only [List.length_cons, List.length_nil, Nat.zero_add, Nat.reduceAdd, List.cons_append, List.nil_append] at GG ⊢
  replace Q0 := Q0.row hg G0 hNM hNg (by decide) (by decide) (by decide)
  replace hNs := Nat.le_trans hNs hg.size
  replace hRV := Fl.Rd.cm ((Kp.below (pb := pb) (below_grown hg)).cm (N := gm + 1) (by have := Q0.h1; omega)) _ _ hRV
  have S6 := Q0.m.cell (i := 3) rfl
  clear G0 hg xC hR S5 hq1 hNa hpa
  refine hK.out _ _ (S6) (fun hHeld => ?_)
  clear hK K
  try simp only [Act.put, List.getElem_toArray, List.getElem_cons_zero, List.getElem_cons_succ, List.setIfInBounds_toArray, List.set_cons_zero, List.set_cons_succ]
  refine tl 6 (v := ?v524) rfl (by kernel_rfl) (.inl ⟨by rfl, ?y524⟩) hHeld (fun _ _ _ h => h) ?_
  case y524 => intro w hSw; (try dsimp only at hSw); go_simp; first | done | rfl
  try simp only [nrm]
  have r1 := Q0.m.cell (i := 3) rfl
  have r1f := Q0.m.free 3
  refine el rfl (by kernel_rfl) (by kernel_rfl) (fun K hK => ?_)
  go_simp
  refine hK.out _ _ ?_
  clear hK K hHeld r1 r1f S6
  replace Q0 := Q0.set 3 (.slice (some ⟨gp0, 0, none⟩) 1 cp0)
  have G0 := GG.far (g := gm) (i := 3) (u := .slice (some ⟨gp0, 0, none⟩) 1 cp0) hNg
  replace hNs : N ≤ (w14.setCell ⟨gm, 3, none⟩ (.slice (some ⟨gp0, 0, none⟩) 1 cp0)).heap.size := by simpa using hNs
  replace hRV := Fl.Rd.cm (cm_set (g := gm) (i := 3) (u := .slice (some ⟨gp0, 0, none⟩) 1 cp0) (Nat.lt_succ_self gm)) _ _ hRV
  clear GG
  simp only [List.set_cons_succ, List.set_cons_zero] at Q0
  generalize w14.setCell ⟨gm, 3, none⟩ (.slice (some ⟨gp0, 0, none⟩) 1 cp0) = w15 at *
  go_wp2_with fail
  have HQ := gotNo pb tE (tD :: [tZ]) ⟨#[80, 82, 79, 67]⟩ _ Q0.p.at' (sT_no noP)
  rw [rounds_succ]
  go_wp2_with fail
  refine HQ.mono ?_
  rintro e wq ⟨rfl, hq⟩
  rw [hq]
  clear HQ hq wq
  have hRP := Fl.Rd.cm (cm_mono (show gm + 1 ≤ N by omega) _) _ _ G0.rd
  clear G0 hNs hNM hNg
  have HQ := wantYes pb tE tD [tZ] ⟨#[69, 78, 68]⟩ _ Q0.p.at' (sT_yes hE)
  go_wp2_with fail
  refine HQ.mono ?_
  rintro e w16 ⟨rfl, hA1, hK1⟩
  replace Q0 := Q0.go hK1 hA1
  replace hRV := Fl.Rd.cm (hK1.cm (N := gm + 1) (by have := Q0.h1; omega)) _ _ hRV
  replace hRP := Fl.Rd.cm (hK1.cm (N := gm + 1) (by have := Q0.h1; omega)) _ _ hRP
  clear HQ hA1 hK1
  have HQ := wantYes pb tD tZ [] ⟨#[46]⟩ _ Q0.p.at' (sT_yes hD)
  go_wp2_with fail
  refine HQ.mono ?_
  rintro e w17 ⟨rfl, hA1, hK1⟩
  replace Q0 := Q0.go hK1 hA1
  replace hRV := Fl.Rd.cm (hK1.cm (N := gm + 1) (by have := Q0.h1; omega)) _ _ hRV
  replace hRP := Fl.Rd.cm (hK1.cm (N := gm + 1) (by have := Q0.h1; omega)) _ _ hRP
  clear HQ hA1 hK1
  have HQ := takeEnd pb tZ _ Q0.p.at'
  rw [hZ] at HQ
  go_wp2_with fail
  refine HQ.mono ?_
  rintro e w18 ⟨rfl, hK1⟩
  have hg := Q0.g
  have hl := Q0.p.h1
  have x0 := hK1.blk Q0.x (by omega)
  have m0 := hK1.blk Q0.m (by omega)
  have kp := Q0.p.kp.trans hK1
  have hRN := Fl.Rd.cm (fz_kp hK1 (by omega)) _ _ Q0.n
  replace hRV := Fl.Rd.cm (hK1.cm (N := gm + 1) (by have := Q0.h1; omega)) _ _ hRV
  replace hRP := Fl.Rd.cm (hK1.cm (N := gm + 1) (by have := Q0.h1; omega)) _ _ hRP
  clear HQ hK1
  have RZ : Hid (RdVals (fr (W.heap.size + 1) w18) (Mo.mk tN.text [] [xv0] [xp0]).fl [.slice aN tN.text.length cN, .slice none 0 0, .slice (some ⟨gv0, 0, none⟩) 1 cv0, .slice (some ⟨gp0, 0, none⟩) 1 cp0]) := by
    unfold Mo.fl
    exact ⟨_, _, rfl, Fl.Rd.cm (fz_out (by omega)) _ _ hRN, _, _, rfl, rd_noL _ _, _, _, rfl, Fl.Rd.cm (cm_mono (by have := Q0.g; omega) _) _ _ hRV, _, _, rfl, Fl.Rd.cm (cm_mono (by have := Q0.g; omega) _) _ _ hRP, rfl⟩
  have KZ : Hid _ := kp
  have r0 := m0.cell (i := 0) rfl
  have y0 := x0.cell (i := 0) rfl
  have f0 := x0.free 0
  have r1 := m0.cell (i := 1) rfl
  have y1 := x0.cell (i := 1) rfl
  have f1 := x0.free 1
  have r2 := m0.cell (i := 2) rfl
  have y2 := x0.cell (i := 2) rfl
  have f2 := x0.free 2
  have r3 := m0.cell (i := 3) rfl
  have y3 := x0.cell (i := 3) rfl
  have f3 := x0.free 3
  have b1 := x0.set (i := 0) (.slice aN tN.text.length cN)
  have b2 := b1.set (i := 1) (.slice none 0 0)
  have b3 := b2.set (i := 2) (.slice (some ⟨gv0, 0, none⟩) 1 cv0)
  have b4 : Hid (Blk _ W.heap.size 29 [.slice aN tN.text.length cN, .slice none 0 0, .slice (some ⟨gv0, 0, none⟩) 1 cv0, .slice (some ⟨gp0, 0, none⟩) 1 cp0]) := b3.set (i := 3) (.slice (some ⟨gp0, 0, none⟩) 1 cp0)
  clear hRN kp Q0 hg hl b1 b2 b3 hRV hRP
  clear x0 m0
  go_wp2_with fail
  have KF := (((KZ.out.far (i := 0) (v := .slice aN tN.text.length cN) (Nat.le_refl _)).far (i := 1) (v := .slice none 0 0) (Nat.le_refl _)).far (i := 2) (v := .slice (some ⟨gv0, 0, none⟩) 1 cv0) (Nat.le_refl _)).far (i := 3) (v := .slice (some ⟨gp0, 0, none⟩) 1 cp0) (Nat.le_refl _)
  have l := Nat.lt_succ_self W.heap.size
  have RF := RdVals.cm (cm_mono (Nat.le_succ _) _) (RdVals.cm (cm_set (i := 3) (u := .slice (some ⟨gp0, 0, none⟩) 1 cp0) l) (RdVals.cm (cm_set (i := 2) (u := .slice (some ⟨gv0, 0, none⟩) 1 cv0) l) (RdVals.cm (cm_set (i := 1) (u := .slice none 0 0) l) (RdVals.cm (cm_set (i := 0) (u := .slice aN tN.text.length cN) l) RZ.out))))
  have bR := b4.out
  generalize (((w18.setCell ⟨W.heap.size, 0, none⟩ (.slice aN tN.text.length cN)).setCell ⟨W.heap.size, 1, none⟩ (.slice none 0 0)).setCell ⟨W.heap.size, 2, none⟩ (.slice (some ⟨gv0, 0, none⟩) 1 cv0)).setCell ⟨W.heap.size, 3, none⟩ (.slice (some ⟨gp0, 0, none⟩) 1 cp0) = wz at *
  have e0 := bR.cell (i := 0) rfl
  have e1 := bR.cell (i := 1) rfl
  have e2 := bR.cell (i := 2) rfl
  have e3 := bR.cell (i := 3) rfl
  refine bodyPost_ret (v := agg [.slice aN tN.text.length cN, .slice none 0 0, .slice (some ⟨gv0, 0, none⟩) 1 cv0, .slice (some ⟨gp0, 0, none⟩) 1 cp0]) ?_ rfl ⟨_, rfl, RF, KF⟩
  simp [results, Tryz.results9, go_sem, e0, e1, e2, e3, agg]

end Go.Proofs.YtajnfknldofjlaaGreatDoor

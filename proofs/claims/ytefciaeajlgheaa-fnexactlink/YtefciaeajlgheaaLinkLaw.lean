/- The law of Link returns true at every argument, and writes nothing that was there. -/
import Derived.Test.YtefciaeajlgheaaLkSpec
import Derived.Test.YtefciaeajlgheaaLkImpl
import Derived.Test.YtefciaeajlgheaaLkMark
import Derived.Test.YtefciaeajlgheaaTreeEq
import Derived.Test.YtefciaeajlgheaaLinkOpen
namespace Go.Proofs.Ytefciaeajlgheaa
open Go.RowKit
set_option linter.unusedVariables false
set_option linter.unusedSimpArgs false
set_option maxRecDepth 100000

theorem lk_small {fm : Int} {l : List Oj} {ig : Ig} {c : Int} (h : Lk fm l ig c) : (∀ r ∈ ig.mods, r.code.length ≤ 9000) ∧ ig.mods.length ≤ 8 ∧ ig.words.length ≤ 2264 := by
  have zz : (∀ r ∈ zeroIg.mods, r.code.length ≤ 9000) ∧ zeroIg.mods.length ≤ 8 ∧ zeroIg.words.length ≤ 2264 := ⟨by simp [zeroIg], by simp [zeroIg], by simp [zeroIg]⟩
  cases h with
  | form _ => exact zz
  | name _ _ => exact zz
  | missing _ _ _ => exact zz
  | main _ _ _ _ => exact zz
  | well x hf hu hg hx =>
    refine ⟨?_, by show (modsTo l l.length).length ≤ 8; rw [mods_len]; exact hf.1.2, ?_⟩
    · have : ∀ j, j ≤ l.length → ∀ r ∈ modsTo l j, r.code.length ≤ 9000 := by
        intro j
        induction j with
        | zero => intro _ r hr; simp [modsTo] at hr
        | succ j ih =>
          intro hj r hr
          rw [modsTo, List.mem_append] at hr
          rcases hr with hr | hr
          · exact ih (by omega) r hr
          · rw [List.mem_singleton] at hr
            subst hr
            have ho : l[j]? = some (l[j]'(by omega)) := List.getElem?_eq_getElem _
            show (ojAt l j).code.length ≤ 9000
            rw [ojAt_some ho]
            exact (objOk_parts (hf.2 _ (List.getElem_mem _))).2.2.2.2.1
      exact this l.length (Nat.le_refl _)
    · have := wordsTo_len l (fun o ho => by have := objOk_parts (hf.2 o ho); omega) l.length (Nat.le_refl _)
      have := hf.1.2
      show (wordsTo l l.length).length ≤ 2264
      omega
theorem rwt_le (l : List (Value × Rg)) (h : ∀ r ∈ l.map (fun x => x.2), r.code.length ≤ 9000) : rwt l ≤ l.length * 9003 := by
  induction l with
  | nil => simp [rwt]
  | cons x l ih =>
    have h1 := ih (fun r hr => h r (by simp at hr ⊢; exact .inr hr))
    have h2 := h x.2 (by simp)
    simp only [rwt, Rg.wt, List.length_cons]
    omega

/-- What the law's walk holds: the specification's answer and the program's. -/
structure LL (W4 W : World) (gw gg s6 : Nat) (mw ww mg wg : Value) (s : Int) (l : List (Value × Rg)) (ws : List Wo) : Prop where
  y : Below W4.heap.size W4 W
  cW : Blk W gw 27 [mw, ww, .int .i64 s]
  cG : Blk W gg 27 [mg, wg, .int .i64 s]
  g : Im W s6 gg gg mg wg l ws
theorem LL.step {W4 W W' : World} {gw gg s6 : Nat} {mw ww mg wg : Value} {s : Int} {l : List (Value × Rg)} {ws : List Wo} (h : LL W4 W gw gg s6 mw ww mg wg s l ws) (b : Below W.heap.size W W') : LL W4 W' gw gg s6 mw ww mg wg s l ws :=
  ⟨h.y.trans (b.mono h.y.size), h.cW.below b h.cW.lt, h.cG.below b h.cG.lt, h.g.below b⟩
theorem LL.out {W4 W W' : World} {gw gg s6 lo hi : Nat} {mw ww mg wg : Value} {s : Int} {l l' : List (Value × Rg)} {ws ws' : List Wo} (h : LL W4 W gw gg s6 mw ww mg wg s l ws) (o : Out lo hi W W') (h2 : gw < lo) (h3 : hi ≤ gg) (h4 : W4.heap.size ≤ lo) (hg : Im W' s6 gg gg mg wg l' ws') : LL W4 W' gw gg s6 mw ww mg wg s l' ws' :=
  ⟨h.y.trans ⟨o.os, o.tape, o.output, o.size, fun k hk => o.block k (Nat.lt_of_lt_of_le hk h.y.size) (.inl (by omega))⟩, o.blk h.cW (.inl h2), o.blk h.cG (.inr h3), hg⟩

set_option maxHeartbeats 16000000 in
theorem link_walk (l : List Oj) (v : Value) (w : World) (h : (Fl.l 5 (l.map Oj.fl)).Rd w v) :
    Calls Try.prog 3 #[v] w fun e w' => e = .returned (.bool true) ∧ Below w.heap.size w w' := by
  have H1 := szOjs l w v h w 1048576 (Below.refl _ _) (by omega) (by omega)
  have Hh : Hid ((Fl.l 5 (l.map Oj.fl)).Rd w v) := h
  obtain ⟨av, cv, rfl, _⟩ := h.list
  rw [List.length_map] at *
  have hNl : (Fl.l 5 (l.map Oj.fl)).len = (l.map Oj.fl).length + rowsLen (l.map Oj.fl) := by simp [Fl.len]
  rw [hNl] at H1
  generalize hN0 : (l.map Oj.fl).length + rowsLen (l.map Oj.fl) = Nn at H1
  clear h
  by_cases hs : (Nn : Int) ≤ 1048576
  · rw [szL_yes hs] at H1
    have hneg : ¬ ((1048576 : Int) - (Nn : Int) < 0) := by omega
    have hsz : Hid ((l.map Oj.fl).length + rowsLen (l.map Oj.fl) ≤ 1048576) := by show _ ≤ _; omega
    have hll : l.length ≤ 1048576 := by have := hsz.out; rw [List.length_map] at this; omega
    have HSO : Hid (∀ o ∈ l, recLen o.fl ≤ 1048576) := fun o ho => by have := rec_le (f := Oj.fl) ho; have := hsz.out; omega
    have TO : Hid (∀ (W : World), Below w.heap.size w W → Calls Try.prog 6 #[.slice av l.length cv] W fun e w' => ∃ g, e = .returned (.slice (some ⟨g, 0, none⟩) l.length l.length) ∧ (Fl.l 5 (l.map Oj.fl)).Has w' W.heap.size w'.heap.size (.slice (some ⟨g, 0, none⟩) l.length l.length) ∧ Below W.heap.size W w') := by
      intro W hb
      refine (toOjs l hsz.out w _ Hh.out W hb).mono ?_
      rintro e w' ⟨g, n, rfl, hh, hb'⟩
      obtain ⟨g', _, _, e, _⟩ := (show Fl.Has _ _ _ (.l 5 (l.map Oj.fl)) _ from hh) |> fun q => by unfold Fl.Has at q; exact q
      have hn : n = l.length := by
        simp only [Value.slice.injEq, Option.some.injEq, Addr.mk.injEq, and_true, List.length_map] at e
        exact e.2.1
      subst hn
      exact ⟨g, rfl, hh, hb'⟩
    have SP : Hid (∀ (a : Option Addr) (c : Nat) (W : World), LRow W a c 5 (l.map Oj.fl) → Calls Try.prog 5 #[.slice a l.length c] W (LkFin l W)) := fun a c W hr => specLink l a c W hr HSO.out
    have IM : Hid (∀ (a : Option Addr) (c : Nat) (W : World), LRow W a c 5 (l.map Oj.fl) → Calls Try.prog 7 #[.slice a l.length c] W (LkFin l W)) := fun a c W hr => implLink l a c W hr HSO.out
    have RW0 : Hid (∀ {W : World} {lo hi g : Nat}, (Fl.l 5 (l.map Oj.fl)).Has W lo hi (.slice (some ⟨g, 0, none⟩) l.length l.length) → LRow W (some ⟨g, 0, none⟩) l.length 5 (l.map Oj.fl)) := by
      intro W lo hi g hh
      obtain ⟨a, c, e, hl⟩ := hh.rd.list
      simp only [Value.slice.injEq] at e
      rw [e.1, e.2.2]
      exact hl
    have EO : Hid (EqF 9 (.l 5 (l.map Oj.fl))) := eqOjs l hsz.out
    have MO : Hid (MkF 10 (.l 5 (l.map Oj.fl))) := mkObjectS l
    have HLN : Hid ((Fl.l 5 (l.map Oj.fl)).len ≤ 1048576) := by show _ ≤ _; rw [hNl]; exact hsz.out
    clear hN0 hNl
    generalize l.length = n at *
    go_enter Try.func3, Try.ntmps3
    go_wp2_with fail
    refine H1.mono ?_
    rintro e w1 ⟨rfl, y1⟩
    have H2 := TO.out w1 y1
    clear H1
    go_wp2_with fail
    refine H2.mono ?_
    rintro e w2 ⟨g2, rfl, hh2, hb2⟩
    have y2 : Below w.heap.size w w2 := y1.trans (hb2.mono y1.size)
    have H3 := SP.out _ _ w2 (RW0.out hh2)
    clear H2 hh2 hb2 y1
    go_wp2_with fail
    refine H3.mono ?_
    rintro e w3 ⟨mw, ww, rw', wsw, sw, cw, rfl, hLw, imw, hb3⟩
    have y3 : Below w.heap.size w w3 := y2.trans (hb3.mono y2.size)
    have rdw := imw.vals sw
    obtain ⟨am, cm, rfl, _⟩ := owns_shape imw.mrow.own
    obtain ⟨aw, cw', rfl, _⟩ := owns_shape imw.wrow.own
    have HLW : Hid (Lk fmain l (mkIg rw' wsw sw) cw) := hLw
    have b4 : Below w3.heap.size w3 (w3.alloc (.cells #[.slice am rw'.length cm, .slice aw wsw.length cw', .int .i64 sw] 27 (0, 0))) := (Below.refl _ _).alloc (Nat.le_refl _) _
    have c4 := Blk.new w3 27 [.slice am rw'.length cm, .slice aw wsw.length cw', .int .i64 sw]
    have y4 := y3.trans (b4.mono y3.size)
    have RW : Hid (RdVals (w3.alloc (.cells #[.slice am rw'.length cm, .slice aw wsw.length cw', .int .i64 sw] 27 (0, 0))) (mkIg rw' wsw sw).fl [.slice am rw'.length cm, .slice aw wsw.length cw', .int .i64 sw]) := rdw.below b4
    simp only [List.toArray] at c4
    clear H3 imw hb3 y2 y3 rdw b4 hLw
    generalize rw'.length = nm at *
    generalize wsw.length = nw at *
    go_upto_region 6 with fail
    generalize w3.alloc (.cells #[.slice am nm cm, .slice aw nw cw', .int .i64 sw] 27 (0, 0)) = W4 at *
    generalize w3.heap.size = gw at *
    have o2 := c4.lt
    have H4 := TO.out W4 y4
    go_wp2_with fail
    refine H4.mono ?_
    rintro e w5 ⟨g5, rfl, hh5, b5⟩
    have c5 := c4.below b5 c4.lt
    have y5 : Below w.heap.size w w5 := y4.trans (b5.mono y4.size)
    have H5 := IM.out _ _ w5 (RW0.out hh5)
    have OX5 : Hid _ := hh5
    have o3 := b5.size
    clear H4 hh5
    go_wp2_with fail
    refine H5.mono ?_
    rintro e w7 ⟨mg, wg, rg, wsg, sg, cg, rfl, hLg, img, bG⟩
    obtain ⟨e1, e2⟩ := HLW.out.same hLg
    subst e2
    have hS : sg = sw := (congrArg Ig.start e1).symm
    subst hS
    have hsm := lk_small hLg
    have EQ : Hid (EqR 8 (mkIg rw' wsw sg).fl) := eqIg _ (by rw [e1]; exact fun r hr => Nat.le_trans (hsm.1 r hr) (by omega))
    have hrl : rg.length ≤ 8 := by have := hsm.2.1; simpa [mkIg] using this
    have hwl : wsg.length ≤ 2264 := hsm.2.2
    have hrw : rwt rg ≤ rg.length * 9003 := rwt_le rg hsm.1
    have HIG : Hid (mkIg rg wsg sg = mkIg rw' wsw sg) := e1.symm
    obtain ⟨amg, cmg, rfl, _⟩ := owns_shape img.mrow.own
    obtain ⟨awg, cwg, rfl, _⟩ := owns_shape img.wrow.own
    have c8 := Blk.new w7 27 [.slice amg rg.length cmg, .slice awg wsg.length cwg, .int .i64 sg]
    have b8 : Below w7.heap.size w7 (w7.alloc (.cells #[.slice amg rg.length cmg, .slice awg wsg.length cwg, .int .i64 sg] 27 (0, 0))) := (Below.refl _ _).alloc (Nat.le_refl _) _
    have b58 : Below w5.heap.size w5 (w7.alloc (.cells #[.slice amg rg.length cmg, .slice awg wsg.length cwg, .int .i64 sg] 27 (0, 0))) := bG.trans (b8.mono bG.size)
    have L8 : LL W4 (w7.alloc (.cells #[.slice amg rg.length cmg, .slice awg wsg.length cwg, .int .i64 sg] 27 (0, 0))) gw w7.heap.size w5.heap.size (.slice am nm cm) (.slice aw nw cw') (.slice amg rg.length cmg) (.slice awg wsg.length cwg) sg rg wsg :=
      ⟨b5.trans (b58.mono b5.size), c5.below b58 c5.lt, c8, img.below b8⟩
    have OX8 : Hid ((Fl.l 5 (l.map Oj.fl)).Has (w7.alloc (.cells #[.slice amg rg.length cmg, .slice awg wsg.length cwg, .int .i64 sg] 27 (0, 0))) W4.heap.size w5.heap.size (.slice (some ⟨g5, 0, none⟩) n n)) := Fl.Has.stays OX5.out (Stays.of b58 (Nat.le_refl _))
    have o5 := bG.size
    clear H5 c5 b58 b8 c8 img bG OX5 b5 hLg e1 hsm c4
    obtain ⟨nr, hnr⟩ : ∃ z, z = rg.length := ⟨_, rfl⟩
    obtain ⟨nu, hnu⟩ : ∃ z, z = wsg.length := ⟨_, rfl⟩
    have HNR : Hid (rg.length = nr) := hnr.symm
    have HNU : Hid (wsg.length = nu) := hnu.symm
    rw [← hnr] at L8 OX8 hrl hrw ⊢
    rw [← hnu] at L8 OX8 hwl ⊢
    clear hnr hnu
    go_upto_region 8 with fail
    generalize w7.alloc (.cells #[.slice amg nr cmg, .slice awg nu cwg, .int .i64 sg] 27 (0, 0)) = W8 at *
    generalize w7.heap.size = gg at *
    generalize w5.heap.size = s6 at *
    have hcc : (cw != cw) = false := by simp
    have RG : Hid (∀ {W : World}, LL W4 W gw gg s6 (.slice am nm cm) (.slice aw nw cw') (.slice amg nr cmg) (.slice awg nu cwg) sg rg wsg → RdVals W (mkIg rw' wsw sg).fl [.slice amg nr cmg, .slice awg nu cwg, .int .i64 sg]) := fun hL => by rw [← HIG.out]; exact hL.g.vals sg
    have q0 := L8.cG.cell (i := 0) rfl
    have q1 := L8.cG.cell (i := 1) rfl
    have q2 := L8.cG.cell (i := 2) rfl
    have p0 := L8.cW.cell (i := 0) rfl
    have p1 := L8.cW.cell (i := 1) rfl
    have p2 := L8.cW.cell (i := 2) rfl
    have H8 := EQ.out W8 _ _ (RG.out L8) (RW.out.below L8.y) W8 (Below.refl _ _)
    simp only [List.toArray] at H8
    go_wp2_with fail
    refine H8.mono ?_
    rintro e W9 ⟨rfl, b9⟩
    have L9 := L8.step b9
    have OX9 : Hid ((Fl.l 5 (l.map Oj.fl)).Has W9 W4.heap.size s6 (.slice (some ⟨g5, 0, none⟩) n n)) := Fl.Has.stays OX8.out (Stays.of b9 (by have := L8.cG.lt; omega))
    have y9 : Below w.heap.size w W9 := y4.trans (L9.y.mono y4.size)
    have H9 := TO.out W9 y9
    clear H8 q0 q1 q2 p0 p1 p2 L8 OX8 b9
    go_wp2_with fail
    refine H9.mono ?_
    rintro e wa ⟨ga, rfl, hha, hba⟩
    have La := L9.step hba
    have OXa : Hid ((Fl.l 5 (l.map Oj.fl)).Has wa W4.heap.size s6 (.slice (some ⟨g5, 0, none⟩) n n)) := Fl.Has.stays OX9.out (Stays.of hba (by have := L9.cG.lt; omega))
    have HQ := EO.out wa _ _ OXa.out.rd hha.rd wa (Below.refl _ _)
    clear H9 hha hba L9 OX9 y9
    go_wp2_with fail
    refine HQ.mono ?_
    rintro e W10 ⟨rfl, b10⟩
    have LA := La.step b10
    have OX10 : (Fl.l 5 (l.map Oj.fl)).Has W10 W4.heap.size s6 (.slice (some ⟨g5, 0, none⟩) n n) := Fl.Has.stays OXa.out (Stays.of b10 (by have := La.cG.lt; omega))
    have H10 := MO.out W10 W4.heap.size s6 _ 1 OX10 (by have := LA.cG.lt; omega) (by omega) (by have := HLN.out; omega)
    clear HQ La OXa b10 OX10
    go_wp2_with fail
    refine H10.mono ?_
    rintro e W11 ⟨⟨k9, rfl, hk9, _⟩, K9⟩
    have LB := LA.out K9 o2 (by omega) (Nat.le_refl _) (LA.g.stays (K9.stays (Nat.le_of_lt LA.cG.lt) (.inr (Nat.le_refl _))))
    clear H10 LA K9
    have hM : ¬ (k9 < 0) := by omega
    have q0 := LB.cG.cell (i := 0) rfl
    have q1 := LB.cG.cell (i := 1) rfl
    have q2 := LB.cG.cell (i := 2) rfl
    have p0 := LB.cW.cell (i := 0) rfl
    have p1 := LB.cW.cell (i := 1) rfl
    have p2 := LB.cW.cell (i := 2) rfl
    have H11 := EQ.out W11 _ _ (RG.out LB) (RW.out.below LB.y) W11 (Below.refl _ _)
    simp only [List.toArray] at H11
    go_wp2_with fail
    refine H11.mono ?_
    rintro e W12 ⟨rfl, b12⟩
    have LC := LB.step b12
    clear H11 q0 q1 q2 p0 p1 p2 LB b12
    have hiw : iwt rg wsg = rwt rg + 7 * nu := by unfold iwt; rw [HNU.out]
    have H12 := markIg s6 gg _ _ rg wsg sg 1 W12 LC.g o5 (Nat.le_of_lt LC.cG.lt) (by omega) (by rw [HNR.out]; omega)
    rw [hiw] at H12
    clear hiw
    have q0 := LC.cG.cell (i := 0) rfl
    have q1 := LC.cG.cell (i := 1) rfl
    have q2 := LC.cG.cell (i := 2) rfl
    go_wp2_with fail
    refine H12.mono ?_
    rintro e W13 ⟨rfl, gm, om⟩
    have LD := LC.out om (by omega) (Nat.le_refl _) (by omega) gm
    rw [HNU.out] at LD
    clear H12 q0 q1 q2 LC gm om
    have hk13 : ¬ (((1 + (rwt rg + 7 * nu) : Nat) : Int) < 0) := by omega
    have hkk : (((1 + (rwt rg + 7 * nu) : Nat) : Int) != ((1 + (rwt rg + 7 * nu) : Nat) : Int)) = false := by simp
    have H13 := heldIg s6 gg _ _ rg nu sg 1 W13 LD.g o5 (by omega) (by rw [HNR.out]; omega)
    generalize hkz : ((1 + (rwt rg + 7 * nu) : Nat) : Int) = kz at *
    have HKZ : Hid (((1 + (rwt rg + 7 * nu) : Nat) : Int) = kz) := hkz
    have hzz : 1 + (rwt rg + 7 * nu) ≤ 1000000000 := by omega
    clear hkz
    have q0 := LD.cG.cell (i := 0) rfl
    have q1 := LD.cG.cell (i := 1) rfl
    have q2 := LD.cG.cell (i := 2) rfl
    go_wp2_with fail
    refine H13.mono ?_
    rintro e W14 ⟨rfl, b14⟩
    have LE := LD.step b14
    have y14 : Below w.heap.size w W14 := y4.trans (LE.y.mono y4.size)
    have H14 := TO.out W14 y14
    clear H13 q0 q1 q2 LD b14
    go_wp2_with fail
    refine H14.mono ?_
    rintro e W15 ⟨gc, rfl, hOc, b15⟩
    have LF := LE.step b15
    have H15 := IM.out _ _ W15 (RW0.out hOc)
    clear H14 LE y14 b15 hOc
    go_wp2_with fail
    refine H15.mono ?_
    rintro e W16 ⟨mh, wh, rh, wsh, sh, ch, rfl, hLh, imh, bH⟩
    obtain ⟨e1, e2⟩ := HLW.out.same hLh
    subst e2
    have hS : sh = sg := (congrArg Ig.start e1).symm
    subst hS
    have rdh := imh.vals sh
    rw [← e1] at rdh
    obtain ⟨amh, cmh, rfl, _⟩ := owns_shape imh.mrow.own
    obtain ⟨awh, cwh, rfl, _⟩ := owns_shape imh.wrow.own
    generalize rh.length = mr at *
    generalize wsh.length = mu at *
    have c17 := Blk.new W16 27 [.slice amh mr cmh, .slice awh mu cwh, .int .i64 sh]
    have b17 : Below W16.heap.size W16 (W16.alloc (.cells #[.slice amh mr cmh, .slice awh mu cwh, .int .i64 sh] 27 (0, 0))) := (Below.refl _ _).alloc (Nat.le_refl _) _
    have LG := (LF.step bH).step b17
    have rH := rdh.below b17
    simp only [List.toArray] at c17
    clear H15 LF imh bH b17 rdh e1 hLh
    go_upto_region 25 with fail
    generalize W16.alloc (.cells #[.slice amh mr cmh, .slice awh mu cwh, .int .i64 sh] 27 (0, 0)) = W17 at *
    generalize W16.heap.size = gh at *
    have q0 := c17.cell (i := 0) rfl
    have q1 := c17.cell (i := 1) rfl
    have q2 := c17.cell (i := 2) rfl
    have p0 := LG.cW.cell (i := 0) rfl
    have p1 := LG.cW.cell (i := 1) rfl
    have p2 := LG.cW.cell (i := 2) rfl
    have H17 := EQ.out W17 _ _ rH (RW.out.below LG.y) W17 (Below.refl _ _)
    simp only [List.toArray] at H17
    go_wp2_with fail
    refine H17.mono ?_
    rintro e W18 ⟨rfl, b18⟩
    have LH := LG.step b18
    clear H17 q0 q1 q2 p0 p1 p2 LG b18 rH c17
    have H18 := heldIg s6 gg _ _ rg nu sh 1 W18 LH.g o5 hzz (by rw [HNR.out]; omega)
    rw [HKZ.out] at H18
    have q0 := LH.cG.cell (i := 0) rfl
    have q1 := LH.cG.cell (i := 1) rfl
    have q2 := LH.cG.cell (i := 2) rfl
    go_wp2_with fail
    refine H18.mono ?_
    rintro e W19 ⟨rfl, b19⟩
    have y19 : Below w.heap.size w W19 := y4.trans ((LH.step b19).y.mono y4.size)
    clear H18 q0 q1 q2 LH b19
    go_wp2_with fail
    go_ret
    exact ⟨rfl, y19⟩
  · rw [szL_no hs] at H1
    clear hN0
    go_enter Try.func3, Try.ntmps3
    go_wp2_with fail
    refine H1.mono ?_
    rintro e w1 ⟨rfl, hb⟩
    go_wp2_with fail
    go_ret
    exact ⟨rfl, hb⟩
end Go.Proofs.Ytefciaeajlgheaa

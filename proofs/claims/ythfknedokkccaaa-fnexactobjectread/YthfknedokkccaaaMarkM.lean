/- Marks over imports, by the laws' helper. -/
import Derived.Test.YthfknedokkccaaaMarkE
namespace Go.Proofs.Ythfknedokkccaaa
open Go.RowKit
set_option linter.unusedVariables false
set_option linter.unusedSimpArgs false
set_option maxRecDepth 100000

theorem owners_own {l : List R3} (h : (owners l).Pairwise (fun a b => a = none ∨ a ≠ b)) {j : Nat} {r : R3} (hj : l[j]? = some r) : r.x.ownBlock = none ∨ r.x.ownBlock ≠ r.y.ownBlock := by
  induction l generalizing j with
  | nil => simp at hj
  | cons x l ih =>
    have hp := List.pairwise_append.1 (show (x.owns ++ owners l).Pairwise _ from h)
    cases j with
    | zero =>
      simp only [List.getElem?_cons_zero, Option.some.injEq] at hj
      subst hj
      have := hp.1
      simp only [R3.owns, List.pairwise_cons] at this
      exact this.1 _ (by simp)
    | succ j => rw [List.getElem?_cons_succ] at hj; exact ih hp.2.1 hj

theorem flat3_same1 {l : List R3} {j : Nat} {r : R3} (h : l[j]? = some r) : (flat3 l).set (j * 3 + 1) r.y = flat3 l := by
  have := flat3_at l j 1 (by omega) r h
  obtain ⟨hlt, e⟩ := List.getElem?_eq_some_iff.1 (this.trans (show r.vals[1]? = some r.y from rfl))
  rw [← e]
  exact List.set_getElem_self hlt

/-- One import marked. -/
theorem mark1M {w w2 w3 : World} {T base n g c j m cx m2 cy : Nat} {ax ay : Option Addr} {l : List R3} {ds : List D3} {d0 : D3} {lm lm2 : List Int} {p0 p : Int}
    (h : DOwn w T base (.slice (some ⟨g, 0, none⟩) n c) n l ds) (hp : (some g :: owners l).Pairwise (fun a b => a = none ∨ a ≠ b)) (hj : j < n)
    (hl : l[j]? = some ⟨.slice ax m cx, .slice ay m2 cy, .int .i64 p0⟩) (hds : ds[j]? = some d0)
    (hg : w.grownBy w2 (Value.slice ax m cx).ownBlock) (ho : Own w2 base (.slice ax m cx) m lm) (hm : lm.length = m)
    (hg2 : w2.grownBy w3 (Value.slice ay m2 cy).ownBlock) (ho2 : Own w3 base (.slice ay m2 cy) m2 lm2) (hm2 : lm2.length = m2) :
    DOwn (w3.setCell ⟨g, j * 3 + 2, none⟩ (.int .i64 p)) T base (.slice (some ⟨g, 0, none⟩) n c) n (l.set j ⟨.slice ax m cx, .slice ay m2 cy, .int .i64 p⟩) (ds.set j ⟨.b lm, .b lm2, .n p⟩) ∧
    owners (l.set j ⟨.slice ax m cx, .slice ay m2 cy, .int .i64 p⟩) = owners l ∧
    KeepO (some g :: owners l) w (w3.setCell ⟨g, j * 3 + 2, none⟩ (.int .i64 p)) := by
  have hpc := List.pairwise_cons.1 hp
  have hmem : (Value.slice ax m cx).ownBlock ∈ owners l := owners_mem hl (by simp [R3.owns])
  have hmem2 : (Value.slice ay m2 cy).ownBlock ∈ owners l := owners_mem hl (by simp [R3.owns])
  have hgx : ∀ o ∈ owners l, o ≠ some g := fun o ho e => by
    have := hpc.1 o ho
    simp only [reduceCtorEq, false_or] at this
    exact this e.symm
  have row2 := (h.row.kept hg (.inr (Ne.symm (hgx _ hmem)))).kept hg2 (.inr (Ne.symm (hgx _ hmem2)))
  have g2 := grown_set w3 g (j * 3 + 2) (.int .i64 p)
  have row4 := (row2.stored (j * 3 + 2) (.int .i64 p)).1
  have eF := flat3_set l j ⟨.slice ax m cx, .slice ay m2 cy, .int .i64 p⟩ (by rw [h.len]; exact hj)
  have eS := flat3_same hl
  have eT := flat3_same1 hl
  simp only at eF eS eT
  rw [eS, eT] at eF
  rw [eF] at row4
  refine ⟨h.turn hj row4 ⟨⟨ax, cx, by rw [hm], ?_⟩, ⟨ay, cy, by rw [hm2], ?_⟩, rfl⟩ (fun i r' d' hne h1 h2 => ?_), owners_set hl rfl, ?_⟩
  · rw [hm]
    exact (ho.kept hg2 (owners_own hpc.2 hl)).other (hgx _ hmem)
  · rw [hm2]
    exact ho2.other (hgx _ hmem2)
  · have k1 := ((h.has i r' d' h1 h2).kept hg (fun o ho => owners_apart hpc.2 h1 hl hne o ho _ (by simp [R3.owns]))).kept hg2 (fun o ho => owners_apart hpc.2 h1 hl hne o ho _ (by simp [R3.owns]))
    have hn : ∀ o ∈ r'.owns, o ≠ some g := fun o ho => hgx o (owners_mem h1 ho)
    exact k1.other hn
  · exact ((KeepO.of hg (List.mem_cons_of_mem _ hmem)).trans (KeepO.of hg2 (List.mem_cons_of_mem _ hmem2))).trans (KeepO.of g2 (by simp))

set_option maxHeartbeats 4000000 in
theorem markImportsM (base : Nat) (a : Option Addr) (n c : Nat) (l : List R3) (ds : List D3) (k : Nat) (w : World) (h : DOwn w 43 base (.slice a n c) n l ds) (hp : ((Value.slice a n c).ownBlock :: owners l).Pairwise (fun a b => a = none ∨ a ≠ b)) (hd : ∀ d ∈ ds, ∃ l l2 p, d = (⟨.b l, .b l2, .n p⟩ : D3) ∧ l.length ≤ 1048576 ∧ l2.length ≤ 1048576) (hn : n ≤ 1048576) (hk : k + wsum ds ≤ 1000000000) :
    Calls Try.prog 22 #[.slice a n c, .int .i64 k] w fun e w' => ∃ l', e = .returned (.int .i64 ((k + wsum ds : Nat) : Int)) ∧ DOwn w' 43 base (.slice a n c) n l' (markL k ds) ∧ owners l' = owners l ∧ KeepO ((Value.slice a n c).ownBlock :: owners l) w w' := by
  have Hd : Hid (ds.length = n) := h.lend
  rcases Nat.eq_zero_or_pos n with h0 | hpos
  · subst h0
    have e0 : ds = [] := List.eq_nil_of_length_eq_zero Hd.out
    subst e0
    have H : Hid (DOwn w 43 base (.slice a 0 c) 0 l []) := h
    clear h hp hd
    go_enter Try.func22, Try.ntmps22
    go_wp2_with fail
    refine wp_loop_rounds 1 ?_
    rw [rounds_succ]
    go_wp2_with fail
    go_ret
    exact ⟨l, ret_int (by simp [wsum]), H.out, rfl, KeepO.refl _ _⟩
  · obtain ⟨g, rfl⟩ : ∃ g, a = some ⟨g, 0, none⟩ := by
      rcases h.row.2 with ⟨e, e0⟩ | ⟨g, cap, cur, e, _⟩
      · omega
      · simp only [Value.slice.injEq, true_and] at e
        exact ⟨g, e.1⟩
    have H0 : Hid (∃ lj, DOwn w 43 base (.slice (some ⟨g, 0, none⟩) n c) n lj ((markL k ds).take 0 ++ ds.drop 0) ∧ owners lj = owners l ∧ KeepO (some g :: owners l) w w) := ⟨l, by simpa using h, rfl, KeepO.refl _ _⟩
    have HP : Hid ((some g :: owners l).Pairwise (fun a b => a = none ∨ a ≠ b)) := hp
    have HD : Hid (∀ d ∈ ds, ∃ l l2 p, d = (⟨.b l, .b l2, .n p⟩ : D3) ∧ l.length ≤ 1048576 ∧ l2.length ≤ 1048576) := hd
    clear h hp hd
    go_enter Try.func22, Try.ntmps22
    go_wp2_with fail
    go_loopw [1, 5] (fun kv i wr => ∃ j : Nat, j ≤ n ∧ i = .int .i64 j ∧ ∃ kj : Nat, kv = .int .i64 kj ∧ Hid (kj = k + wsum (ds.take j)) ∧ kj ≤ 1000000000 ∧ Hid (∃ lj, DOwn wr 43 base (.slice (some ⟨g, 0, none⟩) n c) n lj ((markL k ds).take j ++ ds.drop j) ∧ owners lj = owners l ∧ KeepO (some g :: owners l) w wr)) (fun _ i _ => n - (intOf i).toNat)
    case atStart => exact ⟨0, Nat.zero_le _, rfl, k, rfl, by show _ = _; simp [wsum], by omega, H0⟩
    case round =>
      obtain ⟨j, hj, rfl, kj, rfl, hkj, hkm, ht⟩ := hrel
      clear H0
      by_cases hlt : j < n
      · obtain ⟨lj, hO, hoe, hK⟩ := ht.out
        obtain ⟨d, hdj⟩ : ∃ d, ds[j]? = some d := ⟨_, List.getElem?_eq_getElem (by rw [Hd.out]; exact hlt)⟩
        obtain ⟨r, hrj⟩ : ∃ r, lj[j]? = some r := ⟨_, List.getElem?_eq_getElem (by rw [hO.len]; exact hlt)⟩
        have hdd : ((markL k ds).take j ++ ds.drop j)[j]? = some d := by
          rw [List.getElem?_append_right (by rw [List.length_take, markL_len]; omega), List.length_take, markL_len, Nat.min_eq_left (by rw [Hd.out]; omega), List.getElem?_drop]
          simpa using hdj
        obtain ⟨ll, ly, p, rfl, hll, hly⟩ := HD.out d (List.mem_of_getElem? hdj)
        obtain ⟨⟨ax, cx, ex, ho⟩, ⟨ay, cy, ey, hoy⟩, ez⟩ := hO.has j r _ hrj hdd
        obtain ⟨rx, ry, rz⟩ := r
        simp only at ex ey ez ho hoy
        subst ex ey ez
        have cc : ∀ i, i < 3 → ∀ v, (R3.vals ⟨.slice ax ll.length cx, .slice ay ly.length cy, .int .i64 p⟩)[i]? = some v → wr.cell? ⟨g, j * 3 + i, none⟩ = some v := fun i hi v hv => by
          rw [hO.row.cellAt _ (by omega)]
          exact (flat3_at lj j i hi _ hrj).trans hv
        have q0 := cc 0 (by omega) _ rfl
        rw [Nat.add_zero] at q0
        have hoy' := hoy
        have hnext := wsum_next hdj
        have htot := wsum_take ds (j + 1)
        have hwt : D3.wt ⟨.b ll, .b ly, .n p⟩ = ll.length + ly.length + 1 := rfl
        have hks : kj + ll.length + ly.length + 1 ≤ 1000000000 := by have := hkj.out; omega
        have HC := markM base (.slice ax ll.length cx) ll.length ll (kj : Int) wr ho (by omega) (by omega) (by omega)
        rw [Int.toNat_natCast] at HC
        have HN : Hid (kj + ll.length + ly.length + 1 = k + wsum (ds.take (j + 1))) := by show _ = _; rw [hnext, hwt]; have := hkj.out; omega
        have HM : Hid (((markL k ds).take j ++ ds.drop j).set j (D3.mark kj ⟨.b ll, .b ly, .n p⟩) = (markL k ds).take (j + 1) ++ ds.drop (j + 1)) := by
          show _ = _
          rw [hkj.out]
          exact marks_step k ds j _ hdj
        have HO : Hid (DOwn wr 43 base (.slice (some ⟨g, 0, none⟩) n c) n lj ((markL k ds).take j ++ ds.drop j)) := hO
        have HL : Hid (lj[j]? = some ⟨.slice ax ll.length cx, .slice ay ly.length cy, .int .i64 p⟩) := hrj
        have HQ : Hid (((markL k ds).take j ++ ds.drop j)[j]? = some ⟨.b ll, .b ly, .n p⟩) := hdd
        have HE : Hid (owners lj = owners l) := hoe
        have HK : Hid (KeepO (some g :: owners l) w wr) := hK
        clear hO hrj hdd hoe hK hdj hnext htot hwt cc ho ht
        go_wp2_with fail
        refine HC.mono ?_
        rintro e w2 ⟨rfl, ho2, hg2⟩
        have hapart : (Value.slice ax ll.length cx).ownBlock = none ∨ (Value.slice ax ll.length cx).ownBlock ≠ (Value.slice ay ly.length cy).ownBlock := owners_own (by rw [HE.out]; exact (List.pairwise_cons.1 (show (some g :: owners l).Pairwise (fun a b => a = none ∨ a ≠ b) from HP.out)).2) HL.out
        have hoy2 : Own w2 base (.slice ay ly.length cy) ly.length ly := hoy.kept hg2 (by
          rcases hapart with e | e
          · by_cases hb : (Value.slice ay ly.length cy).ownBlock = none
            · exact .inl hb
            · exact .inr (by rw [e]; exact hb)
          · exact .inr (Ne.symm e))
        have hgx : ∀ o ∈ owners lj, o ≠ some g := fun o ho e => by
          have := (List.pairwise_cons.1 (show (some g :: owners l).Pairwise (fun a b => a = none ∨ a ≠ b) from HP.out)).1 o (by rw [← HE.out]; exact ho)
          simp only [reduceCtorEq, false_or] at this
          exact this e.symm
        have row2 := (show DOwn wr 43 base _ n lj _ from HO.out).row.kept hg2 (.inr (Ne.symm (hgx _ (owners_mem HL.out (show (Value.slice ax ll.length cx).ownBlock ∈ _ by simp [R3.owns])))))
        have q1 : w2.cell? ⟨g, j * 3 + 1, none⟩ = some (.slice ay ly.length cy) := by
          rw [row2.cellAt _ (by omega)]
          exact (flat3_at lj j 1 (by omega) _ HL.out)
        have HC2 := markM base (.slice ay ly.length cy) ly.length ly ((kj + ll.length : Nat) : Int) w2 hoy2 (by omega) (by omega) (by omega)
        rw [Int.toNat_natCast] at HC2
        have HG2 : Hid (wr.grownBy w2 (Value.slice ax ll.length cx).ownBlock) := hg2
        have HO2 : Hid (Own w2 base (.slice ax ll.length cx) ll.length (marks kj ll.length)) := ho2
        have HX : Hid (∀ o ∈ owners lj, o ≠ some g) := hgx
        have HR2 : Hid (w2.ownsRow base 43 3 (.slice (some ⟨g, 0, none⟩) n c) n (flat3 lj)) := row2
        rw [Int.natCast_add] at HC2
        clear HC q0 hoy hoy2 hg2 ho2 hgx row2 hapart hoy'
        go_wp2_with fail
        refine HC2.mono ?_
        rintro e w3 ⟨rfl, ho3, hg3⟩
        have HH := mark1M (p := ((kj + ll.length + ly.length : Nat) : Int)) (show DOwn wr 43 base _ n lj _ from HO.out) (by rw [HE.out]; exact HP.out) hlt HL.out HQ.out HG2.out HO2.out (marks_length _ _) hg3 ho3 (marks_length _ _)
        have row3 := (show w2.ownsRow base 43 3 (.slice (some ⟨g, 0, none⟩) n c) n (flat3 lj) from HR2.out).kept hg3 (.inr (Ne.symm (HX.out _ (owners_mem HL.out (show (Value.slice ay ly.length cy).ownBlock ∈ _ by simp [R3.owns])))))
        have hlen := row3.1
        obtain ⟨u2, c2⟩ : ∃ u, w3.cell? ⟨g, j * 3 + 2, none⟩ = some u := by rw [row3.cellAt _ (by omega)]; exact ⟨_, List.getElem?_eq_getElem (by omega)⟩
        have f2 := row3.frozenAt (j * 3 + 2)
        have HHH : Hid _ := HH
        clear HH row3 hlen q1 HC2 ho3 hg3
        go_wp2_with fail
        go_roundw
        case rel =>
          refine ⟨j + 1, by omega, by go_num, kj + ll.length + ly.length + 1, by go_num, HN, by omega, ?_⟩
          obtain ⟨k1, k2, k3⟩ := HHH.out
          have k1' := k1
          rw [show (⟨.b (marks kj ll.length), .b (marks (kj + ll.length) ly.length), .n ((kj + ll.length + ly.length : Nat) : Int)⟩ : D3) = D3.mark kj ⟨.b ll, .b ly, .n p⟩ from rfl, HM.out] at k1'
          rw [HE.out] at k2 k3
          exact ⟨_, by simpa using k1', k2, HK.out.trans (by simpa using k3)⟩
        case measure => simp [intOf]; omega
      · have : j = n := by omega
        subst this
        have HT : Hid (kj = k + wsum ds) := by
          have := hkj.out
          rwa [List.take_of_length_le (by rw [Hd.out]; exact Nat.le_refl _)] at this
        go_wp2_with fail
        go_ret
        obtain ⟨lj, hO, hoe, hK⟩ := ht.out
        rw [List.take_of_length_le (by rw [markL_len, Hd.out]; exact Nat.le_refl _), List.drop_of_length_le (by rw [Hd.out]; exact Nat.le_refl _), List.append_nil] at hO
        exact ⟨lj, ret_int (by rw [HT.out]), hO, hoe, hK⟩
end Go.Proofs.Ythfknedokkccaaa

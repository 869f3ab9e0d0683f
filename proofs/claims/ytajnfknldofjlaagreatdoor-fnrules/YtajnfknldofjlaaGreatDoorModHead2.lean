/- Modules but for how long the text is: heads, bodies, all together. By mkmodhead.py. -/
import Derived.Test.YtajnfknldofjlaaGreatDoorModHead
namespace Go.Proofs.YtajnfknldofjlaaGreatDoor
open Go.RowKit
set_option linter.unusedVariables false
set_option linter.unusedSimpArgs false
set_option maxRecDepth 100000

theorem pr_small {q : Pr} (h : recLen q.fl ≤ 1048576) : q.name.length ≤ 1073741824 ∧ (∀ x ∈ q.params, x.name.length ≤ 1073741824) ∧ (∀ x ∈ q.locals, x.length ≤ 1073741824) ∧ rowsLen (sts q.body) ≤ 1048576 := by
  have e2 : recLen q.fl = q.name.length + ((q.params.map Pa.fl).length + rowsLen (q.params.map Pa.fl)) + ((txts q.locals).length + rowsLen (txts q.locals)) + ((sts q.body).length + rowsLen (sts q.body)) := by simp [Pr.fl, recLen, Fl.len] <;> omega
  rw [e2] at h
  refine ⟨by omega, fun x hx => ?_, fun x hx => ?_, by omega⟩
  · have := recLen_le (List.mem_map_of_mem (f := Pa.fl) hx)
    simp only [Pa.fl, recLen, Fl.len] at this
    omega
  · have := recLen_le (List.mem_map_of_mem (f := fun x => [Fl.b x]) hx)
    simp only [recLen, Fl.len] at this
    unfold txts at h
    omega

set_option maxHeartbeats 4000000 in
theorem headC (q : Pr) (vs : List Value) (w : World) (h : RdVals w q.fl vs) (hs : recLen q.fl ≤ 1048576) :
    Calls Tryz.prog 90 #[agg vs] w fun e w' => e = .returned (.bool (hdOk q)) ∧ w.grownBy w' none := by
  obtain ⟨hs0, hs2, hs3, _⟩ := pr_small hs
  clear hs
  obtain ⟨y0, _, rfl, ⟨a0, c0, rfl, h0, hc0, _⟩, y1, _, rfl, rfl, y2, _, rfl, h2', y3, _, rfl, h3', y4, _, rfl, h4', rfl⟩ := h
  obtain ⟨a2, c2, rfl, h2⟩ := h2'.list
  obtain ⟨a3, c3, rfl, h3⟩ := h3'.list
  obtain ⟨a4, c4, rfl, h4⟩ := h4'.list
  clear h2' h3' h4'
  have k2 : (q.params.map Pa.fl).length = q.params.length := by simp
  have k3 : (txts q.locals).length = q.locals.length := by simp [txts]
  have k4 : (sts q.body).length = q.body.length := by simp [sts_map]
  have n2 : q.params.length ≤ 9223372036854775807 := by have h5 := h2.cap; have h6 := h2.most; unfold maxLen at h6; omega
  have n3 : q.locals.length ≤ 9223372036854775807 := by have h5 := h3.cap; have h6 := h3.most; unfold maxLen at h6; omega
  rw [k2, k3, k4]
  clear h4 k2 k3 k4
  simp only [agg]
  have yy := grown_alloc w (.cells #[.slice a0 q.name.length c0, .bool q.opn, .slice a2 q.params.length c2, .slice a3 q.locals.length c3, .slice a4 q.body.length c4] 64 (0, 0)) none
  have hb := below_grown yy
  have x0 := Blk.new w 64 [.slice a0 q.name.length c0, .bool q.opn, .slice a2 q.params.length c2, .slice a3 q.locals.length c3, .slice a4 q.body.length c4]
  have hfe : Hid (hdOk q = (nameOk q.name false && decide (q.params.length ≤ 4) && q.params.all paOk && decide (q.locals.length ≤ 8) && q.locals.all smallOk)) := rfl
  generalize hdOk q = TG at *
  go_enter Tryz.func90, Tryz.ntmps90
  go_upto_region 1 with fail
  generalize w.alloc (.cells #[.slice a0 q.name.length c0, .bool q.opn, .slice a2 q.params.length c2, .slice a3 q.locals.length c3, .slice a4 q.body.length c4] 64 (0, 0)) = w1 at *
  have q0 := x0.cell (i := 0) rfl
  have q1 := x0.cell (i := 1) rfl
  have q2 := x0.cell (i := 2) rfl
  have q3 := x0.cell (i := 3) rfl
  have q4 := x0.cell (i := 4) rfl
  have HQ := implNameOk a0 q.name.length c0 q.name false w1 (h0.below hb) hs0 hc0
  skip
  generalize nameOk q.name false = r at *
  go_wp2_with fail
  refine HQ.mono ?_
  rintro e w2 ⟨rfl, hg⟩
  clear HQ q0 q1 q2 q3 q4
  replace hg : w1.grownBy w2 none := by rw [hg]; exact grown_refl _ _
  replace x0 := x0.below (below_grown hg) x0.lt
  replace yy := grown_trans yy hg
  replace hb : Below w.heap.size w w2 := hb.trans ((below_grown hg).mono hb.size)
  clear hg
  have q0 := x0.cell (i := 0) rfl
  have q1 := x0.cell (i := 1) rfl
  have q2 := x0.cell (i := 2) rfl
  have q3 := x0.cell (i := 3) rfl
  have q4 := x0.cell (i := 4) rfl
  cases r
  · have he : Hid (TG = false) := by show _ = _; rw [hfe.out]; simp
    clear hfe
    go_wp2_with fail
    go_ret
    exact ⟨ret_bool he.out.symm, yy⟩
  by_cases hl : q.params.length ≤ 4
  rotate_left
  · have he : Hid (TG = false) := by show _ = _; rw [hfe.out, decide_eq_false hl]; simp
    have hl' : ¬ (q.params.length : Int) ≤ 4 := by omega
    clear hfe
    go_wp2_with fail
    go_ret
    exact ⟨ret_bool he.out.symm, yy⟩
  have hl' : (q.params.length : Int) ≤ 4 := by omega
  rw [decide_eq_true hl] at hfe
  clear hl
  have HQ := allParams a2 c2 q.params w2 (h2.below hb) hs2
  skip
  generalize q.params.all paOk = r at *
  go_wp2_with fail
  refine HQ.mono ?_
  rintro e w3 ⟨rfl, hg⟩
  clear HQ q0 q1 q2 q3 q4
  replace x0 := x0.below (below_grown hg) x0.lt
  replace yy := grown_trans yy hg
  replace hb : Below w.heap.size w w3 := hb.trans ((below_grown hg).mono hb.size)
  clear hg
  have q0 := x0.cell (i := 0) rfl
  have q1 := x0.cell (i := 1) rfl
  have q2 := x0.cell (i := 2) rfl
  have q3 := x0.cell (i := 3) rfl
  have q4 := x0.cell (i := 4) rfl
  cases r
  · have he : Hid (TG = false) := by show _ = _; rw [hfe.out]; simp
    clear hfe
    go_wp2_with fail
    go_ret
    exact ⟨ret_bool he.out.symm, yy⟩
  by_cases hl : q.locals.length ≤ 8
  rotate_left
  · have he : Hid (TG = false) := by show _ = _; rw [hfe.out, decide_eq_false hl]; simp
    have hl' : ¬ (q.locals.length : Int) ≤ 8 := by omega
    clear hfe
    go_wp2_with fail
    go_ret
    exact ⟨ret_bool he.out.symm, yy⟩
  have hl' : (q.locals.length : Int) ≤ 8 := by omega
  rw [decide_eq_true hl] at hfe
  clear hl
  have HQ := allTxts 123 smallOk (ent_of Tryz.func123 rfl rfl) smallC a3 c3 q.locals w3 (h3.below hb) hs3
  skip
  generalize q.locals.all smallOk = r at *
  go_wp2_with fail
  refine HQ.mono ?_
  rintro e w4 ⟨rfl, hg⟩
  clear HQ q0 q1 q2 q3 q4
  replace x0 := x0.below (below_grown hg) x0.lt
  replace yy := grown_trans yy hg
  replace hb : Below w.heap.size w w4 := hb.trans ((below_grown hg).mono hb.size)
  clear hg
  have q0 := x0.cell (i := 0) rfl
  have q1 := x0.cell (i := 1) rfl
  have q2 := x0.cell (i := 2) rfl
  have q3 := x0.cell (i := 3) rfl
  have q4 := x0.cell (i := 4) rfl
  cases r
  · have he : Hid (TG = false) := by show _ = _; rw [hfe.out]; simp
    clear hfe
    go_wp2_with fail
    go_ret
    exact ⟨ret_bool he.out.symm, yy⟩
  have he : Hid (TG = true) := by show _ = _; rw [hfe.out]; simp
  clear hfe
  go_wp2_with fail
  go_ret
  exact ⟨ret_bool he.out.symm, yy⟩

theorem allHeads (a : Option Addr) (c : Nat) (l : List Pr) (w : World) (h : LRow w a c 5 (l.map Pr.fl)) (hs : ∀ x ∈ l, recLen x.fl ≤ 1048576) :
    Calls Tryz.prog 33 #[.slice a l.length c, .func (.func 90) #[] #[]] w fun e w' => e = .returned (.bool (l.all hdOk)) ∧ w.grownBy w' none := by
  refine (allProc 90 #[] none a l.length c (l.map Pr.fl) (fun j => hdOk (l[j]?.getD p0)) (fun _ wr => w.grownBy wr none) (fun _ _ => True) w ⟨ent_of Tryz.func90 rfl rfl, fun j wr hi => h.below (below_grown hi), ?_, ?_⟩ (by simp) (grown_refl _ _) (fun j w1 w2 h1 h2 => grown_trans h1 h2) (by simp) (ent_of Tryz.func66 rfl rfl)).mono ?_
  · intro r hr
    obtain ⟨x, _, rfl⟩ := List.mem_map.1 hr
    rfl
  · intro j r wr vs hr hi hvs _
    rw [List.getElem?_map] at hr
    obtain ⟨x, hx, rfl⟩ := Option.map_eq_some_iff.1 hr
    rw [hx]
    refine (headC x vs wr hvs (hs x (List.mem_of_getElem? hx))).mono ?_
    rintro e w' ⟨rfl, hg⟩
    exact ⟨rfl, hg, fun _ => grown_trans hi hg, fun _ => trivial⟩
  · rintro e w' ⟨r, rfl, hg, ht⟩
    refine ⟨ret_bool ?_, hg⟩
    rw [told_all ht]
    exact range_all l p0 hdOk

set_option maxHeartbeats 2000000 in
theorem bodyOneC (q : Pr) (vs : List Value) (w0 w : World) (g n : Nat) (hs : recLen q.fl ≤ 1048576) (hT : Tabs w0) (h : RdVals w0 q.fl vs) (hb : Below w0.heap.size w0 w) (hg : w0.heap.size ≤ g) (hc : Cen w g n) (hn : n ≤ 250) :
    Calls Tryz.prog 124 #[agg vs, .pointer (some ⟨g, 0, none⟩)] w fun e w' => e = .returned (.bool (fitSts q.body 1 (250 - (n : Int)))) ∧ w.grownBy w' (some g) ∧ (fitSts q.body 1 (250 - (n : Int)) = true → Cen w' g (n + ndSts q.body)) := by
  obtain ⟨_, _, _, hs4⟩ := pr_small hs
  obtain ⟨y0, _, rfl, ⟨a0, c0, rfl, _⟩, y1, _, rfl, rfl, y2, _, rfl, ⟨a2, c2, rfl, _⟩, y3, _, rfl, ⟨a3, c3, rfl, _⟩, y4, _, rfl, h4', rfl⟩ := h
  obtain ⟨a4, c4, rfl, h4⟩ := h4'.list
  clear h4'
  have k4 : (sts q.body).length = q.body.length := by simp [sts_map]
  rw [k4]
  generalize (q.params.map Pa.fl).length = m2
  generalize (txts q.locals).length = m3
  simp only [agg]
  have yy := grown_alloc w (.cells #[.slice a0 q.name.length c0, .bool q.opn, .slice a2 m2 c2, .slice a3 m3 c3, .slice a4 q.body.length c4] 64 (0, 0)) (some g)
  have x0 := Blk.new w 64 [.slice a0 q.name.length c0, .bool q.opn, .slice a2 m2 c2, .slice a3 m3 c3, .slice a4 q.body.length c4]
  have hb1 : Below w0.heap.size w0 (w.alloc (.cells #[.slice a0 q.name.length c0, .bool q.opn, .slice a2 m2 c2, .slice a3 m3 c3, .slice a4 q.body.length c4] 64 (0, 0))) := hb.alloc hb.size _
  have H := cenStsR q.body (cenSts q.body hs4) w0 _ a4 c4 g n 1 hT h4 hb1 hg (Blk.old hc) hn (by omega) (by omega)
  clear hb1 h4 hc hb
  generalize fitSts q.body 1 (250 - (n : Int)) = r at *
  go_enter Tryz.func124, Tryz.ntmps124
  go_upto_region 1 with fail
  generalize w.alloc (.cells #[.slice a0 q.name.length c0, .bool q.opn, .slice a2 m2 c2, .slice a3 m3 c3, .slice a4 q.body.length c4] 64 (0, 0)) = w1 at *
  have q4 := x0.cell (i := 4) rfl
  go_wp2_with fail
  refine H.mono ?_
  rintro e w2 ⟨rfl, hg2, hc2⟩
  go_wp2_with fail
  go_ret
  exact ⟨rfl, grown_trans yy hg2, hc2⟩

set_option maxHeartbeats 2000000 in
theorem bodiesC (a : Option Addr) (c : Nat) (l : List Pr) (w : World) (hT : Tabs w) (h : LRow w a c 5 (l.map Pr.fl)) (hs : ∀ x ∈ l, recLen x.fl ≤ 1048576) :
    Calls Tryz.prog 91 #[.slice a l.length c] w fun e w' => e = .returned (.bool (fitPrs l 250)) ∧ w.grownBy w' none := by
  have y0 := grown_alloc w (.cells #[.int .i64 0] 159 (0, 0)) none
  have hc : Cen (w.alloc (.cells #[.int .i64 0] 159 (0, 0))) w.heap.size 0 := Blk.new w 159 [.int .i64 0]
  have HC : Calls Tryz.prog 33 #[.slice a l.length c, .func (.func 124) #[] #[.pointer (some ⟨w.heap.size, 0, none⟩)]] (w.alloc (.cells #[.int .i64 0] 159 (0, 0))) fun e w' => e = .returned (.bool (fitPrs l 250)) ∧ w.grownBy w' none := by
    have hb := below_grown y0
    generalize w.alloc (.cells #[.int .i64 0] 159 (0, 0)) = W at *
    refine (allProc 124 _ (some w.heap.size) a l.length c (l.map Pr.fl) (fun j => fitSts (l[j]?.getD p0).body 1 (250 - (ndPrs (l.take j) : Int))) (fun j wr => Below w.heap.size w wr ∧ (ndPrs (l.take j) : Int) ≤ 250 ∧ Cen wr w.heap.size (ndPrs (l.take j))) (fun _ wr => Below w.heap.size w wr) W
      ⟨ent_of Tryz.func124 rfl rfl, fun j wr hi => h.below hi.1, ?_, ?_⟩ (by simp) ⟨hb, by simp [ndPrs], by simpa [ndPrs] using hc⟩ ?_ (by rintro k ⟨rfl⟩; exact Blk.lt hc) (ent_of Tryz.func66 rfl rfl)).mono ?_
    · intro r hr
      obtain ⟨x, _, rfl⟩ := List.mem_map.1 hr
      rfl
    · intro j r wr vs hj hi hvs hca
      have hj0 := hj
      obtain ⟨hi1, hi2, hi3⟩ := hi
      rw [List.getElem?_map] at hj
      obtain ⟨x, hx, rfl⟩ := Option.map_eq_some_iff.1 hj
      have hv0 := vals_back h hi1 hj0 hvs.len hca
      rw [hx]
      simp only [Option.getD_some]
      refine (bodyOneC x vs w wr w.heap.size (ndPrs (l.take j)) (hs x (List.mem_of_getElem? hx)) hT hv0 hi1 (Nat.le_refl _) hi3 (by omega)).mono ?_
      rintro e w' ⟨rfl, hgw, hcen⟩
      have hb' := below_at hi1 hgw (Nat.le_refl _)
      refine ⟨rfl, hgw, fun h => ?_, fun _ => hb'⟩
      rw [ndPrs_next hx]
      have hle := fitSts_le h
      exact ⟨hb', by omega, hcen h⟩
    · rintro j w1 w2 ⟨h1, h2, h3⟩ hgr
      have hbb := below_grown hgr
      exact ⟨h1.trans (hbb.mono h1.size), h2, Blk.below h3 hbb (Blk.lt h3)⟩
    · rintro e w' ⟨r, rfl, hgw, ht⟩
      refine ⟨ret_bool (told_all ht), ?_⟩
      cases r with
      | false =>
        obtain ⟨j, hj, hp, _, hq⟩ := ht.yes rfl
        exact grown_below hq none
      | true => exact grown_below (ht.no rfl).2.1 none
  clear h hs hc
  go_enter Tryz.func91, Tryz.ntmps91
  go_wp2_with fail
  refine HC.mono ?_
  rintro e w3 ⟨rfl, h1⟩
  go_wp2_with fail
  go_ret
  exact ⟨rfl, h1⟩

theorem mo_small {m : Mo} (h : recLen m.fl ≤ 1048576) : m.name.length ≤ 1073741824 ∧ (∀ x ∈ m.uses, x.length ≤ 1073741824) ∧ (∀ x ∈ m.vars, x.name.length ≤ 1073741824) ∧ (∀ x ∈ m.procs, recLen x.fl ≤ 1048576) := by
  have e : recLen m.fl = m.name.length + ((txts m.uses).length + rowsLen (txts m.uses)) + ((m.vars.map Va.fl).length + rowsLen (m.vars.map Va.fl)) + ((m.procs.map Pr.fl).length + rowsLen (m.procs.map Pr.fl)) := by simp [Mo.fl, recLen, Fl.len] <;> omega
  rw [e] at h
  refine ⟨by omega, fun x hx => ?_, fun x hx => ?_, fun x hx => ?_⟩
  · have := recLen_le (List.mem_map_of_mem (f := fun x => [Fl.b x]) hx)
    simp only [recLen, Fl.len] at this
    unfold txts at h
    omega
  · have := recLen_le (List.mem_map_of_mem (f := Va.fl) hx)
    simp only [Va.fl, recLen, Fl.len] at this
    omega
  · have := recLen_le (List.mem_map_of_mem (f := Pr.fl) hx)
    omega

set_option maxHeartbeats 4000000 in
theorem formedC (m : Mo) (vs : List Value) (w : World) (hT : Tabs w) (h : RdVals w m.fl vs) (hs : recLen m.fl ≤ 1048576) :
    Calls Tryz.prog 54 #[agg vs] w fun e w' => e = .returned (.bool (formed m)) ∧ w.grownBy w' none := by
  obtain ⟨hs0, hs1, hs2, hs3⟩ := mo_small hs
  clear hs
  obtain ⟨y0, _, rfl, ⟨a0, c0, rfl, h0, hc0, _⟩, y1, _, rfl, h1', y2, _, rfl, h2', y3, _, rfl, h3', rfl⟩ := h
  obtain ⟨a1, c1, rfl, h1⟩ := h1'.list
  obtain ⟨a2, c2, rfl, h2⟩ := h2'.list
  obtain ⟨a3, c3, rfl, h3⟩ := h3'.list
  clear h1' h2' h3'
  have k1 : (txts m.uses).length = m.uses.length := by simp [txts]
  have k2 : (m.vars.map Va.fl).length = m.vars.length := by simp
  have k3 : (m.procs.map Pr.fl).length = m.procs.length := by simp
  have n1 : m.uses.length ≤ 9223372036854775807 := by have h5 := h1.cap; have h6 := h1.most; unfold maxLen at h6; omega
  have n2 : m.vars.length ≤ 9223372036854775807 := by have h5 := h2.cap; have h6 := h2.most; unfold maxLen at h6; omega
  have n3 : m.procs.length ≤ 9223372036854775807 := by have h5 := h3.cap; have h6 := h3.most; unfold maxLen at h6; omega
  rw [k1, k2, k3]
  clear k1 k2 k3
  simp only [agg]
  have yy := grown_alloc w (.cells #[.slice a0 m.name.length c0, .slice a1 m.uses.length c1, .slice a2 m.vars.length c2, .slice a3 m.procs.length c3] 29 (0, 0)) none
  have hb := below_grown yy
  have x0 := Blk.new w 29 [.slice a0 m.name.length c0, .slice a1 m.uses.length c1, .slice a2 m.vars.length c2, .slice a3 m.procs.length c3]
  have hfe : Hid (formed m = (nameOk m.name true && decide (m.uses.length ≤ 6) && m.uses.all greatOk && decide (m.vars.length ≤ 8) && m.vars.all vaOk && decide (m.procs.length ≤ 8) && m.procs.all hdOk && fitPrs m.procs 250)) := rfl
  generalize formed m = TG at *
  go_enter Tryz.func54, Tryz.ntmps54
  go_upto_region 1 with fail
  generalize w.alloc (.cells #[.slice a0 m.name.length c0, .slice a1 m.uses.length c1, .slice a2 m.vars.length c2, .slice a3 m.procs.length c3] 29 (0, 0)) = w1 at *
  have q0 := x0.cell (i := 0) rfl
  have q1 := x0.cell (i := 1) rfl
  have q2 := x0.cell (i := 2) rfl
  have q3 := x0.cell (i := 3) rfl
  have HQ := implNameOk a0 m.name.length c0 m.name true w1 (h0.below hb) hs0 hc0
  skip
  generalize nameOk m.name true = r at *
  go_wp2_with fail
  refine HQ.mono ?_
  rintro e w2 ⟨rfl, hg⟩
  clear HQ q0 q1 q2 q3
  replace hg : w1.grownBy w2 none := by rw [hg]; exact grown_refl _ _
  replace x0 := x0.below (below_grown hg) x0.lt
  replace yy := grown_trans yy hg
  replace hb : Below w.heap.size w w2 := hb.trans ((below_grown hg).mono hb.size)
  clear hg
  have q0 := x0.cell (i := 0) rfl
  have q1 := x0.cell (i := 1) rfl
  have q2 := x0.cell (i := 2) rfl
  have q3 := x0.cell (i := 3) rfl
  cases r
  · have he : Hid (TG = false) := by show _ = _; rw [hfe.out]; simp
    clear hfe
    go_wp2_with fail
    go_ret
    exact ⟨ret_bool he.out.symm, yy⟩
  by_cases hl : m.uses.length ≤ 6
  rotate_left
  · have he : Hid (TG = false) := by show _ = _; rw [hfe.out, decide_eq_false hl]; simp
    have hl' : ¬ (m.uses.length : Int) ≤ 6 := by omega
    clear hfe
    go_wp2_with fail
    go_ret
    exact ⟨ret_bool he.out.symm, yy⟩
  have hl' : (m.uses.length : Int) ≤ 6 := by omega
  rw [decide_eq_true hl] at hfe
  clear hl
  have HQ := allTxts 88 greatOk (ent_of Tryz.func88 rfl rfl) greatC a1 c1 m.uses w2 (h1.below hb) hs1
  skip
  generalize m.uses.all greatOk = r at *
  go_wp2_with fail
  refine HQ.mono ?_
  rintro e w3 ⟨rfl, hg⟩
  clear HQ q0 q1 q2 q3
  replace x0 := x0.below (below_grown hg) x0.lt
  replace yy := grown_trans yy hg
  replace hb : Below w.heap.size w w3 := hb.trans ((below_grown hg).mono hb.size)
  clear hg
  have q0 := x0.cell (i := 0) rfl
  have q1 := x0.cell (i := 1) rfl
  have q2 := x0.cell (i := 2) rfl
  have q3 := x0.cell (i := 3) rfl
  cases r
  · have he : Hid (TG = false) := by show _ = _; rw [hfe.out]; simp
    clear hfe
    go_wp2_with fail
    go_ret
    exact ⟨ret_bool he.out.symm, yy⟩
  by_cases hl : m.vars.length ≤ 8
  rotate_left
  · have he : Hid (TG = false) := by show _ = _; rw [hfe.out, decide_eq_false hl]; simp
    have hl' : ¬ (m.vars.length : Int) ≤ 8 := by omega
    clear hfe
    go_wp2_with fail
    go_ret
    exact ⟨ret_bool he.out.symm, yy⟩
  have hl' : (m.vars.length : Int) ≤ 8 := by omega
  rw [decide_eq_true hl] at hfe
  clear hl
  have HQ := allVars a2 c2 m.vars w3 (h2.below hb) hs2
  skip
  generalize m.vars.all vaOk = r at *
  go_wp2_with fail
  refine HQ.mono ?_
  rintro e w4 ⟨rfl, hg⟩
  clear HQ q0 q1 q2 q3
  replace x0 := x0.below (below_grown hg) x0.lt
  replace yy := grown_trans yy hg
  replace hb : Below w.heap.size w w4 := hb.trans ((below_grown hg).mono hb.size)
  clear hg
  have q0 := x0.cell (i := 0) rfl
  have q1 := x0.cell (i := 1) rfl
  have q2 := x0.cell (i := 2) rfl
  have q3 := x0.cell (i := 3) rfl
  cases r
  · have he : Hid (TG = false) := by show _ = _; rw [hfe.out]; simp
    clear hfe
    go_wp2_with fail
    go_ret
    exact ⟨ret_bool he.out.symm, yy⟩
  by_cases hl : m.procs.length ≤ 8
  rotate_left
  · have he : Hid (TG = false) := by show _ = _; rw [hfe.out, decide_eq_false hl]; simp
    have hl' : ¬ (m.procs.length : Int) ≤ 8 := by omega
    clear hfe
    go_wp2_with fail
    go_ret
    exact ⟨ret_bool he.out.symm, yy⟩
  have hl' : (m.procs.length : Int) ≤ 8 := by omega
  rw [decide_eq_true hl] at hfe
  clear hl
  have HQ := allHeads a3 c3 m.procs w4 (h3.below hb) hs3
  skip
  generalize m.procs.all hdOk = r at *
  go_wp2_with fail
  refine HQ.mono ?_
  rintro e w5 ⟨rfl, hg⟩
  clear HQ q0 q1 q2 q3
  replace x0 := x0.below (below_grown hg) x0.lt
  replace yy := grown_trans yy hg
  replace hb : Below w.heap.size w w5 := hb.trans ((below_grown hg).mono hb.size)
  clear hg
  have q0 := x0.cell (i := 0) rfl
  have q1 := x0.cell (i := 1) rfl
  have q2 := x0.cell (i := 2) rfl
  have q3 := x0.cell (i := 3) rfl
  cases r
  · have he : Hid (TG = false) := by show _ = _; rw [hfe.out]; simp
    clear hfe
    go_wp2_with fail
    go_ret
    exact ⟨ret_bool he.out.symm, yy⟩
  have HQ := bodiesC a3 c3 m.procs w5 (hT.below hb) (h3.below hb) hs3
  skip
  generalize fitPrs m.procs 250 = r at *
  go_wp2_with fail
  refine HQ.mono ?_
  rintro e w6 ⟨rfl, hg⟩
  clear HQ q0 q1 q2 q3
  replace x0 := x0.below (below_grown hg) x0.lt
  replace yy := grown_trans yy hg
  replace hb : Below w.heap.size w w6 := hb.trans ((below_grown hg).mono hb.size)
  clear hg
  have q0 := x0.cell (i := 0) rfl
  have q1 := x0.cell (i := 1) rfl
  have q2 := x0.cell (i := 2) rfl
  have q3 := x0.cell (i := 3) rfl
  cases r
  · have he : Hid (TG = false) := by show _ = _; rw [hfe.out]; simp
    clear hfe
    go_wp2_with fail
    go_ret
    exact ⟨ret_bool he.out.symm, yy⟩
  have he : Hid (TG = true) := by show _ = _; rw [hfe.out]; simp
  clear hfe
  go_wp2_with fail
  go_ret
  exact ⟨ret_bool he.out.symm, yy⟩

end Go.Proofs.YtajnfknldofjlaaGreatDoor

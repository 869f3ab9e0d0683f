/- Texts of statements: what the program writes, kind by kind. By mkprst.py. -/
import Derived.Test.YtajnfknldofjlaaGreatDoorPrCall
namespace Go.Proofs.YtajnfknldofjlaaGreatDoor
open Go.RowKit
set_option linter.unusedVariables false
set_option linter.unusedSimpArgs false
set_option maxRecDepth 100000

/-- What the program writes of a statement, of a block. -/
def PrSt (x : St) : Prop := ∀ (w0 w : World) (vs : List Value) (base g : Nat) (l : List Int) (v : Value), Tabs w0 → RdVals w0 x.fl vs → Below w0.heap.size w0 w → w0.heap.size ≤ base → base ≤ g → Pg w base g l v → okSt x = true → l.length + (prS x).length ≤ 1000000000 →
  Calls Tryz.prog 153 #[.pointer (some ⟨g, 0, none⟩), agg vs] w fun e w' => e = .returned (.tuple #[]) ∧ (∃ v', Pg w' base g (l ++ prS x) v') ∧ Wrote base (some g) w w'
def PrSts (b : List St) : Prop := ∀ (w0 w : World) (a : Option Addr) (c base g : Nat) (l : List Int) (v : Value), Tabs w0 → LRow w0 a c 6 (sts b) → Below w0.heap.size w0 w → w0.heap.size ≤ base → base ≤ g → Pg w base g l v → okSts b = true → l.length + (prB b).length ≤ 1000000000 →
  Calls Tryz.prog 129 #[.pointer (some ⟨g, 0, none⟩), .slice a b.length c] w fun e w' => e = .returned (.tuple #[]) ∧ (∃ v', Pg w' base g (l ++ prB b) v') ∧ Wrote base (some g) w w'

theorem okSt_parts {k n : Int} {name : List Int} {ks : List Ex} {bs es : List St} (h : okSt (.mk k n name ks bs es) = true) : stLoc k n name ks bs.length es.length = true ∧ okExs ks = true ∧ okSts bs = true ∧ okSts es = true := by
  unfold okSt at h
  simp only [Bool.and_eq_true] at h
  exact ⟨h.1.1.1, h.1.1.2, h.1.2, h.2⟩
theorem sloc_name {k n : Int} {name : List Int} {ks : List Ex} {nb ne : Nat} (h : stLoc k n name ks nb ne = true) (hk : stNamed k = true) : nameOk name false = true := by
  unfold stLoc at h
  simp only [Bool.and_eq_true] at h
  rw [hk] at h
  exact h.1.1.1.1.2.2
theorem sloc_len {k n : Int} {name : List Int} {ks : List Ex} {nb ne : Nat} (h : stLoc k n name ks nb ne = true) : (ks.length : Int) = stLeast k ∧ 0 ≤ k ∧ k ≤ 7 ∧ 0 ≤ n ∧ n ≤ stHigh k := by
  unfold stLoc at h
  simp only [Bool.and_eq_true] at h
  have h1 := h.1.1.1.1.2.1.2
  have h2 := h.1.1.1.1.1
  have h3 := h.1.1.1.1.2.1.1
  simp [inB] at h1 h2 h3
  omega

set_option maxHeartbeats 4000000 in
theorem prSt0 (n : Int) (name : List Int) (e0 : Ex) (S0 : PrEx e0) (bs es : List St) (Sb : PrSts bs) (Se : PrSts es) : PrSt (.mk 0 n name [e0] bs es) := by
  intro w0 w vs base g l v hT hr hb h0 hg hp hok hsz
  unfold St.fl at hr
  obtain ⟨y0, _, rfl, rfl, y1, _, rfl, rfl, y2, _, rfl, ⟨a2, c2, rfl, h2, hc2, _⟩, y3, _, rfl, h3', y4, _, rfl, h4', y5, _, rfl, h5', rfl⟩ := hr
  obtain ⟨a3, c3, rfl, h3⟩ := h3'.list
  obtain ⟨a4, c4, rfl, h4⟩ := h4'.list
  obtain ⟨a5, c5, rfl, h5⟩ := h5'.list
  clear h3' h4' h5'
  have hkl : (exs [e0]).length = 1 := by simp [exs_map]
  have hbl : (sts bs).length = bs.length := by simp [sts_map]
  have hel : (sts es).length = es.length := by simp [sts_map]
  rw [hkl, hbl, hel]
  simp only [agg]
  obtain ⟨b4, o4, rfl⟩ := h3.addr (by rw [hkl]; omega)
  obtain ⟨cc, rfl⟩ : ∃ cc, c3 = cc + 1 := ⟨c3 - 1, by have := h3.cap; rw [hkl] at this; omega⟩
  obtain ⟨us0, hv0, hcl0⟩ := (h3.el (i := 0) rfl).vals
  obtain ⟨u00, u01, u02, u03, u04, rfl⟩ : ∃ a b c d e, us0 = [a, b, c, d, e] := by
    have hl := hv0.len
    rw [exs_len] at hl
    match us0, hl with
    | [a, b, c, d, e], _ => exact ⟨a, b, c, d, e, rfl⟩
  have hc00 : w0.cell? ⟨b4, o4, none⟩ = some u00 := by have := hcl0 0 _ rfl; simpa using this
  have hc01 : w0.cell? ⟨b4, o4 + 1, none⟩ = some u01 := by have := hcl0 1 _ rfl; simpa using this
  have hc02 : w0.cell? ⟨b4, o4 + 2, none⟩ = some u02 := by have := hcl0 2 _ rfl; simpa using this
  have hc03 : w0.cell? ⟨b4, o4 + 3, none⟩ = some u03 := by have := hcl0 3 _ rfl; simpa using this
  have hc04 : w0.cell? ⟨b4, o4 + 4, none⟩ = some u04 := by have := hcl0 4 _ rfl; simpa using this
  clear hcl0
  have hoks := (okSt_parts hok).2.1
  simp only [okExs, Bool.and_eq_true, and_true] at hoks
  have hk0 := hoks
  have he : prS (.mk 0 n name [e0] bs es) = (name ++ [32]) ++ ([58, 61, 32]) ++ (prE e0) ++ ([59, 10]) := by simp [prS, prEs, stText]
  rw [he] at hsz
  simp only [List.length_append, List.length_cons, List.length_nil] at hsz
  have HE : Hid (prS (.mk 0 n name [e0] bs es) = (name ++ [32]) ++ ([58, 61, 32]) ++ (prE e0) ++ ([59, 10])) := he
  clear he
  have hloc := (okSt_parts hok).1
  skip
  have hnm := sloc_name hloc (by decide)
  have hpn := put_one_name (g := false) h2.2.1 hnm
  have hokb := (okSt_parts hok).2.2.1
  have hoke := (okSt_parts hok).2.2.2
  clear hok
  have hgl := hp.blk.lt
  have hgx : some w.heap.size ≠ some g := by simp; omega
  have hgk : ∀ k, some g = some k → w0.heap.size ≤ k := by intro k e; cases e; omega
  have x0 := Blk.new w 133 [.int .i64 0, .int .i64 n, .slice a2 name.length c2, .slice (some ⟨b4, o4, none⟩) 1 (cc + 1), .slice a4 bs.length c4, .slice a5 es.length c5]
  have hw : Wrote base (some g) w (w.alloc (.cells #[.int .i64 0, .int .i64 n, .slice a2 name.length c2, .slice (some ⟨b4, o4, none⟩) 1 (cc + 1), .slice a4 bs.length c4, .slice a5 es.length c5] 133 (0, 0))) := Wrote.of (grown_alloc w _ none)
  replace hb : Below w0.heap.size w0 (w.alloc (.cells #[.int .i64 0, .int .i64 n, .slice a2 name.length c2, .slice (some ⟨b4, o4, none⟩) 1 (cc + 1), .slice a4 bs.length c4, .slice a5 es.length c5] 133 (0, 0))) := hb.alloc hb.size _
  replace hp := hp.grown (grown_alloc w (.cells #[.int .i64 0, .int .i64 n, .slice a2 name.length c2, .slice (some ⟨b4, o4, none⟩) 1 (cc + 1), .slice a4 bs.length c4, .slice a5 es.length c5] 133 (0, 0)) none)
  go_enter Tryz.func153, Tryz.ntmps153
  have q3 := x0.cell (i := 3) rfl
  go_upto_region 2 with fail
  clear q3
  generalize w.alloc (.cells #[.int .i64 0, .int .i64 n, .slice a2 name.length c2, .slice (some ⟨b4, o4, none⟩) 1 (cc + 1), .slice a4 bs.length c4, .slice a5 es.length c5] 133 (0, 0)) = w1 at *
  generalize w.heap.size = gx at *
  have q0 := x0.cell (i := 0) rfl
  have hF := (hT.below hb).st 0 (by omega)
  have z0 := hF.c0
  have z1 := hF.c1
  have z2 := hF.c2
  have z3 := hF.c3
  have z4 := hF.c4
  have HQ := wordsC (stF 0) (stPlain 0) w1 (hT.below hb)
  rw [stW0] at HQ
  unfold Fm.val at HQ
  clear hF
  simp only [Nat.reduceMul, Nat.reduceAdd, Nat.zero_mul, Nat.zero_add] at z0 z1 z2 z3 z4
  go_wp2_with fail
  refine HQ.mono ?_
  rintro e w2 ⟨gw, rfl, wb, hgw', hq⟩
  clear HQ q0 z0 z1 z2 z3 z4
  have hgw : some gw ≠ some g := by have := hp.blk.lt; simp; omega
  replace x0 := x0.below (below_grown hq) x0.lt
  replace hb := hb.trans ((below_grown hq).mono hb.size)
  replace hw := hw.trans (Wrote.of hq)
  replace hp := hp.grown hq
  clear hq hgw' hgl
  simp only [strs, List.map_cons, List.map_nil, List.length_cons, List.length_nil] at wb ⊢
  have q0 := x0.cell (i := 0) rfl
  have q1 := x0.cell (i := 1) rfl
  have q2 := x0.cell (i := 2) rfl
  have q3 := x0.cell (i := 3) rfl
  have q4 := x0.cell (i := 4) rfl
  have q5 := x0.cell (i := 5) rfl
  have d0 := wb.cell (i := 0) rfl
  have d1 := wb.cell (i := 1) rfl
  have d2 := wb.cell (i := 2) rfl
  have d3 := wb.cell (i := 3) rfl
  go_wp2_with fail
  refine wp_loop_rounds 5 ?_
  rw [rounds_succ]
  have kc := conv_bytes c2 (h2.below hb)
  have HQ := putC [(strOfNums name)] w2.heap.size 1 1 (w2.alloc (.cells #[.string (strOfNums name)] 9)) base g _ _ (hp.grown (grown_alloc w2 _ none)) rfl (Blk.new w2 9 [.string (strOfNums name)]) (by have := hp.blk.lt; omega) (by rw [hpn]; simp only [List.length_append, List.length_cons, List.length_nil]; omega) hg
  go_wp2_with fail
  refine HQ.mono ?_
  rintro e w3 ⟨rfl, ⟨v', hp'⟩, hq⟩
  clear q0 q1 q2 q3 q4 q5 d0 d1 d2 d3
  replace hq := (Wrote.of (grown_alloc w2 (.cells #[.string (strOfNums name)] 9) none)).trans hq
  clear HQ hp
  have hp := hp'
  clear hp'
  replace x0 := hq.blk x0 (by decide) hgx
  replace wb := hq.blk wb (by decide) hgw
  replace hb := hq.below hb h0 hgk
  replace hw := hw.trans hq
  clear hq
  have q0 := x0.cell (i := 0) rfl
  have q1 := x0.cell (i := 1) rfl
  have q2 := x0.cell (i := 2) rfl
  have q3 := x0.cell (i := 3) rfl
  have q4 := x0.cell (i := 4) rfl
  have q5 := x0.cell (i := 5) rfl
  have d0 := wb.cell (i := 0) rfl
  have d1 := wb.cell (i := 1) rfl
  have d2 := wb.cell (i := 2) rfl
  have d3 := wb.cell (i := 3) rfl
  rw [hpn] at hp
  clear kc
  go_wp2_with fail
  rw [rounds_succ]
  have HQ := putC [⟨#[58, 61]⟩] w3.heap.size 1 1 (w3.alloc (.cells #[.string ⟨#[58, 61]⟩] 9)) base g _ _ (hp.grown (grown_alloc w3 _ none)) rfl (Blk.new w3 9 [.string ⟨#[58, 61]⟩]) (by have := hp.blk.lt; omega) (by rw [put_58_61]; simp only [List.length_append, List.length_cons, List.length_nil]; omega) hg
  go_wp2_with fail
  refine HQ.mono ?_
  rintro e w4 ⟨rfl, ⟨v', hp'⟩, hq⟩
  clear q0 q1 q2 q3 q4 q5 d0 d1 d2 d3
  replace hq := (Wrote.of (grown_alloc w3 (.cells #[.string ⟨#[58, 61]⟩] 9) none)).trans hq
  clear HQ hp
  have hp := hp'
  clear hp'
  replace x0 := hq.blk x0 (by decide) hgx
  replace wb := hq.blk wb (by decide) hgw
  replace hb := hq.below hb h0 hgk
  replace hw := hw.trans hq
  clear hq
  have q0 := x0.cell (i := 0) rfl
  have q1 := x0.cell (i := 1) rfl
  have q2 := x0.cell (i := 2) rfl
  have q3 := x0.cell (i := 3) rfl
  have q4 := x0.cell (i := 4) rfl
  have q5 := x0.cell (i := 5) rfl
  have d0 := wb.cell (i := 0) rfl
  have d1 := wb.cell (i := 1) rfl
  have d2 := wb.cell (i := 2) rfl
  have d3 := wb.cell (i := 3) rfl
  rw [put_58_61] at hp
  go_wp2_with fail
  rw [rounds_succ]
  have HQ := S0 w0 w4 [u00, u01, u02, u03, u04] base g _ _ hT hv0 hb h0 hg hp hk0 (by simp only [List.length_append, List.length_cons, List.length_nil]; omega)
  simp only [agg] at HQ
  have t0 := cell_on hc00 hb
  have t1 := cell_on hc01 hb
  have t2 := cell_on hc02 hb
  have t3 := cell_on hc03 hb
  have t4 := cell_on hc04 hb
  go_wp2_with fail
  refine HQ.mono ?_
  rintro e w5 ⟨rfl, ⟨v', hp'⟩, hq⟩
  clear t0 t1 t2 t3 t4
  clear q0 q1 q2 q3 q4 q5 d0 d1 d2 d3
  clear HQ hp
  have hp := hp'
  clear hp'
  replace x0 := hq.blk x0 (by decide) hgx
  replace wb := hq.blk wb (by decide) hgw
  replace hb := hq.below hb h0 hgk
  replace hw := hw.trans hq
  clear hq
  have q0 := x0.cell (i := 0) rfl
  have q1 := x0.cell (i := 1) rfl
  have q2 := x0.cell (i := 2) rfl
  have q3 := x0.cell (i := 3) rfl
  have q4 := x0.cell (i := 4) rfl
  have q5 := x0.cell (i := 5) rfl
  have d0 := wb.cell (i := 0) rfl
  have d1 := wb.cell (i := 1) rfl
  have d2 := wb.cell (i := 2) rfl
  have d3 := wb.cell (i := 3) rfl
  rcases cc with _ | cc
  all_goals
    go_wp2_with fail
    rw [rounds_succ]
    have HQ := putC [⟨#[59]⟩] w5.heap.size 1 1 (w5.alloc (.cells #[.string ⟨#[59]⟩] 9)) base g _ _ (hp.grown (grown_alloc w5 _ none)) rfl (Blk.new w5 9 [.string ⟨#[59]⟩]) (by have := hp.blk.lt; omega) (by rw [put_59]; simp only [List.length_append, List.length_cons, List.length_nil]; omega) hg
    go_wp2_with fail
    refine HQ.mono ?_
    rintro e w6 ⟨rfl, ⟨v', hp'⟩, hq⟩
    clear q0 q1 q2 q3 q4 q5 d0 d1 d2 d3
    replace hq := (Wrote.of (grown_alloc w5 (.cells #[.string ⟨#[59]⟩] 9) none)).trans hq
    clear HQ hp
    have hp := hp'
    clear hp'
    replace x0 := hq.blk x0 (by decide) hgx
    replace wb := hq.blk wb (by decide) hgw
    replace hb := hq.below hb h0 hgk
    replace hw := hw.trans hq
    clear hq
    have q0 := x0.cell (i := 0) rfl
    have q1 := x0.cell (i := 1) rfl
    have q2 := x0.cell (i := 2) rfl
    have q3 := x0.cell (i := 3) rfl
    have q4 := x0.cell (i := 4) rfl
    have q5 := x0.cell (i := 5) rfl
    have d0 := wb.cell (i := 0) rfl
    have d1 := wb.cell (i := 1) rfl
    have d2 := wb.cell (i := 2) rfl
    have d3 := wb.cell (i := 3) rfl
    rw [put_59] at hp
    go_wp2_with fail
    rw [rounds_succ]
    go_wp2_with fail
    have hfin : ∃ v', Pg w6 base g (l ++ prS (.mk 0 n name [e0] bs es)) v' := ⟨_, by rw [HE.out]; simpa [List.append_assoc] using hp⟩
    exact bodyPost_end (results_none rfl _ _ _) rfl ⟨rfl, hfin, hw⟩

set_option maxHeartbeats 4000000 in
theorem prSt1 (n : Int) (name : List Int) (e0 : Ex) (S0 : PrEx e0) (e1 : Ex) (S1 : PrEx e1) (bs es : List St) (Sb : PrSts bs) (Se : PrSts es) : PrSt (.mk 1 n name [e0, e1] bs es) := by
  intro w0 w vs base g l v hT hr hb h0 hg hp hok hsz
  unfold St.fl at hr
  obtain ⟨y0, _, rfl, rfl, y1, _, rfl, rfl, y2, _, rfl, ⟨a2, c2, rfl, h2, hc2, _⟩, y3, _, rfl, h3', y4, _, rfl, h4', y5, _, rfl, h5', rfl⟩ := hr
  obtain ⟨a3, c3, rfl, h3⟩ := h3'.list
  obtain ⟨a4, c4, rfl, h4⟩ := h4'.list
  obtain ⟨a5, c5, rfl, h5⟩ := h5'.list
  clear h3' h4' h5'
  have hkl : (exs [e0, e1]).length = 2 := by simp [exs_map]
  have hbl : (sts bs).length = bs.length := by simp [sts_map]
  have hel : (sts es).length = es.length := by simp [sts_map]
  rw [hkl, hbl, hel]
  simp only [agg]
  obtain ⟨b4, o4, rfl⟩ := h3.addr (by rw [hkl]; omega)
  obtain ⟨cc, rfl⟩ : ∃ cc, c3 = cc + 2 := ⟨c3 - 2, by have := h3.cap; rw [hkl] at this; omega⟩
  obtain ⟨us0, hv0, hcl0⟩ := (h3.el (i := 0) rfl).vals
  obtain ⟨u00, u01, u02, u03, u04, rfl⟩ : ∃ a b c d e, us0 = [a, b, c, d, e] := by
    have hl := hv0.len
    rw [exs_len] at hl
    match us0, hl with
    | [a, b, c, d, e], _ => exact ⟨a, b, c, d, e, rfl⟩
  have hc00 : w0.cell? ⟨b4, o4, none⟩ = some u00 := by have := hcl0 0 _ rfl; simpa using this
  have hc01 : w0.cell? ⟨b4, o4 + 1, none⟩ = some u01 := by have := hcl0 1 _ rfl; simpa using this
  have hc02 : w0.cell? ⟨b4, o4 + 2, none⟩ = some u02 := by have := hcl0 2 _ rfl; simpa using this
  have hc03 : w0.cell? ⟨b4, o4 + 3, none⟩ = some u03 := by have := hcl0 3 _ rfl; simpa using this
  have hc04 : w0.cell? ⟨b4, o4 + 4, none⟩ = some u04 := by have := hcl0 4 _ rfl; simpa using this
  clear hcl0
  obtain ⟨us1, hv1, hcl1⟩ := (h3.el (i := 1) rfl).vals
  obtain ⟨u10, u11, u12, u13, u14, rfl⟩ : ∃ a b c d e, us1 = [a, b, c, d, e] := by
    have hl := hv1.len
    rw [exs_len] at hl
    match us1, hl with
    | [a, b, c, d, e], _ => exact ⟨a, b, c, d, e, rfl⟩
  have hc10 : w0.cell? ⟨b4, o4 + 5, none⟩ = some u10 := by have := hcl1 0 _ rfl; simpa using this
  have hc11 : w0.cell? ⟨b4, o4 + 5 + 1, none⟩ = some u11 := by have := hcl1 1 _ rfl; simpa using this
  have hc12 : w0.cell? ⟨b4, o4 + 5 + 2, none⟩ = some u12 := by have := hcl1 2 _ rfl; simpa using this
  have hc13 : w0.cell? ⟨b4, o4 + 5 + 3, none⟩ = some u13 := by have := hcl1 3 _ rfl; simpa using this
  have hc14 : w0.cell? ⟨b4, o4 + 5 + 4, none⟩ = some u14 := by have := hcl1 4 _ rfl; simpa using this
  clear hcl1
  have hoks := (okSt_parts hok).2.1
  simp only [okExs, Bool.and_eq_true, and_true] at hoks
  have hk0 := hoks.1
  have hk1 := hoks.2
  have he : prS (.mk 1 n name [e0, e1] bs es) = (name ++ [32]) ++ ([91, 32]) ++ (prE e0) ++ ([93, 32]) ++ ([58, 61, 32]) ++ (prE e1) ++ ([59, 10]) := by simp [prS, prEs, stText]
  rw [he] at hsz
  simp only [List.length_append, List.length_cons, List.length_nil] at hsz
  have HE : Hid (prS (.mk 1 n name [e0, e1] bs es) = (name ++ [32]) ++ ([91, 32]) ++ (prE e0) ++ ([93, 32]) ++ ([58, 61, 32]) ++ (prE e1) ++ ([59, 10])) := he
  clear he
  have hloc := (okSt_parts hok).1
  skip
  have hnm := sloc_name hloc (by decide)
  have hpn := put_one_name (g := false) h2.2.1 hnm
  have hokb := (okSt_parts hok).2.2.1
  have hoke := (okSt_parts hok).2.2.2
  clear hok
  have hgl := hp.blk.lt
  have hgx : some w.heap.size ≠ some g := by simp; omega
  have hgk : ∀ k, some g = some k → w0.heap.size ≤ k := by intro k e; cases e; omega
  have x0 := Blk.new w 133 [.int .i64 1, .int .i64 n, .slice a2 name.length c2, .slice (some ⟨b4, o4, none⟩) 2 (cc + 2), .slice a4 bs.length c4, .slice a5 es.length c5]
  have hw : Wrote base (some g) w (w.alloc (.cells #[.int .i64 1, .int .i64 n, .slice a2 name.length c2, .slice (some ⟨b4, o4, none⟩) 2 (cc + 2), .slice a4 bs.length c4, .slice a5 es.length c5] 133 (0, 0))) := Wrote.of (grown_alloc w _ none)
  replace hb : Below w0.heap.size w0 (w.alloc (.cells #[.int .i64 1, .int .i64 n, .slice a2 name.length c2, .slice (some ⟨b4, o4, none⟩) 2 (cc + 2), .slice a4 bs.length c4, .slice a5 es.length c5] 133 (0, 0))) := hb.alloc hb.size _
  replace hp := hp.grown (grown_alloc w (.cells #[.int .i64 1, .int .i64 n, .slice a2 name.length c2, .slice (some ⟨b4, o4, none⟩) 2 (cc + 2), .slice a4 bs.length c4, .slice a5 es.length c5] 133 (0, 0)) none)
  go_enter Tryz.func153, Tryz.ntmps153
  have q3 := x0.cell (i := 3) rfl
  go_upto_region 2 with fail
  clear q3
  generalize w.alloc (.cells #[.int .i64 1, .int .i64 n, .slice a2 name.length c2, .slice (some ⟨b4, o4, none⟩) 2 (cc + 2), .slice a4 bs.length c4, .slice a5 es.length c5] 133 (0, 0)) = w1 at *
  generalize w.heap.size = gx at *
  have q0 := x0.cell (i := 0) rfl
  have hF := (hT.below hb).st 1 (by omega)
  have z0 := hF.c0
  have z1 := hF.c1
  have z2 := hF.c2
  have z3 := hF.c3
  have z4 := hF.c4
  have HQ := wordsC (stF 1) (stPlain 1) w1 (hT.below hb)
  rw [stW1] at HQ
  unfold Fm.val at HQ
  clear hF
  simp only [Nat.reduceMul, Nat.reduceAdd, Nat.zero_mul, Nat.zero_add] at z0 z1 z2 z3 z4
  go_wp2_with fail
  refine HQ.mono ?_
  rintro e w2 ⟨gw, rfl, wb, hgw', hq⟩
  clear HQ q0 z0 z1 z2 z3 z4
  have hgw : some gw ≠ some g := by have := hp.blk.lt; simp; omega
  replace x0 := x0.below (below_grown hq) x0.lt
  replace hb := hb.trans ((below_grown hq).mono hb.size)
  replace hw := hw.trans (Wrote.of hq)
  replace hp := hp.grown hq
  clear hq hgw' hgl
  simp only [strs, List.map_cons, List.map_nil, List.length_cons, List.length_nil] at wb ⊢
  have q0 := x0.cell (i := 0) rfl
  have q1 := x0.cell (i := 1) rfl
  have q2 := x0.cell (i := 2) rfl
  have q3 := x0.cell (i := 3) rfl
  have q4 := x0.cell (i := 4) rfl
  have q5 := x0.cell (i := 5) rfl
  have d0 := wb.cell (i := 0) rfl
  have d1 := wb.cell (i := 1) rfl
  have d2 := wb.cell (i := 2) rfl
  have d3 := wb.cell (i := 3) rfl
  have d4 := wb.cell (i := 4) rfl
  have d5 := wb.cell (i := 5) rfl
  have d6 := wb.cell (i := 6) rfl
  go_wp2_with fail
  refine wp_loop_rounds 8 ?_
  rw [rounds_succ]
  have kc := conv_bytes c2 (h2.below hb)
  have HQ := putC [(strOfNums name)] w2.heap.size 1 1 (w2.alloc (.cells #[.string (strOfNums name)] 9)) base g _ _ (hp.grown (grown_alloc w2 _ none)) rfl (Blk.new w2 9 [.string (strOfNums name)]) (by have := hp.blk.lt; omega) (by rw [hpn]; simp only [List.length_append, List.length_cons, List.length_nil]; omega) hg
  go_wp2_with fail
  refine HQ.mono ?_
  rintro e w3 ⟨rfl, ⟨v', hp'⟩, hq⟩
  clear q0 q1 q2 q3 q4 q5 d0 d1 d2 d3 d4 d5 d6
  replace hq := (Wrote.of (grown_alloc w2 (.cells #[.string (strOfNums name)] 9) none)).trans hq
  clear HQ hp
  have hp := hp'
  clear hp'
  replace x0 := hq.blk x0 (by decide) hgx
  replace wb := hq.blk wb (by decide) hgw
  replace hb := hq.below hb h0 hgk
  replace hw := hw.trans hq
  clear hq
  have q0 := x0.cell (i := 0) rfl
  have q1 := x0.cell (i := 1) rfl
  have q2 := x0.cell (i := 2) rfl
  have q3 := x0.cell (i := 3) rfl
  have q4 := x0.cell (i := 4) rfl
  have q5 := x0.cell (i := 5) rfl
  have d0 := wb.cell (i := 0) rfl
  have d1 := wb.cell (i := 1) rfl
  have d2 := wb.cell (i := 2) rfl
  have d3 := wb.cell (i := 3) rfl
  have d4 := wb.cell (i := 4) rfl
  have d5 := wb.cell (i := 5) rfl
  have d6 := wb.cell (i := 6) rfl
  rw [hpn] at hp
  clear kc
  go_wp2_with fail
  rw [rounds_succ]
  have HQ := putC [⟨#[91]⟩] w3.heap.size 1 1 (w3.alloc (.cells #[.string ⟨#[91]⟩] 9)) base g _ _ (hp.grown (grown_alloc w3 _ none)) rfl (Blk.new w3 9 [.string ⟨#[91]⟩]) (by have := hp.blk.lt; omega) (by rw [put_91]; simp only [List.length_append, List.length_cons, List.length_nil]; omega) hg
  go_wp2_with fail
  refine HQ.mono ?_
  rintro e w4 ⟨rfl, ⟨v', hp'⟩, hq⟩
  clear q0 q1 q2 q3 q4 q5 d0 d1 d2 d3 d4 d5 d6
  replace hq := (Wrote.of (grown_alloc w3 (.cells #[.string ⟨#[91]⟩] 9) none)).trans hq
  clear HQ hp
  have hp := hp'
  clear hp'
  replace x0 := hq.blk x0 (by decide) hgx
  replace wb := hq.blk wb (by decide) hgw
  replace hb := hq.below hb h0 hgk
  replace hw := hw.trans hq
  clear hq
  have q0 := x0.cell (i := 0) rfl
  have q1 := x0.cell (i := 1) rfl
  have q2 := x0.cell (i := 2) rfl
  have q3 := x0.cell (i := 3) rfl
  have q4 := x0.cell (i := 4) rfl
  have q5 := x0.cell (i := 5) rfl
  have d0 := wb.cell (i := 0) rfl
  have d1 := wb.cell (i := 1) rfl
  have d2 := wb.cell (i := 2) rfl
  have d3 := wb.cell (i := 3) rfl
  have d4 := wb.cell (i := 4) rfl
  have d5 := wb.cell (i := 5) rfl
  have d6 := wb.cell (i := 6) rfl
  rw [put_91] at hp
  go_wp2_with fail
  rw [rounds_succ]
  have HQ := S0 w0 w4 [u00, u01, u02, u03, u04] base g _ _ hT hv0 hb h0 hg hp hk0 (by simp only [List.length_append, List.length_cons, List.length_nil]; omega)
  simp only [agg] at HQ
  have t0 := cell_on hc00 hb
  have t1 := cell_on hc01 hb
  have t2 := cell_on hc02 hb
  have t3 := cell_on hc03 hb
  have t4 := cell_on hc04 hb
  go_wp2_with fail
  refine HQ.mono ?_
  rintro e w5 ⟨rfl, ⟨v', hp'⟩, hq⟩
  clear t0 t1 t2 t3 t4
  clear q0 q1 q2 q3 q4 q5 d0 d1 d2 d3 d4 d5 d6
  clear HQ hp
  have hp := hp'
  clear hp'
  replace x0 := hq.blk x0 (by decide) hgx
  replace wb := hq.blk wb (by decide) hgw
  replace hb := hq.below hb h0 hgk
  replace hw := hw.trans hq
  clear hq
  have q0 := x0.cell (i := 0) rfl
  have q1 := x0.cell (i := 1) rfl
  have q2 := x0.cell (i := 2) rfl
  have q3 := x0.cell (i := 3) rfl
  have q4 := x0.cell (i := 4) rfl
  have q5 := x0.cell (i := 5) rfl
  have d0 := wb.cell (i := 0) rfl
  have d1 := wb.cell (i := 1) rfl
  have d2 := wb.cell (i := 2) rfl
  have d3 := wb.cell (i := 3) rfl
  have d4 := wb.cell (i := 4) rfl
  have d5 := wb.cell (i := 5) rfl
  have d6 := wb.cell (i := 6) rfl
  go_wp2_with fail
  rw [rounds_succ]
  have HQ := putC [⟨#[93]⟩] w5.heap.size 1 1 (w5.alloc (.cells #[.string ⟨#[93]⟩] 9)) base g _ _ (hp.grown (grown_alloc w5 _ none)) rfl (Blk.new w5 9 [.string ⟨#[93]⟩]) (by have := hp.blk.lt; omega) (by rw [put_93]; simp only [List.length_append, List.length_cons, List.length_nil]; omega) hg
  go_wp2_with fail
  refine HQ.mono ?_
  rintro e w6 ⟨rfl, ⟨v', hp'⟩, hq⟩
  clear q0 q1 q2 q3 q4 q5 d0 d1 d2 d3 d4 d5 d6
  replace hq := (Wrote.of (grown_alloc w5 (.cells #[.string ⟨#[93]⟩] 9) none)).trans hq
  clear HQ hp
  have hp := hp'
  clear hp'
  replace x0 := hq.blk x0 (by decide) hgx
  replace wb := hq.blk wb (by decide) hgw
  replace hb := hq.below hb h0 hgk
  replace hw := hw.trans hq
  clear hq
  have q0 := x0.cell (i := 0) rfl
  have q1 := x0.cell (i := 1) rfl
  have q2 := x0.cell (i := 2) rfl
  have q3 := x0.cell (i := 3) rfl
  have q4 := x0.cell (i := 4) rfl
  have q5 := x0.cell (i := 5) rfl
  have d0 := wb.cell (i := 0) rfl
  have d1 := wb.cell (i := 1) rfl
  have d2 := wb.cell (i := 2) rfl
  have d3 := wb.cell (i := 3) rfl
  have d4 := wb.cell (i := 4) rfl
  have d5 := wb.cell (i := 5) rfl
  have d6 := wb.cell (i := 6) rfl
  rw [put_93] at hp
  go_wp2_with fail
  rw [rounds_succ]
  have HQ := putC [⟨#[58, 61]⟩] w6.heap.size 1 1 (w6.alloc (.cells #[.string ⟨#[58, 61]⟩] 9)) base g _ _ (hp.grown (grown_alloc w6 _ none)) rfl (Blk.new w6 9 [.string ⟨#[58, 61]⟩]) (by have := hp.blk.lt; omega) (by rw [put_58_61]; simp only [List.length_append, List.length_cons, List.length_nil]; omega) hg
  go_wp2_with fail
  refine HQ.mono ?_
  rintro e w7 ⟨rfl, ⟨v', hp'⟩, hq⟩
  clear q0 q1 q2 q3 q4 q5 d0 d1 d2 d3 d4 d5 d6
  replace hq := (Wrote.of (grown_alloc w6 (.cells #[.string ⟨#[58, 61]⟩] 9) none)).trans hq
  clear HQ hp
  have hp := hp'
  clear hp'
  replace x0 := hq.blk x0 (by decide) hgx
  replace wb := hq.blk wb (by decide) hgw
  replace hb := hq.below hb h0 hgk
  replace hw := hw.trans hq
  clear hq
  have q0 := x0.cell (i := 0) rfl
  have q1 := x0.cell (i := 1) rfl
  have q2 := x0.cell (i := 2) rfl
  have q3 := x0.cell (i := 3) rfl
  have q4 := x0.cell (i := 4) rfl
  have q5 := x0.cell (i := 5) rfl
  have d0 := wb.cell (i := 0) rfl
  have d1 := wb.cell (i := 1) rfl
  have d2 := wb.cell (i := 2) rfl
  have d3 := wb.cell (i := 3) rfl
  have d4 := wb.cell (i := 4) rfl
  have d5 := wb.cell (i := 5) rfl
  have d6 := wb.cell (i := 6) rfl
  rw [put_58_61] at hp
  go_wp2_with fail
  rw [rounds_succ]
  have HQ := S1 w0 w7 [u10, u11, u12, u13, u14] base g _ _ hT hv1 hb h0 hg hp hk1 (by simp only [List.length_append, List.length_cons, List.length_nil]; omega)
  simp only [agg] at HQ
  have t0 := cell_on hc10 hb
  have t1 := cell_on hc11 hb
  have t2 := cell_on hc12 hb
  have t3 := cell_on hc13 hb
  have t4 := cell_on hc14 hb
  go_wp2_with fail
  refine HQ.mono ?_
  rintro e w8 ⟨rfl, ⟨v', hp'⟩, hq⟩
  clear t0 t1 t2 t3 t4
  clear q0 q1 q2 q3 q4 q5 d0 d1 d2 d3 d4 d5 d6
  clear HQ hp
  have hp := hp'
  clear hp'
  replace x0 := hq.blk x0 (by decide) hgx
  replace wb := hq.blk wb (by decide) hgw
  replace hb := hq.below hb h0 hgk
  replace hw := hw.trans hq
  clear hq
  have q0 := x0.cell (i := 0) rfl
  have q1 := x0.cell (i := 1) rfl
  have q2 := x0.cell (i := 2) rfl
  have q3 := x0.cell (i := 3) rfl
  have q4 := x0.cell (i := 4) rfl
  have q5 := x0.cell (i := 5) rfl
  have d0 := wb.cell (i := 0) rfl
  have d1 := wb.cell (i := 1) rfl
  have d2 := wb.cell (i := 2) rfl
  have d3 := wb.cell (i := 3) rfl
  have d4 := wb.cell (i := 4) rfl
  have d5 := wb.cell (i := 5) rfl
  have d6 := wb.cell (i := 6) rfl
  rcases cc with _ | cc
  all_goals
    go_wp2_with fail
    rw [rounds_succ]
    have HQ := putC [⟨#[59]⟩] w8.heap.size 1 1 (w8.alloc (.cells #[.string ⟨#[59]⟩] 9)) base g _ _ (hp.grown (grown_alloc w8 _ none)) rfl (Blk.new w8 9 [.string ⟨#[59]⟩]) (by have := hp.blk.lt; omega) (by rw [put_59]; simp only [List.length_append, List.length_cons, List.length_nil]; omega) hg
    go_wp2_with fail
    refine HQ.mono ?_
    rintro e w9 ⟨rfl, ⟨v', hp'⟩, hq⟩
    clear q0 q1 q2 q3 q4 q5 d0 d1 d2 d3 d4 d5 d6
    replace hq := (Wrote.of (grown_alloc w8 (.cells #[.string ⟨#[59]⟩] 9) none)).trans hq
    clear HQ hp
    have hp := hp'
    clear hp'
    replace x0 := hq.blk x0 (by decide) hgx
    replace wb := hq.blk wb (by decide) hgw
    replace hb := hq.below hb h0 hgk
    replace hw := hw.trans hq
    clear hq
    have q0 := x0.cell (i := 0) rfl
    have q1 := x0.cell (i := 1) rfl
    have q2 := x0.cell (i := 2) rfl
    have q3 := x0.cell (i := 3) rfl
    have q4 := x0.cell (i := 4) rfl
    have q5 := x0.cell (i := 5) rfl
    have d0 := wb.cell (i := 0) rfl
    have d1 := wb.cell (i := 1) rfl
    have d2 := wb.cell (i := 2) rfl
    have d3 := wb.cell (i := 3) rfl
    have d4 := wb.cell (i := 4) rfl
    have d5 := wb.cell (i := 5) rfl
    have d6 := wb.cell (i := 6) rfl
    rw [put_59] at hp
    go_wp2_with fail
    rw [rounds_succ]
    go_wp2_with fail
    have hfin : ∃ v', Pg w9 base g (l ++ prS (.mk 1 n name [e0, e1] bs es)) v' := ⟨_, by rw [HE.out]; simpa [List.append_assoc] using hp⟩
    exact bodyPost_end (results_none rfl _ _ _) rfl ⟨rfl, hfin, hw⟩

set_option maxHeartbeats 4000000 in
theorem prSt2 (n : Int) (name : List Int) (e0 : Ex) (S0 : PrEx e0) (bs es : List St) (Sb : PrSts bs) (Se : PrSts es) : PrSt (.mk 2 n name [e0] bs es) := by
  intro w0 w vs base g l v hT hr hb h0 hg hp hok hsz
  unfold St.fl at hr
  obtain ⟨y0, _, rfl, rfl, y1, _, rfl, rfl, y2, _, rfl, ⟨a2, c2, rfl, h2, hc2, _⟩, y3, _, rfl, h3', y4, _, rfl, h4', y5, _, rfl, h5', rfl⟩ := hr
  obtain ⟨a3, c3, rfl, h3⟩ := h3'.list
  obtain ⟨a4, c4, rfl, h4⟩ := h4'.list
  obtain ⟨a5, c5, rfl, h5⟩ := h5'.list
  clear h3' h4' h5'
  have hkl : (exs [e0]).length = 1 := by simp [exs_map]
  have hbl : (sts bs).length = bs.length := by simp [sts_map]
  have hel : (sts es).length = es.length := by simp [sts_map]
  rw [hkl, hbl, hel]
  simp only [agg]
  obtain ⟨b4, o4, rfl⟩ := h3.addr (by rw [hkl]; omega)
  obtain ⟨cc, rfl⟩ : ∃ cc, c3 = cc + 1 := ⟨c3 - 1, by have := h3.cap; rw [hkl] at this; omega⟩
  obtain ⟨us0, hv0, hcl0⟩ := (h3.el (i := 0) rfl).vals
  obtain ⟨u00, u01, u02, u03, u04, rfl⟩ : ∃ a b c d e, us0 = [a, b, c, d, e] := by
    have hl := hv0.len
    rw [exs_len] at hl
    match us0, hl with
    | [a, b, c, d, e], _ => exact ⟨a, b, c, d, e, rfl⟩
  have hc00 : w0.cell? ⟨b4, o4, none⟩ = some u00 := by have := hcl0 0 _ rfl; simpa using this
  have hc01 : w0.cell? ⟨b4, o4 + 1, none⟩ = some u01 := by have := hcl0 1 _ rfl; simpa using this
  have hc02 : w0.cell? ⟨b4, o4 + 2, none⟩ = some u02 := by have := hcl0 2 _ rfl; simpa using this
  have hc03 : w0.cell? ⟨b4, o4 + 3, none⟩ = some u03 := by have := hcl0 3 _ rfl; simpa using this
  have hc04 : w0.cell? ⟨b4, o4 + 4, none⟩ = some u04 := by have := hcl0 4 _ rfl; simpa using this
  clear hcl0
  have hoks := (okSt_parts hok).2.1
  simp only [okExs, Bool.and_eq_true, and_true] at hoks
  have hk0 := hoks
  have he : prS (.mk 2 n name [e0] bs es) = ([73, 70, 32]) ++ (prE e0) ++ ([84, 72, 69, 78, 10]) ++ (prB bs) ++ ([69, 76, 83, 69, 10]) ++ (prB es) ++ ([69, 78, 68, 32]) ++ ([59, 10]) := by simp [prS, prEs, stText]
  rw [he] at hsz
  simp only [List.length_append, List.length_cons, List.length_nil] at hsz
  have HE : Hid (prS (.mk 2 n name [e0] bs es) = ([73, 70, 32]) ++ (prE e0) ++ ([84, 72, 69, 78, 10]) ++ (prB bs) ++ ([69, 76, 83, 69, 10]) ++ (prB es) ++ ([69, 78, 68, 32]) ++ ([59, 10])) := he
  clear he
  have hloc := (okSt_parts hok).1
  skip
  skip
  skip
  have hokb := (okSt_parts hok).2.2.1
  have hoke := (okSt_parts hok).2.2.2
  clear hok
  have hgl := hp.blk.lt
  have hgx : some w.heap.size ≠ some g := by simp; omega
  have hgk : ∀ k, some g = some k → w0.heap.size ≤ k := by intro k e; cases e; omega
  have x0 := Blk.new w 133 [.int .i64 2, .int .i64 n, .slice a2 name.length c2, .slice (some ⟨b4, o4, none⟩) 1 (cc + 1), .slice a4 bs.length c4, .slice a5 es.length c5]
  have hw : Wrote base (some g) w (w.alloc (.cells #[.int .i64 2, .int .i64 n, .slice a2 name.length c2, .slice (some ⟨b4, o4, none⟩) 1 (cc + 1), .slice a4 bs.length c4, .slice a5 es.length c5] 133 (0, 0))) := Wrote.of (grown_alloc w _ none)
  replace hb : Below w0.heap.size w0 (w.alloc (.cells #[.int .i64 2, .int .i64 n, .slice a2 name.length c2, .slice (some ⟨b4, o4, none⟩) 1 (cc + 1), .slice a4 bs.length c4, .slice a5 es.length c5] 133 (0, 0))) := hb.alloc hb.size _
  replace hp := hp.grown (grown_alloc w (.cells #[.int .i64 2, .int .i64 n, .slice a2 name.length c2, .slice (some ⟨b4, o4, none⟩) 1 (cc + 1), .slice a4 bs.length c4, .slice a5 es.length c5] 133 (0, 0)) none)
  go_enter Tryz.func153, Tryz.ntmps153
  have q3 := x0.cell (i := 3) rfl
  go_upto_region 2 with fail
  clear q3
  generalize w.alloc (.cells #[.int .i64 2, .int .i64 n, .slice a2 name.length c2, .slice (some ⟨b4, o4, none⟩) 1 (cc + 1), .slice a4 bs.length c4, .slice a5 es.length c5] 133 (0, 0)) = w1 at *
  generalize w.heap.size = gx at *
  have q0 := x0.cell (i := 0) rfl
  have hF := (hT.below hb).st 2 (by omega)
  have z0 := hF.c0
  have z1 := hF.c1
  have z2 := hF.c2
  have z3 := hF.c3
  have z4 := hF.c4
  have HQ := wordsC (stF 2) (stPlain 2) w1 (hT.below hb)
  rw [stW2] at HQ
  unfold Fm.val at HQ
  clear hF
  simp only [Nat.reduceMul, Nat.reduceAdd, Nat.zero_mul, Nat.zero_add] at z0 z1 z2 z3 z4
  go_wp2_with fail
  refine HQ.mono ?_
  rintro e w2 ⟨gw, rfl, wb, hgw', hq⟩
  clear HQ q0 z0 z1 z2 z3 z4
  have hgw : some gw ≠ some g := by have := hp.blk.lt; simp; omega
  replace x0 := x0.below (below_grown hq) x0.lt
  replace hb := hb.trans ((below_grown hq).mono hb.size)
  replace hw := hw.trans (Wrote.of hq)
  replace hp := hp.grown hq
  clear hq hgw' hgl
  simp only [strs, List.map_cons, List.map_nil, List.length_cons, List.length_nil] at wb ⊢
  have q0 := x0.cell (i := 0) rfl
  have q1 := x0.cell (i := 1) rfl
  have q2 := x0.cell (i := 2) rfl
  have q3 := x0.cell (i := 3) rfl
  have q4 := x0.cell (i := 4) rfl
  have q5 := x0.cell (i := 5) rfl
  have d0 := wb.cell (i := 0) rfl
  have d1 := wb.cell (i := 1) rfl
  have d2 := wb.cell (i := 2) rfl
  have d3 := wb.cell (i := 3) rfl
  have d4 := wb.cell (i := 4) rfl
  have d5 := wb.cell (i := 5) rfl
  have d6 := wb.cell (i := 6) rfl
  have d7 := wb.cell (i := 7) rfl
  go_wp2_with fail
  refine wp_loop_rounds 9 ?_
  rw [rounds_succ]
  have HQ := putC [⟨#[73, 70]⟩] w2.heap.size 1 1 (w2.alloc (.cells #[.string ⟨#[73, 70]⟩] 9)) base g _ _ (hp.grown (grown_alloc w2 _ none)) rfl (Blk.new w2 9 [.string ⟨#[73, 70]⟩]) (by have := hp.blk.lt; omega) (by rw [put_73_70]; simp only [List.length_append, List.length_cons, List.length_nil]; omega) hg
  go_wp2_with fail
  refine HQ.mono ?_
  rintro e w3 ⟨rfl, ⟨v', hp'⟩, hq⟩
  clear q0 q1 q2 q3 q4 q5 d0 d1 d2 d3 d4 d5 d6 d7
  replace hq := (Wrote.of (grown_alloc w2 (.cells #[.string ⟨#[73, 70]⟩] 9) none)).trans hq
  clear HQ hp
  have hp := hp'
  clear hp'
  replace x0 := hq.blk x0 (by decide) hgx
  replace wb := hq.blk wb (by decide) hgw
  replace hb := hq.below hb h0 hgk
  replace hw := hw.trans hq
  clear hq
  have q0 := x0.cell (i := 0) rfl
  have q1 := x0.cell (i := 1) rfl
  have q2 := x0.cell (i := 2) rfl
  have q3 := x0.cell (i := 3) rfl
  have q4 := x0.cell (i := 4) rfl
  have q5 := x0.cell (i := 5) rfl
  have d0 := wb.cell (i := 0) rfl
  have d1 := wb.cell (i := 1) rfl
  have d2 := wb.cell (i := 2) rfl
  have d3 := wb.cell (i := 3) rfl
  have d4 := wb.cell (i := 4) rfl
  have d5 := wb.cell (i := 5) rfl
  have d6 := wb.cell (i := 6) rfl
  have d7 := wb.cell (i := 7) rfl
  rw [put_73_70] at hp
  go_wp2_with fail
  rw [rounds_succ]
  have HQ := S0 w0 w3 [u00, u01, u02, u03, u04] base g _ _ hT hv0 hb h0 hg hp hk0 (by simp only [List.length_append, List.length_cons, List.length_nil]; omega)
  simp only [agg] at HQ
  have t0 := cell_on hc00 hb
  have t1 := cell_on hc01 hb
  have t2 := cell_on hc02 hb
  have t3 := cell_on hc03 hb
  have t4 := cell_on hc04 hb
  go_wp2_with fail
  refine HQ.mono ?_
  rintro e w4 ⟨rfl, ⟨v', hp'⟩, hq⟩
  clear t0 t1 t2 t3 t4
  clear q0 q1 q2 q3 q4 q5 d0 d1 d2 d3 d4 d5 d6 d7
  clear HQ hp
  have hp := hp'
  clear hp'
  replace x0 := hq.blk x0 (by decide) hgx
  replace wb := hq.blk wb (by decide) hgw
  replace hb := hq.below hb h0 hgk
  replace hw := hw.trans hq
  clear hq
  have q0 := x0.cell (i := 0) rfl
  have q1 := x0.cell (i := 1) rfl
  have q2 := x0.cell (i := 2) rfl
  have q3 := x0.cell (i := 3) rfl
  have q4 := x0.cell (i := 4) rfl
  have q5 := x0.cell (i := 5) rfl
  have d0 := wb.cell (i := 0) rfl
  have d1 := wb.cell (i := 1) rfl
  have d2 := wb.cell (i := 2) rfl
  have d3 := wb.cell (i := 3) rfl
  have d4 := wb.cell (i := 4) rfl
  have d5 := wb.cell (i := 5) rfl
  have d6 := wb.cell (i := 6) rfl
  have d7 := wb.cell (i := 7) rfl
  rcases cc with _ | cc
  all_goals
    go_wp2_with fail
    rw [rounds_succ]
    have HQ := putC [⟨#[84, 72, 69, 78]⟩] w4.heap.size 1 1 (w4.alloc (.cells #[.string ⟨#[84, 72, 69, 78]⟩] 9)) base g _ _ (hp.grown (grown_alloc w4 _ none)) rfl (Blk.new w4 9 [.string ⟨#[84, 72, 69, 78]⟩]) (by have := hp.blk.lt; omega) (by rw [put_84_72_69_78]; simp only [List.length_append, List.length_cons, List.length_nil]; omega) hg
    go_wp2_with fail
    refine HQ.mono ?_
    rintro e w5 ⟨rfl, ⟨v', hp'⟩, hq⟩
    clear q0 q1 q2 q3 q4 q5 d0 d1 d2 d3 d4 d5 d6 d7
    replace hq := (Wrote.of (grown_alloc w4 (.cells #[.string ⟨#[84, 72, 69, 78]⟩] 9) none)).trans hq
    clear HQ hp
    have hp := hp'
    clear hp'
    replace x0 := hq.blk x0 (by decide) hgx
    replace wb := hq.blk wb (by decide) hgw
    replace hb := hq.below hb h0 hgk
    replace hw := hw.trans hq
    clear hq
    have q0 := x0.cell (i := 0) rfl
    have q1 := x0.cell (i := 1) rfl
    have q2 := x0.cell (i := 2) rfl
    have q3 := x0.cell (i := 3) rfl
    have q4 := x0.cell (i := 4) rfl
    have q5 := x0.cell (i := 5) rfl
    have d0 := wb.cell (i := 0) rfl
    have d1 := wb.cell (i := 1) rfl
    have d2 := wb.cell (i := 2) rfl
    have d3 := wb.cell (i := 3) rfl
    have d4 := wb.cell (i := 4) rfl
    have d5 := wb.cell (i := 5) rfl
    have d6 := wb.cell (i := 6) rfl
    have d7 := wb.cell (i := 7) rfl
    rw [put_84_72_69_78] at hp
    go_wp2_with fail
    rw [rounds_succ]
    have HQ := Sb w0 w5 a4 c4 base g _ _ hT h4 hb h0 hg hp hokb (by simp only [List.length_append, List.length_cons, List.length_nil]; omega)
    go_wp2_with fail
    refine HQ.mono ?_
    rintro e w6 ⟨rfl, ⟨v', hp'⟩, hq⟩
    clear q0 q1 q2 q3 q4 q5 d0 d1 d2 d3 d4 d5 d6 d7
    clear HQ hp
    have hp := hp'
    clear hp'
    replace x0 := hq.blk x0 (by decide) hgx
    replace wb := hq.blk wb (by decide) hgw
    replace hb := hq.below hb h0 hgk
    replace hw := hw.trans hq
    clear hq
    have q0 := x0.cell (i := 0) rfl
    have q1 := x0.cell (i := 1) rfl
    have q2 := x0.cell (i := 2) rfl
    have q3 := x0.cell (i := 3) rfl
    have q4 := x0.cell (i := 4) rfl
    have q5 := x0.cell (i := 5) rfl
    have d0 := wb.cell (i := 0) rfl
    have d1 := wb.cell (i := 1) rfl
    have d2 := wb.cell (i := 2) rfl
    have d3 := wb.cell (i := 3) rfl
    have d4 := wb.cell (i := 4) rfl
    have d5 := wb.cell (i := 5) rfl
    have d6 := wb.cell (i := 6) rfl
    have d7 := wb.cell (i := 7) rfl
    go_wp2_with fail
    rw [rounds_succ]
    have HQ := putC [⟨#[69, 76, 83, 69]⟩] w6.heap.size 1 1 (w6.alloc (.cells #[.string ⟨#[69, 76, 83, 69]⟩] 9)) base g _ _ (hp.grown (grown_alloc w6 _ none)) rfl (Blk.new w6 9 [.string ⟨#[69, 76, 83, 69]⟩]) (by have := hp.blk.lt; omega) (by rw [put_69_76_83_69]; simp only [List.length_append, List.length_cons, List.length_nil]; omega) hg
    go_wp2_with fail
    refine HQ.mono ?_
    rintro e w7 ⟨rfl, ⟨v', hp'⟩, hq⟩
    clear q0 q1 q2 q3 q4 q5 d0 d1 d2 d3 d4 d5 d6 d7
    replace hq := (Wrote.of (grown_alloc w6 (.cells #[.string ⟨#[69, 76, 83, 69]⟩] 9) none)).trans hq
    clear HQ hp
    have hp := hp'
    clear hp'
    replace x0 := hq.blk x0 (by decide) hgx
    replace wb := hq.blk wb (by decide) hgw
    replace hb := hq.below hb h0 hgk
    replace hw := hw.trans hq
    clear hq
    have q0 := x0.cell (i := 0) rfl
    have q1 := x0.cell (i := 1) rfl
    have q2 := x0.cell (i := 2) rfl
    have q3 := x0.cell (i := 3) rfl
    have q4 := x0.cell (i := 4) rfl
    have q5 := x0.cell (i := 5) rfl
    have d0 := wb.cell (i := 0) rfl
    have d1 := wb.cell (i := 1) rfl
    have d2 := wb.cell (i := 2) rfl
    have d3 := wb.cell (i := 3) rfl
    have d4 := wb.cell (i := 4) rfl
    have d5 := wb.cell (i := 5) rfl
    have d6 := wb.cell (i := 6) rfl
    have d7 := wb.cell (i := 7) rfl
    rw [put_69_76_83_69] at hp
    go_wp2_with fail
    rw [rounds_succ]
    have HQ := Se w0 w7 a5 c5 base g _ _ hT h5 hb h0 hg hp hoke (by simp only [List.length_append, List.length_cons, List.length_nil]; omega)
    go_wp2_with fail
    refine HQ.mono ?_
    rintro e w8 ⟨rfl, ⟨v', hp'⟩, hq⟩
    clear q0 q1 q2 q3 q4 q5 d0 d1 d2 d3 d4 d5 d6 d7
    clear HQ hp
    have hp := hp'
    clear hp'
    replace x0 := hq.blk x0 (by decide) hgx
    replace wb := hq.blk wb (by decide) hgw
    replace hb := hq.below hb h0 hgk
    replace hw := hw.trans hq
    clear hq
    have q0 := x0.cell (i := 0) rfl
    have q1 := x0.cell (i := 1) rfl
    have q2 := x0.cell (i := 2) rfl
    have q3 := x0.cell (i := 3) rfl
    have q4 := x0.cell (i := 4) rfl
    have q5 := x0.cell (i := 5) rfl
    have d0 := wb.cell (i := 0) rfl
    have d1 := wb.cell (i := 1) rfl
    have d2 := wb.cell (i := 2) rfl
    have d3 := wb.cell (i := 3) rfl
    have d4 := wb.cell (i := 4) rfl
    have d5 := wb.cell (i := 5) rfl
    have d6 := wb.cell (i := 6) rfl
    have d7 := wb.cell (i := 7) rfl
    go_wp2_with fail
    rw [rounds_succ]
    have HQ := putC [⟨#[69, 78, 68]⟩] w8.heap.size 1 1 (w8.alloc (.cells #[.string ⟨#[69, 78, 68]⟩] 9)) base g _ _ (hp.grown (grown_alloc w8 _ none)) rfl (Blk.new w8 9 [.string ⟨#[69, 78, 68]⟩]) (by have := hp.blk.lt; omega) (by rw [put_69_78_68]; simp only [List.length_append, List.length_cons, List.length_nil]; omega) hg
    go_wp2_with fail
    refine HQ.mono ?_
    rintro e w9 ⟨rfl, ⟨v', hp'⟩, hq⟩
    clear q0 q1 q2 q3 q4 q5 d0 d1 d2 d3 d4 d5 d6 d7
    replace hq := (Wrote.of (grown_alloc w8 (.cells #[.string ⟨#[69, 78, 68]⟩] 9) none)).trans hq
    clear HQ hp
    have hp := hp'
    clear hp'
    replace x0 := hq.blk x0 (by decide) hgx
    replace wb := hq.blk wb (by decide) hgw
    replace hb := hq.below hb h0 hgk
    replace hw := hw.trans hq
    clear hq
    have q0 := x0.cell (i := 0) rfl
    have q1 := x0.cell (i := 1) rfl
    have q2 := x0.cell (i := 2) rfl
    have q3 := x0.cell (i := 3) rfl
    have q4 := x0.cell (i := 4) rfl
    have q5 := x0.cell (i := 5) rfl
    have d0 := wb.cell (i := 0) rfl
    have d1 := wb.cell (i := 1) rfl
    have d2 := wb.cell (i := 2) rfl
    have d3 := wb.cell (i := 3) rfl
    have d4 := wb.cell (i := 4) rfl
    have d5 := wb.cell (i := 5) rfl
    have d6 := wb.cell (i := 6) rfl
    have d7 := wb.cell (i := 7) rfl
    rw [put_69_78_68] at hp
    go_wp2_with fail
    rw [rounds_succ]
    have HQ := putC [⟨#[59]⟩] w9.heap.size 1 1 (w9.alloc (.cells #[.string ⟨#[59]⟩] 9)) base g _ _ (hp.grown (grown_alloc w9 _ none)) rfl (Blk.new w9 9 [.string ⟨#[59]⟩]) (by have := hp.blk.lt; omega) (by rw [put_59]; simp only [List.length_append, List.length_cons, List.length_nil]; omega) hg
    go_wp2_with fail
    refine HQ.mono ?_
    rintro e w10 ⟨rfl, ⟨v', hp'⟩, hq⟩
    clear q0 q1 q2 q3 q4 q5 d0 d1 d2 d3 d4 d5 d6 d7
    replace hq := (Wrote.of (grown_alloc w9 (.cells #[.string ⟨#[59]⟩] 9) none)).trans hq
    clear HQ hp
    have hp := hp'
    clear hp'
    replace x0 := hq.blk x0 (by decide) hgx
    replace wb := hq.blk wb (by decide) hgw
    replace hb := hq.below hb h0 hgk
    replace hw := hw.trans hq
    clear hq
    have q0 := x0.cell (i := 0) rfl
    have q1 := x0.cell (i := 1) rfl
    have q2 := x0.cell (i := 2) rfl
    have q3 := x0.cell (i := 3) rfl
    have q4 := x0.cell (i := 4) rfl
    have q5 := x0.cell (i := 5) rfl
    have d0 := wb.cell (i := 0) rfl
    have d1 := wb.cell (i := 1) rfl
    have d2 := wb.cell (i := 2) rfl
    have d3 := wb.cell (i := 3) rfl
    have d4 := wb.cell (i := 4) rfl
    have d5 := wb.cell (i := 5) rfl
    have d6 := wb.cell (i := 6) rfl
    have d7 := wb.cell (i := 7) rfl
    rw [put_59] at hp
    go_wp2_with fail
    rw [rounds_succ]
    go_wp2_with fail
    have hfin : ∃ v', Pg w10 base g (l ++ prS (.mk 2 n name [e0] bs es)) v' := ⟨_, by rw [HE.out]; simpa [List.append_assoc] using hp⟩
    exact bodyPost_end (results_none rfl _ _ _) rfl ⟨rfl, hfin, hw⟩

set_option maxHeartbeats 4000000 in
theorem prSt3 (n : Int) (name : List Int) (e0 : Ex) (S0 : PrEx e0) (bs es : List St) (Sb : PrSts bs) (Se : PrSts es) : PrSt (.mk 3 n name [e0] bs es) := by
  intro w0 w vs base g l v hT hr hb h0 hg hp hok hsz
  unfold St.fl at hr
  obtain ⟨y0, _, rfl, rfl, y1, _, rfl, rfl, y2, _, rfl, ⟨a2, c2, rfl, h2, hc2, _⟩, y3, _, rfl, h3', y4, _, rfl, h4', y5, _, rfl, h5', rfl⟩ := hr
  obtain ⟨a3, c3, rfl, h3⟩ := h3'.list
  obtain ⟨a4, c4, rfl, h4⟩ := h4'.list
  obtain ⟨a5, c5, rfl, h5⟩ := h5'.list
  clear h3' h4' h5'
  have hkl : (exs [e0]).length = 1 := by simp [exs_map]
  have hbl : (sts bs).length = bs.length := by simp [sts_map]
  have hel : (sts es).length = es.length := by simp [sts_map]
  rw [hkl, hbl, hel]
  simp only [agg]
  obtain ⟨b4, o4, rfl⟩ := h3.addr (by rw [hkl]; omega)
  obtain ⟨cc, rfl⟩ : ∃ cc, c3 = cc + 1 := ⟨c3 - 1, by have := h3.cap; rw [hkl] at this; omega⟩
  obtain ⟨us0, hv0, hcl0⟩ := (h3.el (i := 0) rfl).vals
  obtain ⟨u00, u01, u02, u03, u04, rfl⟩ : ∃ a b c d e, us0 = [a, b, c, d, e] := by
    have hl := hv0.len
    rw [exs_len] at hl
    match us0, hl with
    | [a, b, c, d, e], _ => exact ⟨a, b, c, d, e, rfl⟩
  have hc00 : w0.cell? ⟨b4, o4, none⟩ = some u00 := by have := hcl0 0 _ rfl; simpa using this
  have hc01 : w0.cell? ⟨b4, o4 + 1, none⟩ = some u01 := by have := hcl0 1 _ rfl; simpa using this
  have hc02 : w0.cell? ⟨b4, o4 + 2, none⟩ = some u02 := by have := hcl0 2 _ rfl; simpa using this
  have hc03 : w0.cell? ⟨b4, o4 + 3, none⟩ = some u03 := by have := hcl0 3 _ rfl; simpa using this
  have hc04 : w0.cell? ⟨b4, o4 + 4, none⟩ = some u04 := by have := hcl0 4 _ rfl; simpa using this
  clear hcl0
  have hoks := (okSt_parts hok).2.1
  simp only [okExs, Bool.and_eq_true, and_true] at hoks
  have hk0 := hoks
  have he : prS (.mk 3 n name [e0] bs es) = ([87, 72, 73, 76, 69, 32]) ++ (prE e0) ++ ([68, 79, 10]) ++ (prB bs) ++ ([69, 78, 68, 32]) ++ ([59, 10]) := by simp [prS, prEs, stText]
  rw [he] at hsz
  simp only [List.length_append, List.length_cons, List.length_nil] at hsz
  have HE : Hid (prS (.mk 3 n name [e0] bs es) = ([87, 72, 73, 76, 69, 32]) ++ (prE e0) ++ ([68, 79, 10]) ++ (prB bs) ++ ([69, 78, 68, 32]) ++ ([59, 10])) := he
  clear he
  have hloc := (okSt_parts hok).1
  skip
  skip
  skip
  have hokb := (okSt_parts hok).2.2.1
  have hoke := (okSt_parts hok).2.2.2
  clear hok
  have hgl := hp.blk.lt
  have hgx : some w.heap.size ≠ some g := by simp; omega
  have hgk : ∀ k, some g = some k → w0.heap.size ≤ k := by intro k e; cases e; omega
  have x0 := Blk.new w 133 [.int .i64 3, .int .i64 n, .slice a2 name.length c2, .slice (some ⟨b4, o4, none⟩) 1 (cc + 1), .slice a4 bs.length c4, .slice a5 es.length c5]
  have hw : Wrote base (some g) w (w.alloc (.cells #[.int .i64 3, .int .i64 n, .slice a2 name.length c2, .slice (some ⟨b4, o4, none⟩) 1 (cc + 1), .slice a4 bs.length c4, .slice a5 es.length c5] 133 (0, 0))) := Wrote.of (grown_alloc w _ none)
  replace hb : Below w0.heap.size w0 (w.alloc (.cells #[.int .i64 3, .int .i64 n, .slice a2 name.length c2, .slice (some ⟨b4, o4, none⟩) 1 (cc + 1), .slice a4 bs.length c4, .slice a5 es.length c5] 133 (0, 0))) := hb.alloc hb.size _
  replace hp := hp.grown (grown_alloc w (.cells #[.int .i64 3, .int .i64 n, .slice a2 name.length c2, .slice (some ⟨b4, o4, none⟩) 1 (cc + 1), .slice a4 bs.length c4, .slice a5 es.length c5] 133 (0, 0)) none)
  go_enter Tryz.func153, Tryz.ntmps153
  have q3 := x0.cell (i := 3) rfl
  go_upto_region 2 with fail
  clear q3
  generalize w.alloc (.cells #[.int .i64 3, .int .i64 n, .slice a2 name.length c2, .slice (some ⟨b4, o4, none⟩) 1 (cc + 1), .slice a4 bs.length c4, .slice a5 es.length c5] 133 (0, 0)) = w1 at *
  generalize w.heap.size = gx at *
  have q0 := x0.cell (i := 0) rfl
  have hF := (hT.below hb).st 3 (by omega)
  have z0 := hF.c0
  have z1 := hF.c1
  have z2 := hF.c2
  have z3 := hF.c3
  have z4 := hF.c4
  have HQ := wordsC (stF 3) (stPlain 3) w1 (hT.below hb)
  rw [stW3] at HQ
  unfold Fm.val at HQ
  clear hF
  simp only [Nat.reduceMul, Nat.reduceAdd, Nat.zero_mul, Nat.zero_add] at z0 z1 z2 z3 z4
  go_wp2_with fail
  refine HQ.mono ?_
  rintro e w2 ⟨gw, rfl, wb, hgw', hq⟩
  clear HQ q0 z0 z1 z2 z3 z4
  have hgw : some gw ≠ some g := by have := hp.blk.lt; simp; omega
  replace x0 := x0.below (below_grown hq) x0.lt
  replace hb := hb.trans ((below_grown hq).mono hb.size)
  replace hw := hw.trans (Wrote.of hq)
  replace hp := hp.grown hq
  clear hq hgw' hgl
  simp only [strs, List.map_cons, List.map_nil, List.length_cons, List.length_nil] at wb ⊢
  have q0 := x0.cell (i := 0) rfl
  have q1 := x0.cell (i := 1) rfl
  have q2 := x0.cell (i := 2) rfl
  have q3 := x0.cell (i := 3) rfl
  have q4 := x0.cell (i := 4) rfl
  have q5 := x0.cell (i := 5) rfl
  have d0 := wb.cell (i := 0) rfl
  have d1 := wb.cell (i := 1) rfl
  have d2 := wb.cell (i := 2) rfl
  have d3 := wb.cell (i := 3) rfl
  have d4 := wb.cell (i := 4) rfl
  have d5 := wb.cell (i := 5) rfl
  go_wp2_with fail
  refine wp_loop_rounds 7 ?_
  rw [rounds_succ]
  have HQ := putC [⟨#[87, 72, 73, 76, 69]⟩] w2.heap.size 1 1 (w2.alloc (.cells #[.string ⟨#[87, 72, 73, 76, 69]⟩] 9)) base g _ _ (hp.grown (grown_alloc w2 _ none)) rfl (Blk.new w2 9 [.string ⟨#[87, 72, 73, 76, 69]⟩]) (by have := hp.blk.lt; omega) (by rw [put_87_72_73_76_69]; simp only [List.length_append, List.length_cons, List.length_nil]; omega) hg
  go_wp2_with fail
  refine HQ.mono ?_
  rintro e w3 ⟨rfl, ⟨v', hp'⟩, hq⟩
  clear q0 q1 q2 q3 q4 q5 d0 d1 d2 d3 d4 d5
  replace hq := (Wrote.of (grown_alloc w2 (.cells #[.string ⟨#[87, 72, 73, 76, 69]⟩] 9) none)).trans hq
  clear HQ hp
  have hp := hp'
  clear hp'
  replace x0 := hq.blk x0 (by decide) hgx
  replace wb := hq.blk wb (by decide) hgw
  replace hb := hq.below hb h0 hgk
  replace hw := hw.trans hq
  clear hq
  have q0 := x0.cell (i := 0) rfl
  have q1 := x0.cell (i := 1) rfl
  have q2 := x0.cell (i := 2) rfl
  have q3 := x0.cell (i := 3) rfl
  have q4 := x0.cell (i := 4) rfl
  have q5 := x0.cell (i := 5) rfl
  have d0 := wb.cell (i := 0) rfl
  have d1 := wb.cell (i := 1) rfl
  have d2 := wb.cell (i := 2) rfl
  have d3 := wb.cell (i := 3) rfl
  have d4 := wb.cell (i := 4) rfl
  have d5 := wb.cell (i := 5) rfl
  rw [put_87_72_73_76_69] at hp
  go_wp2_with fail
  rw [rounds_succ]
  have HQ := S0 w0 w3 [u00, u01, u02, u03, u04] base g _ _ hT hv0 hb h0 hg hp hk0 (by simp only [List.length_append, List.length_cons, List.length_nil]; omega)
  simp only [agg] at HQ
  have t0 := cell_on hc00 hb
  have t1 := cell_on hc01 hb
  have t2 := cell_on hc02 hb
  have t3 := cell_on hc03 hb
  have t4 := cell_on hc04 hb
  go_wp2_with fail
  refine HQ.mono ?_
  rintro e w4 ⟨rfl, ⟨v', hp'⟩, hq⟩
  clear t0 t1 t2 t3 t4
  clear q0 q1 q2 q3 q4 q5 d0 d1 d2 d3 d4 d5
  clear HQ hp
  have hp := hp'
  clear hp'
  replace x0 := hq.blk x0 (by decide) hgx
  replace wb := hq.blk wb (by decide) hgw
  replace hb := hq.below hb h0 hgk
  replace hw := hw.trans hq
  clear hq
  have q0 := x0.cell (i := 0) rfl
  have q1 := x0.cell (i := 1) rfl
  have q2 := x0.cell (i := 2) rfl
  have q3 := x0.cell (i := 3) rfl
  have q4 := x0.cell (i := 4) rfl
  have q5 := x0.cell (i := 5) rfl
  have d0 := wb.cell (i := 0) rfl
  have d1 := wb.cell (i := 1) rfl
  have d2 := wb.cell (i := 2) rfl
  have d3 := wb.cell (i := 3) rfl
  have d4 := wb.cell (i := 4) rfl
  have d5 := wb.cell (i := 5) rfl
  rcases cc with _ | cc
  all_goals
    go_wp2_with fail
    rw [rounds_succ]
    have HQ := putC [⟨#[68, 79]⟩] w4.heap.size 1 1 (w4.alloc (.cells #[.string ⟨#[68, 79]⟩] 9)) base g _ _ (hp.grown (grown_alloc w4 _ none)) rfl (Blk.new w4 9 [.string ⟨#[68, 79]⟩]) (by have := hp.blk.lt; omega) (by rw [put_68_79]; simp only [List.length_append, List.length_cons, List.length_nil]; omega) hg
    go_wp2_with fail
    refine HQ.mono ?_
    rintro e w5 ⟨rfl, ⟨v', hp'⟩, hq⟩
    clear q0 q1 q2 q3 q4 q5 d0 d1 d2 d3 d4 d5
    replace hq := (Wrote.of (grown_alloc w4 (.cells #[.string ⟨#[68, 79]⟩] 9) none)).trans hq
    clear HQ hp
    have hp := hp'
    clear hp'
    replace x0 := hq.blk x0 (by decide) hgx
    replace wb := hq.blk wb (by decide) hgw
    replace hb := hq.below hb h0 hgk
    replace hw := hw.trans hq
    clear hq
    have q0 := x0.cell (i := 0) rfl
    have q1 := x0.cell (i := 1) rfl
    have q2 := x0.cell (i := 2) rfl
    have q3 := x0.cell (i := 3) rfl
    have q4 := x0.cell (i := 4) rfl
    have q5 := x0.cell (i := 5) rfl
    have d0 := wb.cell (i := 0) rfl
    have d1 := wb.cell (i := 1) rfl
    have d2 := wb.cell (i := 2) rfl
    have d3 := wb.cell (i := 3) rfl
    have d4 := wb.cell (i := 4) rfl
    have d5 := wb.cell (i := 5) rfl
    rw [put_68_79] at hp
    go_wp2_with fail
    rw [rounds_succ]
    have HQ := Sb w0 w5 a4 c4 base g _ _ hT h4 hb h0 hg hp hokb (by simp only [List.length_append, List.length_cons, List.length_nil]; omega)
    go_wp2_with fail
    refine HQ.mono ?_
    rintro e w6 ⟨rfl, ⟨v', hp'⟩, hq⟩
    clear q0 q1 q2 q3 q4 q5 d0 d1 d2 d3 d4 d5
    clear HQ hp
    have hp := hp'
    clear hp'
    replace x0 := hq.blk x0 (by decide) hgx
    replace wb := hq.blk wb (by decide) hgw
    replace hb := hq.below hb h0 hgk
    replace hw := hw.trans hq
    clear hq
    have q0 := x0.cell (i := 0) rfl
    have q1 := x0.cell (i := 1) rfl
    have q2 := x0.cell (i := 2) rfl
    have q3 := x0.cell (i := 3) rfl
    have q4 := x0.cell (i := 4) rfl
    have q5 := x0.cell (i := 5) rfl
    have d0 := wb.cell (i := 0) rfl
    have d1 := wb.cell (i := 1) rfl
    have d2 := wb.cell (i := 2) rfl
    have d3 := wb.cell (i := 3) rfl
    have d4 := wb.cell (i := 4) rfl
    have d5 := wb.cell (i := 5) rfl
    go_wp2_with fail
    rw [rounds_succ]
    have HQ := putC [⟨#[69, 78, 68]⟩] w6.heap.size 1 1 (w6.alloc (.cells #[.string ⟨#[69, 78, 68]⟩] 9)) base g _ _ (hp.grown (grown_alloc w6 _ none)) rfl (Blk.new w6 9 [.string ⟨#[69, 78, 68]⟩]) (by have := hp.blk.lt; omega) (by rw [put_69_78_68]; simp only [List.length_append, List.length_cons, List.length_nil]; omega) hg
    go_wp2_with fail
    refine HQ.mono ?_
    rintro e w7 ⟨rfl, ⟨v', hp'⟩, hq⟩
    clear q0 q1 q2 q3 q4 q5 d0 d1 d2 d3 d4 d5
    replace hq := (Wrote.of (grown_alloc w6 (.cells #[.string ⟨#[69, 78, 68]⟩] 9) none)).trans hq
    clear HQ hp
    have hp := hp'
    clear hp'
    replace x0 := hq.blk x0 (by decide) hgx
    replace wb := hq.blk wb (by decide) hgw
    replace hb := hq.below hb h0 hgk
    replace hw := hw.trans hq
    clear hq
    have q0 := x0.cell (i := 0) rfl
    have q1 := x0.cell (i := 1) rfl
    have q2 := x0.cell (i := 2) rfl
    have q3 := x0.cell (i := 3) rfl
    have q4 := x0.cell (i := 4) rfl
    have q5 := x0.cell (i := 5) rfl
    have d0 := wb.cell (i := 0) rfl
    have d1 := wb.cell (i := 1) rfl
    have d2 := wb.cell (i := 2) rfl
    have d3 := wb.cell (i := 3) rfl
    have d4 := wb.cell (i := 4) rfl
    have d5 := wb.cell (i := 5) rfl
    rw [put_69_78_68] at hp
    go_wp2_with fail
    rw [rounds_succ]
    have HQ := putC [⟨#[59]⟩] w7.heap.size 1 1 (w7.alloc (.cells #[.string ⟨#[59]⟩] 9)) base g _ _ (hp.grown (grown_alloc w7 _ none)) rfl (Blk.new w7 9 [.string ⟨#[59]⟩]) (by have := hp.blk.lt; omega) (by rw [put_59]; simp only [List.length_append, List.length_cons, List.length_nil]; omega) hg
    go_wp2_with fail
    refine HQ.mono ?_
    rintro e w8 ⟨rfl, ⟨v', hp'⟩, hq⟩
    clear q0 q1 q2 q3 q4 q5 d0 d1 d2 d3 d4 d5
    replace hq := (Wrote.of (grown_alloc w7 (.cells #[.string ⟨#[59]⟩] 9) none)).trans hq
    clear HQ hp
    have hp := hp'
    clear hp'
    replace x0 := hq.blk x0 (by decide) hgx
    replace wb := hq.blk wb (by decide) hgw
    replace hb := hq.below hb h0 hgk
    replace hw := hw.trans hq
    clear hq
    have q0 := x0.cell (i := 0) rfl
    have q1 := x0.cell (i := 1) rfl
    have q2 := x0.cell (i := 2) rfl
    have q3 := x0.cell (i := 3) rfl
    have q4 := x0.cell (i := 4) rfl
    have q5 := x0.cell (i := 5) rfl
    have d0 := wb.cell (i := 0) rfl
    have d1 := wb.cell (i := 1) rfl
    have d2 := wb.cell (i := 2) rfl
    have d3 := wb.cell (i := 3) rfl
    have d4 := wb.cell (i := 4) rfl
    have d5 := wb.cell (i := 5) rfl
    rw [put_59] at hp
    go_wp2_with fail
    rw [rounds_succ]
    go_wp2_with fail
    have hfin : ∃ v', Pg w8 base g (l ++ prS (.mk 3 n name [e0] bs es)) v' := ⟨_, by rw [HE.out]; simpa [List.append_assoc] using hp⟩
    exact bodyPost_end (results_none rfl _ _ _) rfl ⟨rfl, hfin, hw⟩

set_option maxHeartbeats 4000000 in
theorem prSt4 (n : Int) (name : List Int) (e0 : Ex) (S0 : PrEx e0) (bs es : List St) (Sb : PrSts bs) (Se : PrSts es) : PrSt (.mk 4 n name [e0] bs es) := by
  intro w0 w vs base g l v hT hr hb h0 hg hp hok hsz
  unfold St.fl at hr
  obtain ⟨y0, _, rfl, rfl, y1, _, rfl, rfl, y2, _, rfl, ⟨a2, c2, rfl, h2, hc2, _⟩, y3, _, rfl, h3', y4, _, rfl, h4', y5, _, rfl, h5', rfl⟩ := hr
  obtain ⟨a3, c3, rfl, h3⟩ := h3'.list
  obtain ⟨a4, c4, rfl, h4⟩ := h4'.list
  obtain ⟨a5, c5, rfl, h5⟩ := h5'.list
  clear h3' h4' h5'
  have hkl : (exs [e0]).length = 1 := by simp [exs_map]
  have hbl : (sts bs).length = bs.length := by simp [sts_map]
  have hel : (sts es).length = es.length := by simp [sts_map]
  rw [hkl, hbl, hel]
  simp only [agg]
  obtain ⟨b4, o4, rfl⟩ := h3.addr (by rw [hkl]; omega)
  obtain ⟨cc, rfl⟩ : ∃ cc, c3 = cc + 1 := ⟨c3 - 1, by have := h3.cap; rw [hkl] at this; omega⟩
  obtain ⟨us0, hv0, hcl0⟩ := (h3.el (i := 0) rfl).vals
  obtain ⟨u00, u01, u02, u03, u04, rfl⟩ : ∃ a b c d e, us0 = [a, b, c, d, e] := by
    have hl := hv0.len
    rw [exs_len] at hl
    match us0, hl with
    | [a, b, c, d, e], _ => exact ⟨a, b, c, d, e, rfl⟩
  have hc00 : w0.cell? ⟨b4, o4, none⟩ = some u00 := by have := hcl0 0 _ rfl; simpa using this
  have hc01 : w0.cell? ⟨b4, o4 + 1, none⟩ = some u01 := by have := hcl0 1 _ rfl; simpa using this
  have hc02 : w0.cell? ⟨b4, o4 + 2, none⟩ = some u02 := by have := hcl0 2 _ rfl; simpa using this
  have hc03 : w0.cell? ⟨b4, o4 + 3, none⟩ = some u03 := by have := hcl0 3 _ rfl; simpa using this
  have hc04 : w0.cell? ⟨b4, o4 + 4, none⟩ = some u04 := by have := hcl0 4 _ rfl; simpa using this
  clear hcl0
  have hoks := (okSt_parts hok).2.1
  simp only [okExs, Bool.and_eq_true, and_true] at hoks
  have hk0 := hoks
  have he : prS (.mk 4 n name [e0] bs es) = ([82, 69, 84, 85, 82, 78, 32]) ++ (prE e0) ++ ([59, 10]) := by simp [prS, prEs, stText]
  rw [he] at hsz
  simp only [List.length_append, List.length_cons, List.length_nil] at hsz
  have HE : Hid (prS (.mk 4 n name [e0] bs es) = ([82, 69, 84, 85, 82, 78, 32]) ++ (prE e0) ++ ([59, 10])) := he
  clear he
  have hloc := (okSt_parts hok).1
  skip
  skip
  skip
  have hokb := (okSt_parts hok).2.2.1
  have hoke := (okSt_parts hok).2.2.2
  clear hok
  have hgl := hp.blk.lt
  have hgx : some w.heap.size ≠ some g := by simp; omega
  have hgk : ∀ k, some g = some k → w0.heap.size ≤ k := by intro k e; cases e; omega
  have x0 := Blk.new w 133 [.int .i64 4, .int .i64 n, .slice a2 name.length c2, .slice (some ⟨b4, o4, none⟩) 1 (cc + 1), .slice a4 bs.length c4, .slice a5 es.length c5]
  have hw : Wrote base (some g) w (w.alloc (.cells #[.int .i64 4, .int .i64 n, .slice a2 name.length c2, .slice (some ⟨b4, o4, none⟩) 1 (cc + 1), .slice a4 bs.length c4, .slice a5 es.length c5] 133 (0, 0))) := Wrote.of (grown_alloc w _ none)
  replace hb : Below w0.heap.size w0 (w.alloc (.cells #[.int .i64 4, .int .i64 n, .slice a2 name.length c2, .slice (some ⟨b4, o4, none⟩) 1 (cc + 1), .slice a4 bs.length c4, .slice a5 es.length c5] 133 (0, 0))) := hb.alloc hb.size _
  replace hp := hp.grown (grown_alloc w (.cells #[.int .i64 4, .int .i64 n, .slice a2 name.length c2, .slice (some ⟨b4, o4, none⟩) 1 (cc + 1), .slice a4 bs.length c4, .slice a5 es.length c5] 133 (0, 0)) none)
  go_enter Tryz.func153, Tryz.ntmps153
  have q3 := x0.cell (i := 3) rfl
  go_upto_region 2 with fail
  clear q3
  generalize w.alloc (.cells #[.int .i64 4, .int .i64 n, .slice a2 name.length c2, .slice (some ⟨b4, o4, none⟩) 1 (cc + 1), .slice a4 bs.length c4, .slice a5 es.length c5] 133 (0, 0)) = w1 at *
  generalize w.heap.size = gx at *
  have q0 := x0.cell (i := 0) rfl
  have hF := (hT.below hb).st 4 (by omega)
  have z0 := hF.c0
  have z1 := hF.c1
  have z2 := hF.c2
  have z3 := hF.c3
  have z4 := hF.c4
  have HQ := wordsC (stF 4) (stPlain 4) w1 (hT.below hb)
  rw [stW4] at HQ
  unfold Fm.val at HQ
  clear hF
  simp only [Nat.reduceMul, Nat.reduceAdd, Nat.zero_mul, Nat.zero_add] at z0 z1 z2 z3 z4
  go_wp2_with fail
  refine HQ.mono ?_
  rintro e w2 ⟨gw, rfl, wb, hgw', hq⟩
  clear HQ q0 z0 z1 z2 z3 z4
  have hgw : some gw ≠ some g := by have := hp.blk.lt; simp; omega
  replace x0 := x0.below (below_grown hq) x0.lt
  replace hb := hb.trans ((below_grown hq).mono hb.size)
  replace hw := hw.trans (Wrote.of hq)
  replace hp := hp.grown hq
  clear hq hgw' hgl
  simp only [strs, List.map_cons, List.map_nil, List.length_cons, List.length_nil] at wb ⊢
  have q0 := x0.cell (i := 0) rfl
  have q1 := x0.cell (i := 1) rfl
  have q2 := x0.cell (i := 2) rfl
  have q3 := x0.cell (i := 3) rfl
  have q4 := x0.cell (i := 4) rfl
  have q5 := x0.cell (i := 5) rfl
  have d0 := wb.cell (i := 0) rfl
  have d1 := wb.cell (i := 1) rfl
  have d2 := wb.cell (i := 2) rfl
  go_wp2_with fail
  refine wp_loop_rounds 4 ?_
  rw [rounds_succ]
  have HQ := putC [⟨#[82, 69, 84, 85, 82, 78]⟩] w2.heap.size 1 1 (w2.alloc (.cells #[.string ⟨#[82, 69, 84, 85, 82, 78]⟩] 9)) base g _ _ (hp.grown (grown_alloc w2 _ none)) rfl (Blk.new w2 9 [.string ⟨#[82, 69, 84, 85, 82, 78]⟩]) (by have := hp.blk.lt; omega) (by rw [put_82_69_84_85_82_78]; simp only [List.length_append, List.length_cons, List.length_nil]; omega) hg
  go_wp2_with fail
  refine HQ.mono ?_
  rintro e w3 ⟨rfl, ⟨v', hp'⟩, hq⟩
  clear q0 q1 q2 q3 q4 q5 d0 d1 d2
  replace hq := (Wrote.of (grown_alloc w2 (.cells #[.string ⟨#[82, 69, 84, 85, 82, 78]⟩] 9) none)).trans hq
  clear HQ hp
  have hp := hp'
  clear hp'
  replace x0 := hq.blk x0 (by decide) hgx
  replace wb := hq.blk wb (by decide) hgw
  replace hb := hq.below hb h0 hgk
  replace hw := hw.trans hq
  clear hq
  have q0 := x0.cell (i := 0) rfl
  have q1 := x0.cell (i := 1) rfl
  have q2 := x0.cell (i := 2) rfl
  have q3 := x0.cell (i := 3) rfl
  have q4 := x0.cell (i := 4) rfl
  have q5 := x0.cell (i := 5) rfl
  have d0 := wb.cell (i := 0) rfl
  have d1 := wb.cell (i := 1) rfl
  have d2 := wb.cell (i := 2) rfl
  rw [put_82_69_84_85_82_78] at hp
  go_wp2_with fail
  rw [rounds_succ]
  have HQ := S0 w0 w3 [u00, u01, u02, u03, u04] base g _ _ hT hv0 hb h0 hg hp hk0 (by simp only [List.length_append, List.length_cons, List.length_nil]; omega)
  simp only [agg] at HQ
  have t0 := cell_on hc00 hb
  have t1 := cell_on hc01 hb
  have t2 := cell_on hc02 hb
  have t3 := cell_on hc03 hb
  have t4 := cell_on hc04 hb
  go_wp2_with fail
  refine HQ.mono ?_
  rintro e w4 ⟨rfl, ⟨v', hp'⟩, hq⟩
  clear t0 t1 t2 t3 t4
  clear q0 q1 q2 q3 q4 q5 d0 d1 d2
  clear HQ hp
  have hp := hp'
  clear hp'
  replace x0 := hq.blk x0 (by decide) hgx
  replace wb := hq.blk wb (by decide) hgw
  replace hb := hq.below hb h0 hgk
  replace hw := hw.trans hq
  clear hq
  have q0 := x0.cell (i := 0) rfl
  have q1 := x0.cell (i := 1) rfl
  have q2 := x0.cell (i := 2) rfl
  have q3 := x0.cell (i := 3) rfl
  have q4 := x0.cell (i := 4) rfl
  have q5 := x0.cell (i := 5) rfl
  have d0 := wb.cell (i := 0) rfl
  have d1 := wb.cell (i := 1) rfl
  have d2 := wb.cell (i := 2) rfl
  rcases cc with _ | cc
  all_goals
    go_wp2_with fail
    rw [rounds_succ]
    have HQ := putC [⟨#[59]⟩] w4.heap.size 1 1 (w4.alloc (.cells #[.string ⟨#[59]⟩] 9)) base g _ _ (hp.grown (grown_alloc w4 _ none)) rfl (Blk.new w4 9 [.string ⟨#[59]⟩]) (by have := hp.blk.lt; omega) (by rw [put_59]; simp only [List.length_append, List.length_cons, List.length_nil]; omega) hg
    go_wp2_with fail
    refine HQ.mono ?_
    rintro e w5 ⟨rfl, ⟨v', hp'⟩, hq⟩
    clear q0 q1 q2 q3 q4 q5 d0 d1 d2
    replace hq := (Wrote.of (grown_alloc w4 (.cells #[.string ⟨#[59]⟩] 9) none)).trans hq
    clear HQ hp
    have hp := hp'
    clear hp'
    replace x0 := hq.blk x0 (by decide) hgx
    replace wb := hq.blk wb (by decide) hgw
    replace hb := hq.below hb h0 hgk
    replace hw := hw.trans hq
    clear hq
    have q0 := x0.cell (i := 0) rfl
    have q1 := x0.cell (i := 1) rfl
    have q2 := x0.cell (i := 2) rfl
    have q3 := x0.cell (i := 3) rfl
    have q4 := x0.cell (i := 4) rfl
    have q5 := x0.cell (i := 5) rfl
    have d0 := wb.cell (i := 0) rfl
    have d1 := wb.cell (i := 1) rfl
    have d2 := wb.cell (i := 2) rfl
    rw [put_59] at hp
    go_wp2_with fail
    rw [rounds_succ]
    go_wp2_with fail
    have hfin : ∃ v', Pg w5 base g (l ++ prS (.mk 4 n name [e0] bs es)) v' := ⟨_, by rw [HE.out]; simpa [List.append_assoc] using hp⟩
    exact bodyPost_end (results_none rfl _ _ _) rfl ⟨rfl, hfin, hw⟩

set_option maxHeartbeats 4000000 in
theorem prSt5 (n : Int) (name : List Int) (e0 : Ex) (S0 : PrEx e0) (bs es : List St) (Sb : PrSts bs) (Se : PrSts es) : PrSt (.mk 5 n name [e0] bs es) := by
  intro w0 w vs base g l v hT hr hb h0 hg hp hok hsz
  unfold St.fl at hr
  obtain ⟨y0, _, rfl, rfl, y1, _, rfl, rfl, y2, _, rfl, ⟨a2, c2, rfl, h2, hc2, _⟩, y3, _, rfl, h3', y4, _, rfl, h4', y5, _, rfl, h5', rfl⟩ := hr
  obtain ⟨a3, c3, rfl, h3⟩ := h3'.list
  obtain ⟨a4, c4, rfl, h4⟩ := h4'.list
  obtain ⟨a5, c5, rfl, h5⟩ := h5'.list
  clear h3' h4' h5'
  have hkl : (exs [e0]).length = 1 := by simp [exs_map]
  have hbl : (sts bs).length = bs.length := by simp [sts_map]
  have hel : (sts es).length = es.length := by simp [sts_map]
  rw [hkl, hbl, hel]
  simp only [agg]
  obtain ⟨b4, o4, rfl⟩ := h3.addr (by rw [hkl]; omega)
  obtain ⟨cc, rfl⟩ : ∃ cc, c3 = cc + 1 := ⟨c3 - 1, by have := h3.cap; rw [hkl] at this; omega⟩
  obtain ⟨us0, hv0, hcl0⟩ := (h3.el (i := 0) rfl).vals
  obtain ⟨u00, u01, u02, u03, u04, rfl⟩ : ∃ a b c d e, us0 = [a, b, c, d, e] := by
    have hl := hv0.len
    rw [exs_len] at hl
    match us0, hl with
    | [a, b, c, d, e], _ => exact ⟨a, b, c, d, e, rfl⟩
  have hc00 : w0.cell? ⟨b4, o4, none⟩ = some u00 := by have := hcl0 0 _ rfl; simpa using this
  have hc01 : w0.cell? ⟨b4, o4 + 1, none⟩ = some u01 := by have := hcl0 1 _ rfl; simpa using this
  have hc02 : w0.cell? ⟨b4, o4 + 2, none⟩ = some u02 := by have := hcl0 2 _ rfl; simpa using this
  have hc03 : w0.cell? ⟨b4, o4 + 3, none⟩ = some u03 := by have := hcl0 3 _ rfl; simpa using this
  have hc04 : w0.cell? ⟨b4, o4 + 4, none⟩ = some u04 := by have := hcl0 4 _ rfl; simpa using this
  clear hcl0
  have hoks := (okSt_parts hok).2.1
  simp only [okExs, Bool.and_eq_true, and_true] at hoks
  have hk0 := hoks
  have he : prS (.mk 5 n name [e0] bs es) = ([79, 85, 84, 32]) ++ (prE e0) ++ ([59, 10]) := by simp [prS, prEs, stText]
  rw [he] at hsz
  simp only [List.length_append, List.length_cons, List.length_nil] at hsz
  have HE : Hid (prS (.mk 5 n name [e0] bs es) = ([79, 85, 84, 32]) ++ (prE e0) ++ ([59, 10])) := he
  clear he
  have hloc := (okSt_parts hok).1
  skip
  skip
  skip
  have hokb := (okSt_parts hok).2.2.1
  have hoke := (okSt_parts hok).2.2.2
  clear hok
  have hgl := hp.blk.lt
  have hgx : some w.heap.size ≠ some g := by simp; omega
  have hgk : ∀ k, some g = some k → w0.heap.size ≤ k := by intro k e; cases e; omega
  have x0 := Blk.new w 133 [.int .i64 5, .int .i64 n, .slice a2 name.length c2, .slice (some ⟨b4, o4, none⟩) 1 (cc + 1), .slice a4 bs.length c4, .slice a5 es.length c5]
  have hw : Wrote base (some g) w (w.alloc (.cells #[.int .i64 5, .int .i64 n, .slice a2 name.length c2, .slice (some ⟨b4, o4, none⟩) 1 (cc + 1), .slice a4 bs.length c4, .slice a5 es.length c5] 133 (0, 0))) := Wrote.of (grown_alloc w _ none)
  replace hb : Below w0.heap.size w0 (w.alloc (.cells #[.int .i64 5, .int .i64 n, .slice a2 name.length c2, .slice (some ⟨b4, o4, none⟩) 1 (cc + 1), .slice a4 bs.length c4, .slice a5 es.length c5] 133 (0, 0))) := hb.alloc hb.size _
  replace hp := hp.grown (grown_alloc w (.cells #[.int .i64 5, .int .i64 n, .slice a2 name.length c2, .slice (some ⟨b4, o4, none⟩) 1 (cc + 1), .slice a4 bs.length c4, .slice a5 es.length c5] 133 (0, 0)) none)
  go_enter Tryz.func153, Tryz.ntmps153
  have q3 := x0.cell (i := 3) rfl
  go_upto_region 2 with fail
  clear q3
  generalize w.alloc (.cells #[.int .i64 5, .int .i64 n, .slice a2 name.length c2, .slice (some ⟨b4, o4, none⟩) 1 (cc + 1), .slice a4 bs.length c4, .slice a5 es.length c5] 133 (0, 0)) = w1 at *
  generalize w.heap.size = gx at *
  have q0 := x0.cell (i := 0) rfl
  have hF := (hT.below hb).st 5 (by omega)
  have z0 := hF.c0
  have z1 := hF.c1
  have z2 := hF.c2
  have z3 := hF.c3
  have z4 := hF.c4
  have HQ := wordsC (stF 5) (stPlain 5) w1 (hT.below hb)
  rw [stW5] at HQ
  unfold Fm.val at HQ
  clear hF
  simp only [Nat.reduceMul, Nat.reduceAdd, Nat.zero_mul, Nat.zero_add] at z0 z1 z2 z3 z4
  go_wp2_with fail
  refine HQ.mono ?_
  rintro e w2 ⟨gw, rfl, wb, hgw', hq⟩
  clear HQ q0 z0 z1 z2 z3 z4
  have hgw : some gw ≠ some g := by have := hp.blk.lt; simp; omega
  replace x0 := x0.below (below_grown hq) x0.lt
  replace hb := hb.trans ((below_grown hq).mono hb.size)
  replace hw := hw.trans (Wrote.of hq)
  replace hp := hp.grown hq
  clear hq hgw' hgl
  simp only [strs, List.map_cons, List.map_nil, List.length_cons, List.length_nil] at wb ⊢
  have q0 := x0.cell (i := 0) rfl
  have q1 := x0.cell (i := 1) rfl
  have q2 := x0.cell (i := 2) rfl
  have q3 := x0.cell (i := 3) rfl
  have q4 := x0.cell (i := 4) rfl
  have q5 := x0.cell (i := 5) rfl
  have d0 := wb.cell (i := 0) rfl
  have d1 := wb.cell (i := 1) rfl
  have d2 := wb.cell (i := 2) rfl
  go_wp2_with fail
  refine wp_loop_rounds 4 ?_
  rw [rounds_succ]
  have HQ := putC [⟨#[79, 85, 84]⟩] w2.heap.size 1 1 (w2.alloc (.cells #[.string ⟨#[79, 85, 84]⟩] 9)) base g _ _ (hp.grown (grown_alloc w2 _ none)) rfl (Blk.new w2 9 [.string ⟨#[79, 85, 84]⟩]) (by have := hp.blk.lt; omega) (by rw [put_79_85_84]; simp only [List.length_append, List.length_cons, List.length_nil]; omega) hg
  go_wp2_with fail
  refine HQ.mono ?_
  rintro e w3 ⟨rfl, ⟨v', hp'⟩, hq⟩
  clear q0 q1 q2 q3 q4 q5 d0 d1 d2
  replace hq := (Wrote.of (grown_alloc w2 (.cells #[.string ⟨#[79, 85, 84]⟩] 9) none)).trans hq
  clear HQ hp
  have hp := hp'
  clear hp'
  replace x0 := hq.blk x0 (by decide) hgx
  replace wb := hq.blk wb (by decide) hgw
  replace hb := hq.below hb h0 hgk
  replace hw := hw.trans hq
  clear hq
  have q0 := x0.cell (i := 0) rfl
  have q1 := x0.cell (i := 1) rfl
  have q2 := x0.cell (i := 2) rfl
  have q3 := x0.cell (i := 3) rfl
  have q4 := x0.cell (i := 4) rfl
  have q5 := x0.cell (i := 5) rfl
  have d0 := wb.cell (i := 0) rfl
  have d1 := wb.cell (i := 1) rfl
  have d2 := wb.cell (i := 2) rfl
  rw [put_79_85_84] at hp
  go_wp2_with fail
  rw [rounds_succ]
  have HQ := S0 w0 w3 [u00, u01, u02, u03, u04] base g _ _ hT hv0 hb h0 hg hp hk0 (by simp only [List.length_append, List.length_cons, List.length_nil]; omega)
  simp only [agg] at HQ
  have t0 := cell_on hc00 hb
  have t1 := cell_on hc01 hb
  have t2 := cell_on hc02 hb
  have t3 := cell_on hc03 hb
  have t4 := cell_on hc04 hb
  go_wp2_with fail
  refine HQ.mono ?_
  rintro e w4 ⟨rfl, ⟨v', hp'⟩, hq⟩
  clear t0 t1 t2 t3 t4
  clear q0 q1 q2 q3 q4 q5 d0 d1 d2
  clear HQ hp
  have hp := hp'
  clear hp'
  replace x0 := hq.blk x0 (by decide) hgx
  replace wb := hq.blk wb (by decide) hgw
  replace hb := hq.below hb h0 hgk
  replace hw := hw.trans hq
  clear hq
  have q0 := x0.cell (i := 0) rfl
  have q1 := x0.cell (i := 1) rfl
  have q2 := x0.cell (i := 2) rfl
  have q3 := x0.cell (i := 3) rfl
  have q4 := x0.cell (i := 4) rfl
  have q5 := x0.cell (i := 5) rfl
  have d0 := wb.cell (i := 0) rfl
  have d1 := wb.cell (i := 1) rfl
  have d2 := wb.cell (i := 2) rfl
  rcases cc with _ | cc
  all_goals
    go_wp2_with fail
    rw [rounds_succ]
    have HQ := putC [⟨#[59]⟩] w4.heap.size 1 1 (w4.alloc (.cells #[.string ⟨#[59]⟩] 9)) base g _ _ (hp.grown (grown_alloc w4 _ none)) rfl (Blk.new w4 9 [.string ⟨#[59]⟩]) (by have := hp.blk.lt; omega) (by rw [put_59]; simp only [List.length_append, List.length_cons, List.length_nil]; omega) hg
    go_wp2_with fail
    refine HQ.mono ?_
    rintro e w5 ⟨rfl, ⟨v', hp'⟩, hq⟩
    clear q0 q1 q2 q3 q4 q5 d0 d1 d2
    replace hq := (Wrote.of (grown_alloc w4 (.cells #[.string ⟨#[59]⟩] 9) none)).trans hq
    clear HQ hp
    have hp := hp'
    clear hp'
    replace x0 := hq.blk x0 (by decide) hgx
    replace wb := hq.blk wb (by decide) hgw
    replace hb := hq.below hb h0 hgk
    replace hw := hw.trans hq
    clear hq
    have q0 := x0.cell (i := 0) rfl
    have q1 := x0.cell (i := 1) rfl
    have q2 := x0.cell (i := 2) rfl
    have q3 := x0.cell (i := 3) rfl
    have q4 := x0.cell (i := 4) rfl
    have q5 := x0.cell (i := 5) rfl
    have d0 := wb.cell (i := 0) rfl
    have d1 := wb.cell (i := 1) rfl
    have d2 := wb.cell (i := 2) rfl
    rw [put_59] at hp
    go_wp2_with fail
    rw [rounds_succ]
    go_wp2_with fail
    have hfin : ∃ v', Pg w5 base g (l ++ prS (.mk 5 n name [e0] bs es)) v' := ⟨_, by rw [HE.out]; simpa [List.append_assoc] using hp⟩
    exact bodyPost_end (results_none rfl _ _ _) rfl ⟨rfl, hfin, hw⟩

set_option maxHeartbeats 4000000 in
theorem prSt6 (n : Int) (name : List Int)  (bs es : List St) (Sb : PrSts bs) (Se : PrSts es) : PrSt (.mk 6 n name [] bs es) := by
  intro w0 w vs base g l v hT hr hb h0 hg hp hok hsz
  unfold St.fl at hr
  obtain ⟨y0, _, rfl, rfl, y1, _, rfl, rfl, y2, _, rfl, ⟨a2, c2, rfl, h2, hc2, _⟩, y3, _, rfl, h3', y4, _, rfl, h4', y5, _, rfl, h5', rfl⟩ := hr
  obtain ⟨a3, c3, rfl, h3⟩ := h3'.list
  obtain ⟨a4, c4, rfl, h4⟩ := h4'.list
  obtain ⟨a5, c5, rfl, h5⟩ := h5'.list
  clear h3' h4' h5'
  have hkl : (exs []).length = 0 := by simp [exs_map]
  have hbl : (sts bs).length = bs.length := by simp [sts_map]
  have hel : (sts es).length = es.length := by simp [sts_map]
  rw [hkl, hbl, hel]
  simp only [agg]
  skip
  have he : prS (.mk 6 n name [] bs es) = ([84, 82, 65, 80, 32]) ++ (numI n ++ [32]) ++ ([59, 10]) := by simp [prS, prEs, stText]
  rw [he] at hsz
  simp only [List.length_append, List.length_cons, List.length_nil] at hsz
  have HE : Hid (prS (.mk 6 n name [] bs es) = ([84, 82, 65, 80, 32]) ++ (numI n ++ [32]) ++ ([59, 10])) := he
  clear he
  have hloc := (okSt_parts hok).1
  have hnb : 0 ≤ n ∧ n ≤ 99 := by have := sloc_len hloc; simp [stHigh] at this; omega
  skip
  skip
  have hokb := (okSt_parts hok).2.2.1
  have hoke := (okSt_parts hok).2.2.2
  clear hok
  have hgl := hp.blk.lt
  have hgx : some w.heap.size ≠ some g := by simp; omega
  have hgk : ∀ k, some g = some k → w0.heap.size ≤ k := by intro k e; cases e; omega
  have x0 := Blk.new w 133 [.int .i64 6, .int .i64 n, .slice a2 name.length c2, .slice a3 0 c3, .slice a4 bs.length c4, .slice a5 es.length c5]
  have hw : Wrote base (some g) w (w.alloc (.cells #[.int .i64 6, .int .i64 n, .slice a2 name.length c2, .slice a3 0 c3, .slice a4 bs.length c4, .slice a5 es.length c5] 133 (0, 0))) := Wrote.of (grown_alloc w _ none)
  replace hb : Below w0.heap.size w0 (w.alloc (.cells #[.int .i64 6, .int .i64 n, .slice a2 name.length c2, .slice a3 0 c3, .slice a4 bs.length c4, .slice a5 es.length c5] 133 (0, 0))) := hb.alloc hb.size _
  replace hp := hp.grown (grown_alloc w (.cells #[.int .i64 6, .int .i64 n, .slice a2 name.length c2, .slice a3 0 c3, .slice a4 bs.length c4, .slice a5 es.length c5] 133 (0, 0)) none)
  go_enter Tryz.func153, Tryz.ntmps153
  have q3 := x0.cell (i := 3) rfl
  go_upto_region 2 with fail
  clear q3
  generalize w.alloc (.cells #[.int .i64 6, .int .i64 n, .slice a2 name.length c2, .slice a3 0 c3, .slice a4 bs.length c4, .slice a5 es.length c5] 133 (0, 0)) = w1 at *
  generalize w.heap.size = gx at *
  have q0 := x0.cell (i := 0) rfl
  have hF := (hT.below hb).st 6 (by omega)
  have z0 := hF.c0
  have z1 := hF.c1
  have z2 := hF.c2
  have z3 := hF.c3
  have z4 := hF.c4
  have HQ := wordsC (stF 6) (stPlain 6) w1 (hT.below hb)
  rw [stW6] at HQ
  unfold Fm.val at HQ
  clear hF
  simp only [Nat.reduceMul, Nat.reduceAdd, Nat.zero_mul, Nat.zero_add] at z0 z1 z2 z3 z4
  go_wp2_with fail
  refine HQ.mono ?_
  rintro e w2 ⟨gw, rfl, wb, hgw', hq⟩
  clear HQ q0 z0 z1 z2 z3 z4
  have hgw : some gw ≠ some g := by have := hp.blk.lt; simp; omega
  replace x0 := x0.below (below_grown hq) x0.lt
  replace hb := hb.trans ((below_grown hq).mono hb.size)
  replace hw := hw.trans (Wrote.of hq)
  replace hp := hp.grown hq
  clear hq hgw' hgl
  simp only [strs, List.map_cons, List.map_nil, List.length_cons, List.length_nil] at wb ⊢
  have q0 := x0.cell (i := 0) rfl
  have q1 := x0.cell (i := 1) rfl
  have q2 := x0.cell (i := 2) rfl
  have q3 := x0.cell (i := 3) rfl
  have q4 := x0.cell (i := 4) rfl
  have q5 := x0.cell (i := 5) rfl
  have d0 := wb.cell (i := 0) rfl
  have d1 := wb.cell (i := 1) rfl
  have d2 := wb.cell (i := 2) rfl
  go_wp2_with fail
  refine wp_loop_rounds 4 ?_
  rw [rounds_succ]
  have HQ := putC [⟨#[84, 82, 65, 80]⟩] w2.heap.size 1 1 (w2.alloc (.cells #[.string ⟨#[84, 82, 65, 80]⟩] 9)) base g _ _ (hp.grown (grown_alloc w2 _ none)) rfl (Blk.new w2 9 [.string ⟨#[84, 82, 65, 80]⟩]) (by have := hp.blk.lt; omega) (by rw [put_84_82_65_80]; simp only [List.length_append, List.length_cons, List.length_nil]; omega) hg
  go_wp2_with fail
  refine HQ.mono ?_
  rintro e w3 ⟨rfl, ⟨v', hp'⟩, hq⟩
  clear q0 q1 q2 q3 q4 q5 d0 d1 d2
  replace hq := (Wrote.of (grown_alloc w2 (.cells #[.string ⟨#[84, 82, 65, 80]⟩] 9) none)).trans hq
  clear HQ hp
  have hp := hp'
  clear hp'
  replace x0 := hq.blk x0 (by decide) hgx
  replace wb := hq.blk wb (by decide) hgw
  replace hb := hq.below hb h0 hgk
  replace hw := hw.trans hq
  clear hq
  have q0 := x0.cell (i := 0) rfl
  have q1 := x0.cell (i := 1) rfl
  have q2 := x0.cell (i := 2) rfl
  have q3 := x0.cell (i := 3) rfl
  have q4 := x0.cell (i := 4) rfl
  have q5 := x0.cell (i := 5) rfl
  have d0 := wb.cell (i := 0) rfl
  have d1 := wb.cell (i := 1) rfl
  have d2 := wb.cell (i := 2) rfl
  rw [put_84_82_65_80] at hp
  go_wp2_with fail
  rw [rounds_succ]
  have HQ := itoaC n (by omega) (by omega) w3 (hT.below hb)
  go_wp2_with fail
  refine HQ.mono ?_
  rintro e w4 ⟨rfl, hq⟩
  clear HQ
  clear q0 q1 q2 q3 q4 q5 d0 d1 d2
  replace hp := hp.grown hq
  replace hq : Wrote base (some g) w3 w4 := Wrote.of hq
  replace x0 := hq.blk x0 (by decide) hgx
  replace wb := hq.blk wb (by decide) hgw
  replace hb := hq.below hb h0 hgk
  replace hw := hw.trans hq
  clear hq
  have q0 := x0.cell (i := 0) rfl
  have q1 := x0.cell (i := 1) rfl
  have q2 := x0.cell (i := 2) rfl
  have q3 := x0.cell (i := 3) rfl
  have q4 := x0.cell (i := 4) rfl
  have q5 := x0.cell (i := 5) rfl
  have d0 := wb.cell (i := 0) rfl
  have d1 := wb.cell (i := 1) rfl
  have d2 := wb.cell (i := 2) rfl
  have HQ := putC [⟨(Lib.itoa n).toArray⟩] w4.heap.size 1 1 (w4.alloc (.cells #[.string ⟨(Lib.itoa n).toArray⟩] 9)) base g _ _ (hp.grown (grown_alloc w4 _ none)) rfl (Blk.new w4 9 [.string ⟨(Lib.itoa n).toArray⟩]) (by have := hp.blk.lt; omega) (by rw [put_one_num]; simp only [List.length_append, List.length_cons, List.length_nil]; omega) hg
  go_wp2_with fail
  refine HQ.mono ?_
  rintro e w5 ⟨rfl, ⟨v', hp'⟩, hq⟩
  clear q0 q1 q2 q3 q4 q5 d0 d1 d2
  replace hq := (Wrote.of (grown_alloc w4 (.cells #[.string ⟨(Lib.itoa n).toArray⟩] 9) none)).trans hq
  clear HQ hp
  have hp := hp'
  clear hp'
  replace x0 := hq.blk x0 (by decide) hgx
  replace wb := hq.blk wb (by decide) hgw
  replace hb := hq.below hb h0 hgk
  replace hw := hw.trans hq
  clear hq
  have q0 := x0.cell (i := 0) rfl
  have q1 := x0.cell (i := 1) rfl
  have q2 := x0.cell (i := 2) rfl
  have q3 := x0.cell (i := 3) rfl
  have q4 := x0.cell (i := 4) rfl
  have q5 := x0.cell (i := 5) rfl
  have d0 := wb.cell (i := 0) rfl
  have d1 := wb.cell (i := 1) rfl
  have d2 := wb.cell (i := 2) rfl
  rw [put_one_num] at hp
  go_wp2_with fail
  rw [rounds_succ]
  have HQ := putC [⟨#[59]⟩] w5.heap.size 1 1 (w5.alloc (.cells #[.string ⟨#[59]⟩] 9)) base g _ _ (hp.grown (grown_alloc w5 _ none)) rfl (Blk.new w5 9 [.string ⟨#[59]⟩]) (by have := hp.blk.lt; omega) (by rw [put_59]; simp only [List.length_append, List.length_cons, List.length_nil]; omega) hg
  go_wp2_with fail
  refine HQ.mono ?_
  rintro e w6 ⟨rfl, ⟨v', hp'⟩, hq⟩
  clear q0 q1 q2 q3 q4 q5 d0 d1 d2
  replace hq := (Wrote.of (grown_alloc w5 (.cells #[.string ⟨#[59]⟩] 9) none)).trans hq
  clear HQ hp
  have hp := hp'
  clear hp'
  replace x0 := hq.blk x0 (by decide) hgx
  replace wb := hq.blk wb (by decide) hgw
  replace hb := hq.below hb h0 hgk
  replace hw := hw.trans hq
  clear hq
  have q0 := x0.cell (i := 0) rfl
  have q1 := x0.cell (i := 1) rfl
  have q2 := x0.cell (i := 2) rfl
  have q3 := x0.cell (i := 3) rfl
  have q4 := x0.cell (i := 4) rfl
  have q5 := x0.cell (i := 5) rfl
  have d0 := wb.cell (i := 0) rfl
  have d1 := wb.cell (i := 1) rfl
  have d2 := wb.cell (i := 2) rfl
  rw [put_59] at hp
  go_wp2_with fail
  rw [rounds_succ]
  go_wp2_with fail
  have hfin : ∃ v', Pg w6 base g (l ++ prS (.mk 6 n name [] bs es)) v' := ⟨_, by rw [HE.out]; simpa [List.append_assoc] using hp⟩
  exact bodyPost_end (results_none rfl _ _ _) rfl ⟨rfl, hfin, hw⟩

set_option maxHeartbeats 4000000 in
theorem prSt7 (n : Int) (name : List Int) (e0 : Ex) (S0 : PrEx e0) (bs es : List St) (Sb : PrSts bs) (Se : PrSts es) : PrSt (.mk 7 n name [e0] bs es) := by
  intro w0 w vs base g l v hT hr hb h0 hg hp hok hsz
  unfold St.fl at hr
  obtain ⟨y0, _, rfl, rfl, y1, _, rfl, rfl, y2, _, rfl, ⟨a2, c2, rfl, h2, hc2, _⟩, y3, _, rfl, h3', y4, _, rfl, h4', y5, _, rfl, h5', rfl⟩ := hr
  obtain ⟨a3, c3, rfl, h3⟩ := h3'.list
  obtain ⟨a4, c4, rfl, h4⟩ := h4'.list
  obtain ⟨a5, c5, rfl, h5⟩ := h5'.list
  clear h3' h4' h5'
  have hkl : (exs [e0]).length = 1 := by simp [exs_map]
  have hbl : (sts bs).length = bs.length := by simp [sts_map]
  have hel : (sts es).length = es.length := by simp [sts_map]
  rw [hkl, hbl, hel]
  simp only [agg]
  obtain ⟨b4, o4, rfl⟩ := h3.addr (by rw [hkl]; omega)
  obtain ⟨cc, rfl⟩ : ∃ cc, c3 = cc + 1 := ⟨c3 - 1, by have := h3.cap; rw [hkl] at this; omega⟩
  obtain ⟨us0, hv0, hcl0⟩ := (h3.el (i := 0) rfl).vals
  obtain ⟨u00, u01, u02, u03, u04, rfl⟩ : ∃ a b c d e, us0 = [a, b, c, d, e] := by
    have hl := hv0.len
    rw [exs_len] at hl
    match us0, hl with
    | [a, b, c, d, e], _ => exact ⟨a, b, c, d, e, rfl⟩
  have hc00 : w0.cell? ⟨b4, o4, none⟩ = some u00 := by have := hcl0 0 _ rfl; simpa using this
  have hc01 : w0.cell? ⟨b4, o4 + 1, none⟩ = some u01 := by have := hcl0 1 _ rfl; simpa using this
  have hc02 : w0.cell? ⟨b4, o4 + 2, none⟩ = some u02 := by have := hcl0 2 _ rfl; simpa using this
  have hc03 : w0.cell? ⟨b4, o4 + 3, none⟩ = some u03 := by have := hcl0 3 _ rfl; simpa using this
  have hc04 : w0.cell? ⟨b4, o4 + 4, none⟩ = some u04 := by have := hcl0 4 _ rfl; simpa using this
  clear hcl0
  have hoks := (okSt_parts hok).2.1
  simp only [okExs, Bool.and_eq_true, and_true] at hoks
  have hk0 := hoks
  have he : prS (.mk 7 n name [e0] bs es) = ([67, 65, 76, 76, 32]) ++ (prE e0) ++ ([59, 10]) := by simp [prS, prEs, stText]
  rw [he] at hsz
  simp only [List.length_append, List.length_cons, List.length_nil] at hsz
  have HE : Hid (prS (.mk 7 n name [e0] bs es) = ([67, 65, 76, 76, 32]) ++ (prE e0) ++ ([59, 10])) := he
  clear he
  have hloc := (okSt_parts hok).1
  skip
  skip
  skip
  have hokb := (okSt_parts hok).2.2.1
  have hoke := (okSt_parts hok).2.2.2
  clear hok
  have hgl := hp.blk.lt
  have hgx : some w.heap.size ≠ some g := by simp; omega
  have hgk : ∀ k, some g = some k → w0.heap.size ≤ k := by intro k e; cases e; omega
  have x0 := Blk.new w 133 [.int .i64 7, .int .i64 n, .slice a2 name.length c2, .slice (some ⟨b4, o4, none⟩) 1 (cc + 1), .slice a4 bs.length c4, .slice a5 es.length c5]
  have hw : Wrote base (some g) w (w.alloc (.cells #[.int .i64 7, .int .i64 n, .slice a2 name.length c2, .slice (some ⟨b4, o4, none⟩) 1 (cc + 1), .slice a4 bs.length c4, .slice a5 es.length c5] 133 (0, 0))) := Wrote.of (grown_alloc w _ none)
  replace hb : Below w0.heap.size w0 (w.alloc (.cells #[.int .i64 7, .int .i64 n, .slice a2 name.length c2, .slice (some ⟨b4, o4, none⟩) 1 (cc + 1), .slice a4 bs.length c4, .slice a5 es.length c5] 133 (0, 0))) := hb.alloc hb.size _
  replace hp := hp.grown (grown_alloc w (.cells #[.int .i64 7, .int .i64 n, .slice a2 name.length c2, .slice (some ⟨b4, o4, none⟩) 1 (cc + 1), .slice a4 bs.length c4, .slice a5 es.length c5] 133 (0, 0)) none)
  go_enter Tryz.func153, Tryz.ntmps153
  have q3 := x0.cell (i := 3) rfl
  go_upto_region 2 with fail
  clear q3
  generalize w.alloc (.cells #[.int .i64 7, .int .i64 n, .slice a2 name.length c2, .slice (some ⟨b4, o4, none⟩) 1 (cc + 1), .slice a4 bs.length c4, .slice a5 es.length c5] 133 (0, 0)) = w1 at *
  generalize w.heap.size = gx at *
  have q0 := x0.cell (i := 0) rfl
  have hF := (hT.below hb).st 7 (by omega)
  have z0 := hF.c0
  have z1 := hF.c1
  have z2 := hF.c2
  have z3 := hF.c3
  have z4 := hF.c4
  have HQ := wordsC (stF 7) (stPlain 7) w1 (hT.below hb)
  rw [stW7] at HQ
  unfold Fm.val at HQ
  clear hF
  simp only [Nat.reduceMul, Nat.reduceAdd, Nat.zero_mul, Nat.zero_add] at z0 z1 z2 z3 z4
  go_wp2_with fail
  refine HQ.mono ?_
  rintro e w2 ⟨gw, rfl, wb, hgw', hq⟩
  clear HQ q0 z0 z1 z2 z3 z4
  have hgw : some gw ≠ some g := by have := hp.blk.lt; simp; omega
  replace x0 := x0.below (below_grown hq) x0.lt
  replace hb := hb.trans ((below_grown hq).mono hb.size)
  replace hw := hw.trans (Wrote.of hq)
  replace hp := hp.grown hq
  clear hq hgw' hgl
  simp only [strs, List.map_cons, List.map_nil, List.length_cons, List.length_nil] at wb ⊢
  have q0 := x0.cell (i := 0) rfl
  have q1 := x0.cell (i := 1) rfl
  have q2 := x0.cell (i := 2) rfl
  have q3 := x0.cell (i := 3) rfl
  have q4 := x0.cell (i := 4) rfl
  have q5 := x0.cell (i := 5) rfl
  have d0 := wb.cell (i := 0) rfl
  have d1 := wb.cell (i := 1) rfl
  have d2 := wb.cell (i := 2) rfl
  go_wp2_with fail
  refine wp_loop_rounds 4 ?_
  rw [rounds_succ]
  have HQ := putC [⟨#[67, 65, 76, 76]⟩] w2.heap.size 1 1 (w2.alloc (.cells #[.string ⟨#[67, 65, 76, 76]⟩] 9)) base g _ _ (hp.grown (grown_alloc w2 _ none)) rfl (Blk.new w2 9 [.string ⟨#[67, 65, 76, 76]⟩]) (by have := hp.blk.lt; omega) (by rw [put_67_65_76_76]; simp only [List.length_append, List.length_cons, List.length_nil]; omega) hg
  go_wp2_with fail
  refine HQ.mono ?_
  rintro e w3 ⟨rfl, ⟨v', hp'⟩, hq⟩
  clear q0 q1 q2 q3 q4 q5 d0 d1 d2
  replace hq := (Wrote.of (grown_alloc w2 (.cells #[.string ⟨#[67, 65, 76, 76]⟩] 9) none)).trans hq
  clear HQ hp
  have hp := hp'
  clear hp'
  replace x0 := hq.blk x0 (by decide) hgx
  replace wb := hq.blk wb (by decide) hgw
  replace hb := hq.below hb h0 hgk
  replace hw := hw.trans hq
  clear hq
  have q0 := x0.cell (i := 0) rfl
  have q1 := x0.cell (i := 1) rfl
  have q2 := x0.cell (i := 2) rfl
  have q3 := x0.cell (i := 3) rfl
  have q4 := x0.cell (i := 4) rfl
  have q5 := x0.cell (i := 5) rfl
  have d0 := wb.cell (i := 0) rfl
  have d1 := wb.cell (i := 1) rfl
  have d2 := wb.cell (i := 2) rfl
  rw [put_67_65_76_76] at hp
  go_wp2_with fail
  rw [rounds_succ]
  have HQ := S0 w0 w3 [u00, u01, u02, u03, u04] base g _ _ hT hv0 hb h0 hg hp hk0 (by simp only [List.length_append, List.length_cons, List.length_nil]; omega)
  simp only [agg] at HQ
  have t0 := cell_on hc00 hb
  have t1 := cell_on hc01 hb
  have t2 := cell_on hc02 hb
  have t3 := cell_on hc03 hb
  have t4 := cell_on hc04 hb
  go_wp2_with fail
  refine HQ.mono ?_
  rintro e w4 ⟨rfl, ⟨v', hp'⟩, hq⟩
  clear t0 t1 t2 t3 t4
  clear q0 q1 q2 q3 q4 q5 d0 d1 d2
  clear HQ hp
  have hp := hp'
  clear hp'
  replace x0 := hq.blk x0 (by decide) hgx
  replace wb := hq.blk wb (by decide) hgw
  replace hb := hq.below hb h0 hgk
  replace hw := hw.trans hq
  clear hq
  have q0 := x0.cell (i := 0) rfl
  have q1 := x0.cell (i := 1) rfl
  have q2 := x0.cell (i := 2) rfl
  have q3 := x0.cell (i := 3) rfl
  have q4 := x0.cell (i := 4) rfl
  have q5 := x0.cell (i := 5) rfl
  have d0 := wb.cell (i := 0) rfl
  have d1 := wb.cell (i := 1) rfl
  have d2 := wb.cell (i := 2) rfl
  rcases cc with _ | cc
  all_goals
    go_wp2_with fail
    rw [rounds_succ]
    have HQ := putC [⟨#[59]⟩] w4.heap.size 1 1 (w4.alloc (.cells #[.string ⟨#[59]⟩] 9)) base g _ _ (hp.grown (grown_alloc w4 _ none)) rfl (Blk.new w4 9 [.string ⟨#[59]⟩]) (by have := hp.blk.lt; omega) (by rw [put_59]; simp only [List.length_append, List.length_cons, List.length_nil]; omega) hg
    go_wp2_with fail
    refine HQ.mono ?_
    rintro e w5 ⟨rfl, ⟨v', hp'⟩, hq⟩
    clear q0 q1 q2 q3 q4 q5 d0 d1 d2
    replace hq := (Wrote.of (grown_alloc w4 (.cells #[.string ⟨#[59]⟩] 9) none)).trans hq
    clear HQ hp
    have hp := hp'
    clear hp'
    replace x0 := hq.blk x0 (by decide) hgx
    replace wb := hq.blk wb (by decide) hgw
    replace hb := hq.below hb h0 hgk
    replace hw := hw.trans hq
    clear hq
    have q0 := x0.cell (i := 0) rfl
    have q1 := x0.cell (i := 1) rfl
    have q2 := x0.cell (i := 2) rfl
    have q3 := x0.cell (i := 3) rfl
    have q4 := x0.cell (i := 4) rfl
    have q5 := x0.cell (i := 5) rfl
    have d0 := wb.cell (i := 0) rfl
    have d1 := wb.cell (i := 1) rfl
    have d2 := wb.cell (i := 2) rfl
    rw [put_59] at hp
    go_wp2_with fail
    rw [rounds_succ]
    go_wp2_with fail
    have hfin : ∃ v', Pg w5 base g (l ++ prS (.mk 7 n name [e0] bs es)) v' := ⟨_, by rw [HE.out]; simpa [List.append_assoc] using hp⟩
    exact bodyPost_end (results_none rfl _ _ _) rfl ⟨rfl, hfin, hw⟩

end Go.Proofs.YtajnfknldofjlaaGreatDoor

/- Texts of expressions: what the program writes, kind by kind. By mkprex.py. -/
import Derived.Test.YtajnfknldofjlaaGreatDoorPrWords
namespace Go.Proofs.YtajnfknldofjlaaGreatDoor
open Go.RowKit
set_option linter.unusedVariables false
set_option linter.unusedSimpArgs false
set_option maxRecDepth 100000

/-- What the program writes of an expression. -/
def PrEx (x : Ex) : Prop := ∀ (w0 w : World) (vs : List Value) (base g : Nat) (l : List Int) (v : Value), Tabs w0 → RdVals w0 x.fl vs → Below w0.heap.size w0 w → w0.heap.size ≤ base → base ≤ g → Pg w base g l v → okEx x = true → l.length + (prE x).length ≤ 1000000000 →
  Calls Tryz.prog 179 #[.pointer (some ⟨g, 0, none⟩), agg vs] w fun e w' => e = .returned (.tuple #[]) ∧ (∃ v', Pg w' base g (l ++ prE x) v') ∧ Wrote base (some g) w w'

def Six (n : Int) : Prop := n = 0 ∨ n = 1 ∨ n = 2 ∨ n = 3 ∨ n = 4 ∨ n = 5
def opS (n : Int) : ByteArray := if n = 0 then ⟨#[43]⟩ else if n = 1 then ⟨#[45]⟩ else if n = 2 then ⟨#[42]⟩ else if n = 3 then ⟨#[47]⟩ else if n = 4 then ⟨#[60]⟩ else ⟨#[61]⟩
theorem put_opS {n : Int} (h : Six n) : putAll [opS n] = opI n ++ [32] := by
  rcases h with rfl | rfl | rfl | rfl | rfl | rfl <;> simp [opS, opI, put_43, put_45, put_42, put_47, put_60, put_61]
theorem opI_one {n : Int} (h : Six n) : (opI n).length = 1 := by
  rcases h with rfl | rfl | rfl | rfl | rfl | rfl <;> rfl

theorem sl_opS {n : Int} (h : Six n) (w : World) : (Instr.slice 9 (.string ⟨#[43, 45, 42, 47, 60, 61]⟩) (some (.int .i64 n)) (some (.int .i64 (wrap64 (n + 1)))) none).run Tryz.prog w = .ok (.string (opS n)) w := by
  rcases h with rfl | rfl | rfl | rfl | rfl | rfl
  · rw [show wrap64 (0 + 1) = 1 by unfold wrap64; omega]; go_simp; rfl
  · rw [show wrap64 (1 + 1) = 2 by unfold wrap64; omega]; go_simp; rfl
  · rw [show wrap64 (2 + 1) = 3 by unfold wrap64; omega]; go_simp; rfl
  · rw [show wrap64 (3 + 1) = 4 by unfold wrap64; omega]; go_simp; rfl
  · rw [show wrap64 (4 + 1) = 5 by unfold wrap64; omega]; go_simp; rfl
  · rw [show wrap64 (5 + 1) = 6 by unfold wrap64; omega]; go_simp; rfl

theorem okEx_loc {k n : Int} {mod name : List Int} {ks : List Ex} (h : okEx (.mk k n mod name ks) = true) : exLoc k n mod name ks.length = true ∧ okExs ks = true := by
  unfold okEx at h
  simp only [Bool.and_eq_true] at h
  exact ⟨h.1.1, h.2⟩
theorem loc_name {k n : Int} {mod name : List Int} {nk : Nat} (h : exLoc k n mod name nk = true) (hk : exNamed k = true) : nameOk name false = true := by
  unfold exLoc at h
  simp only [Bool.and_eq_true] at h
  rw [hk] at h
  exact h.1.2.2

set_option maxHeartbeats 4000000 in
theorem prEx0 (n : Int) (mod name : List Int) (ks : List Ex) : PrEx (.mk 0 n mod name ks) := by
  intro w0 w vs base g l v hT hr hb h0 hg hp hok hsz
  unfold Ex.fl at hr
  obtain ⟨y0, _, rfl, rfl, y1, _, rfl, rfl, y2, _, rfl, ⟨a2, c2, rfl, h2, hc2, _⟩, y3, _, rfl, ⟨a3, c3, rfl, h3, hc3, _⟩, y4, _, rfl, h4', rfl⟩ := hr
  obtain ⟨a4, c4, rfl, h4⟩ := h4'.list
  clear h4'
  have hkl : (exs ks).length = ks.length := by simp [exs_map]
  rw [hkl]
  simp only [agg]
  skip
  have he : prE (.mk 0 n mod name ks) = (numI n ++ [32]) := by simp [prE, prEs, exText]
  rw [he] at hsz
  simp only [List.length_append, List.length_cons, List.length_nil] at hsz
  have HE : Hid (prE (.mk 0 n mod name ks) = (numI n ++ [32])) := he
  clear he
  have hloc := (okEx_loc hok).1
  skip
  skip
  have hnb : -2147483648 ≤ n ∧ n ≤ 2147483647 := by simp [exLoc, inB, exLow, exHigh] at hloc; omega
  skip
  skip
  skip
  clear hok
  have hgl := hp.blk.lt
  have hgx : some w.heap.size ≠ some g := by simp; omega
  have hgk : ∀ k, some g = some k → w0.heap.size ≤ k := by intro k e; cases e; omega
  have x0 := Blk.new w 122 [.int .i64 0, .int .i64 n, .slice a2 mod.length c2, .slice a3 name.length c3, .slice a4 ks.length c4]
  have hw : Wrote base (some g) w (w.alloc (.cells #[.int .i64 0, .int .i64 n, .slice a2 mod.length c2, .slice a3 name.length c3, .slice a4 ks.length c4] 122 (0, 0))) := Wrote.of (grown_alloc w _ none)
  replace hb : Below w0.heap.size w0 (w.alloc (.cells #[.int .i64 0, .int .i64 n, .slice a2 mod.length c2, .slice a3 name.length c3, .slice a4 ks.length c4] 122 (0, 0))) := hb.alloc hb.size _
  replace hp := hp.grown (grown_alloc w (.cells #[.int .i64 0, .int .i64 n, .slice a2 mod.length c2, .slice a3 name.length c3, .slice a4 ks.length c4] 122 (0, 0)) none)
  go_enter Tryz.func179, Tryz.ntmps179
  have q4 := x0.cell (i := 4) rfl
  go_upto_region 2 with fail
  clear q4
  generalize w.alloc (.cells #[.int .i64 0, .int .i64 n, .slice a2 mod.length c2, .slice a3 name.length c3, .slice a4 ks.length c4] 122 (0, 0)) = w1 at *
  generalize w.heap.size = gx at *
  have q0 := x0.cell (i := 0) rfl
  have hF := (hT.below hb).ex 0 (by omega)
  have z0 := hF.c0
  have z1 := hF.c1
  have z2 := hF.c2
  have z3 := hF.c3
  have z4 := hF.c4
  have HQ := wordsC (exF 0) (exPlain 0) w1 (hT.below hb)
  rw [exW0] at HQ
  unfold Fm.val at HQ
  clear hF
  simp only [Nat.reduceMul, Nat.reduceAdd, Nat.zero_mul, Nat.zero_add] at z0 z1 z2 z3 z4
  go_wp2_with fail
  refine HQ.mono ?_
  rintro e w2 ⟨gw, rfl, wb, hgw', hq⟩
  clear HQ q0 z0 z1 z2 z3 z4
  have hgw : some gw ≠ some g := by have := hp.blk.lt; simp; omega
  replace x0 := x0.below (below_grown hq) x0.lt
  replace hb := hb.trans ((below_grown hq).mono hb.size)
  replace hw := hw.trans (Wrote.of hq)
  replace hp := hp.grown hq
  clear hq hgw' hgl
  simp only [strs, List.map_cons, List.map_nil, List.length_cons, List.length_nil] at wb ⊢
  have q0 := x0.cell (i := 0) rfl
  have q1 := x0.cell (i := 1) rfl
  have q2 := x0.cell (i := 2) rfl
  have q3 := x0.cell (i := 3) rfl
  have q4 := x0.cell (i := 4) rfl
  have d0 := wb.cell (i := 0) rfl
  go_wp2_with fail
  refine wp_loop_rounds 2 ?_
  rw [rounds_succ]
  have HQ := itoaC n (by omega) (by omega) w2 (hT.below hb)
  go_wp2_with fail
  refine HQ.mono ?_
  rintro e w3 ⟨rfl, hq⟩
  clear HQ
  clear q0 q1 q2 q3 q4 d0
  replace hp := hp.grown hq
  replace hq : Wrote base (some g) w2 w3 := Wrote.of hq
  replace x0 := hq.blk x0 (by decide) hgx
  replace wb := hq.blk wb (by decide) hgw
  replace hb := hq.below hb h0 hgk
  replace hw := hw.trans hq
  clear hq
  have q0 := x0.cell (i := 0) rfl
  have q1 := x0.cell (i := 1) rfl
  have q2 := x0.cell (i := 2) rfl
  have q3 := x0.cell (i := 3) rfl
  have q4 := x0.cell (i := 4) rfl
  have d0 := wb.cell (i := 0) rfl
  have HQ := putC [⟨(Lib.itoa n).toArray⟩] w3.heap.size 1 1 (w3.alloc (.cells #[.string ⟨(Lib.itoa n).toArray⟩] 9)) base g _ _ (hp.grown (grown_alloc w3 _ none)) rfl (Blk.new w3 9 [.string ⟨(Lib.itoa n).toArray⟩]) (by have := hp.blk.lt; omega) (by rw [put_one_num]; simp only [List.length_append, List.length_cons, List.length_nil]; omega) hg
  go_wp2_with fail
  refine HQ.mono ?_
  rintro e w4 ⟨rfl, ⟨v', hp'⟩, hq⟩
  clear q0 q1 q2 q3 q4 d0
  replace hq := (Wrote.of (grown_alloc w3 (.cells #[.string ⟨(Lib.itoa n).toArray⟩] 9) none)).trans hq
  clear HQ hp
  have hp := hp'
  clear hp'
  replace x0 := hq.blk x0 (by decide) hgx
  replace wb := hq.blk wb (by decide) hgw
  replace hb := hq.below hb h0 hgk
  replace hw := hw.trans hq
  clear hq
  have q0 := x0.cell (i := 0) rfl
  have q1 := x0.cell (i := 1) rfl
  have q2 := x0.cell (i := 2) rfl
  have q3 := x0.cell (i := 3) rfl
  have q4 := x0.cell (i := 4) rfl
  have d0 := wb.cell (i := 0) rfl
  rw [put_one_num] at hp
  go_wp2_with fail
  rw [rounds_succ]
  go_wp2_with fail
  have hfin : ∃ v', Pg w4 base g (l ++ prE (.mk 0 n mod name ks)) v' := ⟨_, by rw [HE.out]; simpa [List.append_assoc] using hp⟩
  exact bodyPost_end (results_none rfl _ _ _) rfl ⟨rfl, hfin, hw⟩

set_option maxHeartbeats 4000000 in
theorem prEx1 (n : Int) (mod name : List Int) (ks : List Ex) : PrEx (.mk 1 n mod name ks) := by
  intro w0 w vs base g l v hT hr hb h0 hg hp hok hsz
  unfold Ex.fl at hr
  obtain ⟨y0, _, rfl, rfl, y1, _, rfl, rfl, y2, _, rfl, ⟨a2, c2, rfl, h2, hc2, _⟩, y3, _, rfl, ⟨a3, c3, rfl, h3, hc3, _⟩, y4, _, rfl, h4', rfl⟩ := hr
  obtain ⟨a4, c4, rfl, h4⟩ := h4'.list
  clear h4'
  have hkl : (exs ks).length = ks.length := by simp [exs_map]
  rw [hkl]
  simp only [agg]
  skip
  have he : prE (.mk 1 n mod name ks) = (name ++ [32]) := by simp [prE, prEs, exText]
  rw [he] at hsz
  simp only [List.length_append, List.length_cons, List.length_nil] at hsz
  have HE : Hid (prE (.mk 1 n mod name ks) = (name ++ [32])) := he
  clear he
  have hloc := (okEx_loc hok).1
  skip
  skip
  skip
  skip
  have hnm := loc_name hloc (by decide)
  have hpn := put_one_name (g := false) h3.2.1 hnm
  clear hok
  have hgl := hp.blk.lt
  have hgx : some w.heap.size ≠ some g := by simp; omega
  have hgk : ∀ k, some g = some k → w0.heap.size ≤ k := by intro k e; cases e; omega
  have x0 := Blk.new w 122 [.int .i64 1, .int .i64 n, .slice a2 mod.length c2, .slice a3 name.length c3, .slice a4 ks.length c4]
  have hw : Wrote base (some g) w (w.alloc (.cells #[.int .i64 1, .int .i64 n, .slice a2 mod.length c2, .slice a3 name.length c3, .slice a4 ks.length c4] 122 (0, 0))) := Wrote.of (grown_alloc w _ none)
  replace hb : Below w0.heap.size w0 (w.alloc (.cells #[.int .i64 1, .int .i64 n, .slice a2 mod.length c2, .slice a3 name.length c3, .slice a4 ks.length c4] 122 (0, 0))) := hb.alloc hb.size _
  replace hp := hp.grown (grown_alloc w (.cells #[.int .i64 1, .int .i64 n, .slice a2 mod.length c2, .slice a3 name.length c3, .slice a4 ks.length c4] 122 (0, 0)) none)
  go_enter Tryz.func179, Tryz.ntmps179
  have q4 := x0.cell (i := 4) rfl
  go_upto_region 2 with fail
  clear q4
  generalize w.alloc (.cells #[.int .i64 1, .int .i64 n, .slice a2 mod.length c2, .slice a3 name.length c3, .slice a4 ks.length c4] 122 (0, 0)) = w1 at *
  generalize w.heap.size = gx at *
  have q0 := x0.cell (i := 0) rfl
  have hF := (hT.below hb).ex 1 (by omega)
  have z0 := hF.c0
  have z1 := hF.c1
  have z2 := hF.c2
  have z3 := hF.c3
  have z4 := hF.c4
  have HQ := wordsC (exF 1) (exPlain 1) w1 (hT.below hb)
  rw [exW1] at HQ
  unfold Fm.val at HQ
  clear hF
  simp only [Nat.reduceMul, Nat.reduceAdd, Nat.zero_mul, Nat.zero_add] at z0 z1 z2 z3 z4
  go_wp2_with fail
  refine HQ.mono ?_
  rintro e w2 ⟨gw, rfl, wb, hgw', hq⟩
  clear HQ q0 z0 z1 z2 z3 z4
  have hgw : some gw ≠ some g := by have := hp.blk.lt; simp; omega
  replace x0 := x0.below (below_grown hq) x0.lt
  replace hb := hb.trans ((below_grown hq).mono hb.size)
  replace hw := hw.trans (Wrote.of hq)
  replace hp := hp.grown hq
  clear hq hgw' hgl
  simp only [strs, List.map_cons, List.map_nil, List.length_cons, List.length_nil] at wb ⊢
  have q0 := x0.cell (i := 0) rfl
  have q1 := x0.cell (i := 1) rfl
  have q2 := x0.cell (i := 2) rfl
  have q3 := x0.cell (i := 3) rfl
  have q4 := x0.cell (i := 4) rfl
  have d0 := wb.cell (i := 0) rfl
  go_wp2_with fail
  refine wp_loop_rounds 2 ?_
  rw [rounds_succ]
  have kc := conv_bytes c3 (h3.below hb)
  have HQ := putC [(strOfNums name)] w2.heap.size 1 1 (w2.alloc (.cells #[.string (strOfNums name)] 9)) base g _ _ (hp.grown (grown_alloc w2 _ none)) rfl (Blk.new w2 9 [.string (strOfNums name)]) (by have := hp.blk.lt; omega) (by rw [hpn]; simp only [List.length_append, List.length_cons, List.length_nil]; omega) hg
  go_wp2_with fail
  refine HQ.mono ?_
  rintro e w3 ⟨rfl, ⟨v', hp'⟩, hq⟩
  clear q0 q1 q2 q3 q4 d0
  replace hq := (Wrote.of (grown_alloc w2 (.cells #[.string (strOfNums name)] 9) none)).trans hq
  clear HQ hp
  have hp := hp'
  clear hp'
  replace x0 := hq.blk x0 (by decide) hgx
  replace wb := hq.blk wb (by decide) hgw
  replace hb := hq.below hb h0 hgk
  replace hw := hw.trans hq
  clear hq
  have q0 := x0.cell (i := 0) rfl
  have q1 := x0.cell (i := 1) rfl
  have q2 := x0.cell (i := 2) rfl
  have q3 := x0.cell (i := 3) rfl
  have q4 := x0.cell (i := 4) rfl
  have d0 := wb.cell (i := 0) rfl
  rw [hpn] at hp
  clear kc
  go_wp2_with fail
  rw [rounds_succ]
  go_wp2_with fail
  have hfin : ∃ v', Pg w3 base g (l ++ prE (.mk 1 n mod name ks)) v' := ⟨_, by rw [HE.out]; simpa [List.append_assoc] using hp⟩
  exact bodyPost_end (results_none rfl _ _ _) rfl ⟨rfl, hfin, hw⟩

set_option maxHeartbeats 4000000 in
theorem prEx2 (n : Int) (mod name : List Int) (e0 : Ex) (S0 : PrEx e0) : PrEx (.mk 2 n mod name [e0]) := by
  intro w0 w vs base g l v hT hr hb h0 hg hp hok hsz
  unfold Ex.fl at hr
  obtain ⟨y0, _, rfl, rfl, y1, _, rfl, rfl, y2, _, rfl, ⟨a2, c2, rfl, h2, hc2, _⟩, y3, _, rfl, ⟨a3, c3, rfl, h3, hc3, _⟩, y4, _, rfl, h4', rfl⟩ := hr
  obtain ⟨a4, c4, rfl, h4⟩ := h4'.list
  clear h4'
  have hkl : (exs [e0]).length = 1 := by simp [exs_map]
  rw [hkl]
  simp only [agg]
  obtain ⟨b4, o4, rfl⟩ := h4.addr (by rw [hkl]; omega)
  obtain ⟨cc, rfl⟩ : ∃ cc, c4 = cc + 1 := ⟨c4 - 1, by have := h4.cap; rw [hkl] at this; omega⟩
  obtain ⟨us0, hv0, hcl0⟩ := (h4.el (i := 0) rfl).vals
  obtain ⟨u00, u01, u02, u03, u04, rfl⟩ : ∃ a b c d e, us0 = [a, b, c, d, e] := by
    have hl := hv0.len
    rw [exs_len] at hl
    match us0, hl with
    | [a, b, c, d, e], _ => exact ⟨a, b, c, d, e, rfl⟩
  have hc00 : w0.cell? ⟨b4, o4, none⟩ = some u00 := by have := hcl0 0 _ rfl; simpa using this
  have hc01 : w0.cell? ⟨b4, o4 + 1, none⟩ = some u01 := by have := hcl0 1 _ rfl; simpa using this
  have hc02 : w0.cell? ⟨b4, o4 + 2, none⟩ = some u02 := by have := hcl0 2 _ rfl; simpa using this
  have hc03 : w0.cell? ⟨b4, o4 + 3, none⟩ = some u03 := by have := hcl0 3 _ rfl; simpa using this
  have hc04 : w0.cell? ⟨b4, o4 + 4, none⟩ = some u04 := by have := hcl0 4 _ rfl; simpa using this
  clear hcl0
  have hoks := (okEx_loc hok).2
  simp only [okExs, Bool.and_eq_true, and_true] at hoks
  have hk0 := hoks
  have he : prE (.mk 2 n mod name [e0]) = (name ++ [32]) ++ ([91, 32]) ++ (prE e0) ++ ([93, 32]) := by simp [prE, prEs, exText]
  rw [he] at hsz
  simp only [List.length_append, List.length_cons, List.length_nil] at hsz
  have HE : Hid (prE (.mk 2 n mod name [e0]) = (name ++ [32]) ++ ([91, 32]) ++ (prE e0) ++ ([93, 32])) := he
  clear he
  have hloc := (okEx_loc hok).1
  skip
  skip
  skip
  skip
  have hnm := loc_name hloc (by decide)
  have hpn := put_one_name (g := false) h3.2.1 hnm
  clear hok
  have hgl := hp.blk.lt
  have hgx : some w.heap.size ≠ some g := by simp; omega
  have hgk : ∀ k, some g = some k → w0.heap.size ≤ k := by intro k e; cases e; omega
  have x0 := Blk.new w 122 [.int .i64 2, .int .i64 n, .slice a2 mod.length c2, .slice a3 name.length c3, .slice (some ⟨b4, o4, none⟩) 1 (cc + 1)]
  have hw : Wrote base (some g) w (w.alloc (.cells #[.int .i64 2, .int .i64 n, .slice a2 mod.length c2, .slice a3 name.length c3, .slice (some ⟨b4, o4, none⟩) 1 (cc + 1)] 122 (0, 0))) := Wrote.of (grown_alloc w _ none)
  replace hb : Below w0.heap.size w0 (w.alloc (.cells #[.int .i64 2, .int .i64 n, .slice a2 mod.length c2, .slice a3 name.length c3, .slice (some ⟨b4, o4, none⟩) 1 (cc + 1)] 122 (0, 0))) := hb.alloc hb.size _
  replace hp := hp.grown (grown_alloc w (.cells #[.int .i64 2, .int .i64 n, .slice a2 mod.length c2, .slice a3 name.length c3, .slice (some ⟨b4, o4, none⟩) 1 (cc + 1)] 122 (0, 0)) none)
  go_enter Tryz.func179, Tryz.ntmps179
  have q4 := x0.cell (i := 4) rfl
  go_upto_region 2 with fail
  clear q4
  generalize w.alloc (.cells #[.int .i64 2, .int .i64 n, .slice a2 mod.length c2, .slice a3 name.length c3, .slice (some ⟨b4, o4, none⟩) 1 (cc + 1)] 122 (0, 0)) = w1 at *
  generalize w.heap.size = gx at *
  have q0 := x0.cell (i := 0) rfl
  have hF := (hT.below hb).ex 2 (by omega)
  have z0 := hF.c0
  have z1 := hF.c1
  have z2 := hF.c2
  have z3 := hF.c3
  have z4 := hF.c4
  have HQ := wordsC (exF 2) (exPlain 2) w1 (hT.below hb)
  rw [exW2] at HQ
  unfold Fm.val at HQ
  clear hF
  simp only [Nat.reduceMul, Nat.reduceAdd, Nat.zero_mul, Nat.zero_add] at z0 z1 z2 z3 z4
  go_wp2_with fail
  refine HQ.mono ?_
  rintro e w2 ⟨gw, rfl, wb, hgw', hq⟩
  clear HQ q0 z0 z1 z2 z3 z4
  have hgw : some gw ≠ some g := by have := hp.blk.lt; simp; omega
  replace x0 := x0.below (below_grown hq) x0.lt
  replace hb := hb.trans ((below_grown hq).mono hb.size)
  replace hw := hw.trans (Wrote.of hq)
  replace hp := hp.grown hq
  clear hq hgw' hgl
  simp only [strs, List.map_cons, List.map_nil, List.length_cons, List.length_nil] at wb ⊢
  have q0 := x0.cell (i := 0) rfl
  have q1 := x0.cell (i := 1) rfl
  have q2 := x0.cell (i := 2) rfl
  have q3 := x0.cell (i := 3) rfl
  have q4 := x0.cell (i := 4) rfl
  have d0 := wb.cell (i := 0) rfl
  have d1 := wb.cell (i := 1) rfl
  have d2 := wb.cell (i := 2) rfl
  have d3 := wb.cell (i := 3) rfl
  go_wp2_with fail
  refine wp_loop_rounds 5 ?_
  rw [rounds_succ]
  have kc := conv_bytes c3 (h3.below hb)
  have HQ := putC [(strOfNums name)] w2.heap.size 1 1 (w2.alloc (.cells #[.string (strOfNums name)] 9)) base g _ _ (hp.grown (grown_alloc w2 _ none)) rfl (Blk.new w2 9 [.string (strOfNums name)]) (by have := hp.blk.lt; omega) (by rw [hpn]; simp only [List.length_append, List.length_cons, List.length_nil]; omega) hg
  go_wp2_with fail
  refine HQ.mono ?_
  rintro e w3 ⟨rfl, ⟨v', hp'⟩, hq⟩
  clear q0 q1 q2 q3 q4 d0 d1 d2 d3
  replace hq := (Wrote.of (grown_alloc w2 (.cells #[.string (strOfNums name)] 9) none)).trans hq
  clear HQ hp
  have hp := hp'
  clear hp'
  replace x0 := hq.blk x0 (by decide) hgx
  replace wb := hq.blk wb (by decide) hgw
  replace hb := hq.below hb h0 hgk
  replace hw := hw.trans hq
  clear hq
  have q0 := x0.cell (i := 0) rfl
  have q1 := x0.cell (i := 1) rfl
  have q2 := x0.cell (i := 2) rfl
  have q3 := x0.cell (i := 3) rfl
  have q4 := x0.cell (i := 4) rfl
  have d0 := wb.cell (i := 0) rfl
  have d1 := wb.cell (i := 1) rfl
  have d2 := wb.cell (i := 2) rfl
  have d3 := wb.cell (i := 3) rfl
  rw [hpn] at hp
  clear kc
  go_wp2_with fail
  rw [rounds_succ]
  have HQ := putC [⟨#[91]⟩] w3.heap.size 1 1 (w3.alloc (.cells #[.string ⟨#[91]⟩] 9)) base g _ _ (hp.grown (grown_alloc w3 _ none)) rfl (Blk.new w3 9 [.string ⟨#[91]⟩]) (by have := hp.blk.lt; omega) (by rw [put_91]; simp only [List.length_append, List.length_cons, List.length_nil]; omega) hg
  go_wp2_with fail
  refine HQ.mono ?_
  rintro e w4 ⟨rfl, ⟨v', hp'⟩, hq⟩
  clear q0 q1 q2 q3 q4 d0 d1 d2 d3
  replace hq := (Wrote.of (grown_alloc w3 (.cells #[.string ⟨#[91]⟩] 9) none)).trans hq
  clear HQ hp
  have hp := hp'
  clear hp'
  replace x0 := hq.blk x0 (by decide) hgx
  replace wb := hq.blk wb (by decide) hgw
  replace hb := hq.below hb h0 hgk
  replace hw := hw.trans hq
  clear hq
  have q0 := x0.cell (i := 0) rfl
  have q1 := x0.cell (i := 1) rfl
  have q2 := x0.cell (i := 2) rfl
  have q3 := x0.cell (i := 3) rfl
  have q4 := x0.cell (i := 4) rfl
  have d0 := wb.cell (i := 0) rfl
  have d1 := wb.cell (i := 1) rfl
  have d2 := wb.cell (i := 2) rfl
  have d3 := wb.cell (i := 3) rfl
  rw [put_91] at hp
  go_wp2_with fail
  rw [rounds_succ]
  have HQ := S0 w0 w4 [u00, u01, u02, u03, u04] base g _ _ hT hv0 hb h0 hg hp hk0 (by simp only [List.length_append, List.length_cons, List.length_nil]; omega)
  simp only [agg] at HQ
  have t0 := cell_on hc00 hb
  have t1 := cell_on hc01 hb
  have t2 := cell_on hc02 hb
  have t3 := cell_on hc03 hb
  have t4 := cell_on hc04 hb
  go_wp2_with fail
  refine HQ.mono ?_
  rintro e w5 ⟨rfl, ⟨v', hp'⟩, hq⟩
  clear t0 t1 t2 t3 t4
  clear q0 q1 q2 q3 q4 d0 d1 d2 d3
  clear HQ hp
  have hp := hp'
  clear hp'
  replace x0 := hq.blk x0 (by decide) hgx
  replace wb := hq.blk wb (by decide) hgw
  replace hb := hq.below hb h0 hgk
  replace hw := hw.trans hq
  clear hq
  have q0 := x0.cell (i := 0) rfl
  have q1 := x0.cell (i := 1) rfl
  have q2 := x0.cell (i := 2) rfl
  have q3 := x0.cell (i := 3) rfl
  have q4 := x0.cell (i := 4) rfl
  have d0 := wb.cell (i := 0) rfl
  have d1 := wb.cell (i := 1) rfl
  have d2 := wb.cell (i := 2) rfl
  have d3 := wb.cell (i := 3) rfl
  rcases cc with _ | cc
  all_goals
    go_wp2_with fail
    rw [rounds_succ]
    have HQ := putC [⟨#[93]⟩] w5.heap.size 1 1 (w5.alloc (.cells #[.string ⟨#[93]⟩] 9)) base g _ _ (hp.grown (grown_alloc w5 _ none)) rfl (Blk.new w5 9 [.string ⟨#[93]⟩]) (by have := hp.blk.lt; omega) (by rw [put_93]; simp only [List.length_append, List.length_cons, List.length_nil]; omega) hg
    go_wp2_with fail
    refine HQ.mono ?_
    rintro e w6 ⟨rfl, ⟨v', hp'⟩, hq⟩
    clear q0 q1 q2 q3 q4 d0 d1 d2 d3
    replace hq := (Wrote.of (grown_alloc w5 (.cells #[.string ⟨#[93]⟩] 9) none)).trans hq
    clear HQ hp
    have hp := hp'
    clear hp'
    replace x0 := hq.blk x0 (by decide) hgx
    replace wb := hq.blk wb (by decide) hgw
    replace hb := hq.below hb h0 hgk
    replace hw := hw.trans hq
    clear hq
    have q0 := x0.cell (i := 0) rfl
    have q1 := x0.cell (i := 1) rfl
    have q2 := x0.cell (i := 2) rfl
    have q3 := x0.cell (i := 3) rfl
    have q4 := x0.cell (i := 4) rfl
    have d0 := wb.cell (i := 0) rfl
    have d1 := wb.cell (i := 1) rfl
    have d2 := wb.cell (i := 2) rfl
    have d3 := wb.cell (i := 3) rfl
    rw [put_93] at hp
    go_wp2_with fail
    rw [rounds_succ]
    go_wp2_with fail
    have hfin : ∃ v', Pg w6 base g (l ++ prE (.mk 2 n mod name [e0])) v' := ⟨_, by rw [HE.out]; simpa [List.append_assoc] using hp⟩
    exact bodyPost_end (results_none rfl _ _ _) rfl ⟨rfl, hfin, hw⟩

set_option maxHeartbeats 4000000 in
theorem prEx3 (n : Int) (hsix : Six n) (mod name : List Int) (e0 : Ex) (S0 : PrEx e0) (e1 : Ex) (S1 : PrEx e1) : PrEx (.mk 3 n mod name [e0, e1]) := by
  intro w0 w vs base g l v hT hr hb h0 hg hp hok hsz
  unfold Ex.fl at hr
  obtain ⟨y0, _, rfl, rfl, y1, _, rfl, rfl, y2, _, rfl, ⟨a2, c2, rfl, h2, hc2, _⟩, y3, _, rfl, ⟨a3, c3, rfl, h3, hc3, _⟩, y4, _, rfl, h4', rfl⟩ := hr
  obtain ⟨a4, c4, rfl, h4⟩ := h4'.list
  clear h4'
  have hkl : (exs [e0, e1]).length = 2 := by simp [exs_map]
  rw [hkl]
  simp only [agg]
  obtain ⟨b4, o4, rfl⟩ := h4.addr (by rw [hkl]; omega)
  obtain ⟨cc, rfl⟩ : ∃ cc, c4 = cc + 2 := ⟨c4 - 2, by have := h4.cap; rw [hkl] at this; omega⟩
  obtain ⟨us0, hv0, hcl0⟩ := (h4.el (i := 0) rfl).vals
  obtain ⟨u00, u01, u02, u03, u04, rfl⟩ : ∃ a b c d e, us0 = [a, b, c, d, e] := by
    have hl := hv0.len
    rw [exs_len] at hl
    match us0, hl with
    | [a, b, c, d, e], _ => exact ⟨a, b, c, d, e, rfl⟩
  have hc00 : w0.cell? ⟨b4, o4, none⟩ = some u00 := by have := hcl0 0 _ rfl; simpa using this
  have hc01 : w0.cell? ⟨b4, o4 + 1, none⟩ = some u01 := by have := hcl0 1 _ rfl; simpa using this
  have hc02 : w0.cell? ⟨b4, o4 + 2, none⟩ = some u02 := by have := hcl0 2 _ rfl; simpa using this
  have hc03 : w0.cell? ⟨b4, o4 + 3, none⟩ = some u03 := by have := hcl0 3 _ rfl; simpa using this
  have hc04 : w0.cell? ⟨b4, o4 + 4, none⟩ = some u04 := by have := hcl0 4 _ rfl; simpa using this
  clear hcl0
  obtain ⟨us1, hv1, hcl1⟩ := (h4.el (i := 1) rfl).vals
  obtain ⟨u10, u11, u12, u13, u14, rfl⟩ : ∃ a b c d e, us1 = [a, b, c, d, e] := by
    have hl := hv1.len
    rw [exs_len] at hl
    match us1, hl with
    | [a, b, c, d, e], _ => exact ⟨a, b, c, d, e, rfl⟩
  have hc10 : w0.cell? ⟨b4, o4 + 5, none⟩ = some u10 := by have := hcl1 0 _ rfl; simpa using this
  have hc11 : w0.cell? ⟨b4, o4 + 5 + 1, none⟩ = some u11 := by have := hcl1 1 _ rfl; simpa using this
  have hc12 : w0.cell? ⟨b4, o4 + 5 + 2, none⟩ = some u12 := by have := hcl1 2 _ rfl; simpa using this
  have hc13 : w0.cell? ⟨b4, o4 + 5 + 3, none⟩ = some u13 := by have := hcl1 3 _ rfl; simpa using this
  have hc14 : w0.cell? ⟨b4, o4 + 5 + 4, none⟩ = some u14 := by have := hcl1 4 _ rfl; simpa using this
  clear hcl1
  have hoks := (okEx_loc hok).2
  simp only [okExs, Bool.and_eq_true, and_true] at hoks
  have hk0 := hoks.1
  have hk1 := hoks.2
  have he : prE (.mk 3 n mod name [e0, e1]) = ([40, 32]) ++ (prE e0) ++ (opI n ++ [32]) ++ (prE e1) ++ ([41, 32]) := by simp [prE, prEs, exText]
  rw [he] at hsz
  simp only [List.length_append, List.length_cons, List.length_nil] at hsz
  have HE : Hid (prE (.mk 3 n mod name [e0, e1]) = ([40, 32]) ++ (prE e0) ++ (opI n ++ [32]) ++ (prE e1) ++ ([41, 32])) := he
  clear he
  have hloc := (okEx_loc hok).1
  skip
  skip
  skip
  skip
  skip
  skip
  clear hok
  have hgl := hp.blk.lt
  have hgx : some w.heap.size ≠ some g := by simp; omega
  have hgk : ∀ k, some g = some k → w0.heap.size ≤ k := by intro k e; cases e; omega
  have x0 := Blk.new w 122 [.int .i64 3, .int .i64 n, .slice a2 mod.length c2, .slice a3 name.length c3, .slice (some ⟨b4, o4, none⟩) 2 (cc + 2)]
  have hw : Wrote base (some g) w (w.alloc (.cells #[.int .i64 3, .int .i64 n, .slice a2 mod.length c2, .slice a3 name.length c3, .slice (some ⟨b4, o4, none⟩) 2 (cc + 2)] 122 (0, 0))) := Wrote.of (grown_alloc w _ none)
  replace hb : Below w0.heap.size w0 (w.alloc (.cells #[.int .i64 3, .int .i64 n, .slice a2 mod.length c2, .slice a3 name.length c3, .slice (some ⟨b4, o4, none⟩) 2 (cc + 2)] 122 (0, 0))) := hb.alloc hb.size _
  replace hp := hp.grown (grown_alloc w (.cells #[.int .i64 3, .int .i64 n, .slice a2 mod.length c2, .slice a3 name.length c3, .slice (some ⟨b4, o4, none⟩) 2 (cc + 2)] 122 (0, 0)) none)
  go_enter Tryz.func179, Tryz.ntmps179
  have q4 := x0.cell (i := 4) rfl
  go_upto_region 2 with fail
  clear q4
  generalize w.alloc (.cells #[.int .i64 3, .int .i64 n, .slice a2 mod.length c2, .slice a3 name.length c3, .slice (some ⟨b4, o4, none⟩) 2 (cc + 2)] 122 (0, 0)) = w1 at *
  generalize w.heap.size = gx at *
  have q0 := x0.cell (i := 0) rfl
  have hF := (hT.below hb).ex 3 (by omega)
  have z0 := hF.c0
  have z1 := hF.c1
  have z2 := hF.c2
  have z3 := hF.c3
  have z4 := hF.c4
  have HQ := wordsC (exF 3) (exPlain 3) w1 (hT.below hb)
  rw [exW3] at HQ
  unfold Fm.val at HQ
  clear hF
  simp only [Nat.reduceMul, Nat.reduceAdd, Nat.zero_mul, Nat.zero_add] at z0 z1 z2 z3 z4
  go_wp2_with fail
  refine HQ.mono ?_
  rintro e w2 ⟨gw, rfl, wb, hgw', hq⟩
  clear HQ q0 z0 z1 z2 z3 z4
  have hgw : some gw ≠ some g := by have := hp.blk.lt; simp; omega
  replace x0 := x0.below (below_grown hq) x0.lt
  replace hb := hb.trans ((below_grown hq).mono hb.size)
  replace hw := hw.trans (Wrote.of hq)
  replace hp := hp.grown hq
  clear hq hgw' hgl
  simp only [strs, List.map_cons, List.map_nil, List.length_cons, List.length_nil] at wb ⊢
  have q0 := x0.cell (i := 0) rfl
  have q1 := x0.cell (i := 1) rfl
  have q2 := x0.cell (i := 2) rfl
  have q3 := x0.cell (i := 3) rfl
  have q4 := x0.cell (i := 4) rfl
  have d0 := wb.cell (i := 0) rfl
  have d1 := wb.cell (i := 1) rfl
  have d2 := wb.cell (i := 2) rfl
  have d3 := wb.cell (i := 3) rfl
  have d4 := wb.cell (i := 4) rfl
  go_wp2_with fail
  refine wp_loop_rounds 6 ?_
  rw [rounds_succ]
  have HQ := putC [⟨#[40]⟩] w2.heap.size 1 1 (w2.alloc (.cells #[.string ⟨#[40]⟩] 9)) base g _ _ (hp.grown (grown_alloc w2 _ none)) rfl (Blk.new w2 9 [.string ⟨#[40]⟩]) (by have := hp.blk.lt; omega) (by rw [put_40]; simp only [List.length_append, List.length_cons, List.length_nil]; omega) hg
  go_wp2_with fail
  refine HQ.mono ?_
  rintro e w3 ⟨rfl, ⟨v', hp'⟩, hq⟩
  clear q0 q1 q2 q3 q4 d0 d1 d2 d3 d4
  replace hq := (Wrote.of (grown_alloc w2 (.cells #[.string ⟨#[40]⟩] 9) none)).trans hq
  clear HQ hp
  have hp := hp'
  clear hp'
  replace x0 := hq.blk x0 (by decide) hgx
  replace wb := hq.blk wb (by decide) hgw
  replace hb := hq.below hb h0 hgk
  replace hw := hw.trans hq
  clear hq
  have q0 := x0.cell (i := 0) rfl
  have q1 := x0.cell (i := 1) rfl
  have q2 := x0.cell (i := 2) rfl
  have q3 := x0.cell (i := 3) rfl
  have q4 := x0.cell (i := 4) rfl
  have d0 := wb.cell (i := 0) rfl
  have d1 := wb.cell (i := 1) rfl
  have d2 := wb.cell (i := 2) rfl
  have d3 := wb.cell (i := 3) rfl
  have d4 := wb.cell (i := 4) rfl
  rw [put_40] at hp
  go_wp2_with fail
  rw [rounds_succ]
  have HQ := S0 w0 w3 [u00, u01, u02, u03, u04] base g _ _ hT hv0 hb h0 hg hp hk0 (by simp only [List.length_append, List.length_cons, List.length_nil]; omega)
  simp only [agg] at HQ
  have t0 := cell_on hc00 hb
  have t1 := cell_on hc01 hb
  have t2 := cell_on hc02 hb
  have t3 := cell_on hc03 hb
  have t4 := cell_on hc04 hb
  go_wp2_with fail
  refine HQ.mono ?_
  rintro e w4 ⟨rfl, ⟨v', hp'⟩, hq⟩
  clear t0 t1 t2 t3 t4
  clear q0 q1 q2 q3 q4 d0 d1 d2 d3 d4
  clear HQ hp
  have hp := hp'
  clear hp'
  replace x0 := hq.blk x0 (by decide) hgx
  replace wb := hq.blk wb (by decide) hgw
  replace hb := hq.below hb h0 hgk
  replace hw := hw.trans hq
  clear hq
  have q0 := x0.cell (i := 0) rfl
  have q1 := x0.cell (i := 1) rfl
  have q2 := x0.cell (i := 2) rfl
  have q3 := x0.cell (i := 3) rfl
  have q4 := x0.cell (i := 4) rfl
  have d0 := wb.cell (i := 0) rfl
  have d1 := wb.cell (i := 1) rfl
  have d2 := wb.cell (i := 2) rfl
  have d3 := wb.cell (i := 3) rfl
  have d4 := wb.cell (i := 4) rfl
  go_wp2_with fail
  rw [rounds_succ]
  have ksl := sl_opS hsix w4
  have HQ := putC [(opS n)] w4.heap.size 1 1 (w4.alloc (.cells #[.string (opS n)] 9)) base g _ _ (hp.grown (grown_alloc w4 _ none)) rfl (Blk.new w4 9 [.string (opS n)]) (by have := hp.blk.lt; omega) (by rw [put_opS hsix]; simp only [List.length_append, List.length_cons, List.length_nil]; omega) hg
  go_wp2_with fail
  refine HQ.mono ?_
  rintro e w5 ⟨rfl, ⟨v', hp'⟩, hq⟩
  clear q0 q1 q2 q3 q4 d0 d1 d2 d3 d4
  replace hq := (Wrote.of (grown_alloc w4 (.cells #[.string (opS n)] 9) none)).trans hq
  clear HQ hp
  have hp := hp'
  clear hp'
  replace x0 := hq.blk x0 (by decide) hgx
  replace wb := hq.blk wb (by decide) hgw
  replace hb := hq.below hb h0 hgk
  replace hw := hw.trans hq
  clear hq
  have q0 := x0.cell (i := 0) rfl
  have q1 := x0.cell (i := 1) rfl
  have q2 := x0.cell (i := 2) rfl
  have q3 := x0.cell (i := 3) rfl
  have q4 := x0.cell (i := 4) rfl
  have d0 := wb.cell (i := 0) rfl
  have d1 := wb.cell (i := 1) rfl
  have d2 := wb.cell (i := 2) rfl
  have d3 := wb.cell (i := 3) rfl
  have d4 := wb.cell (i := 4) rfl
  clear ksl
  rw [put_opS hsix] at hp
  go_wp2_with fail
  rw [rounds_succ]
  have HQ := S1 w0 w5 [u10, u11, u12, u13, u14] base g _ _ hT hv1 hb h0 hg hp hk1 (by simp only [List.length_append, List.length_cons, List.length_nil]; omega)
  simp only [agg] at HQ
  have t0 := cell_on hc10 hb
  have t1 := cell_on hc11 hb
  have t2 := cell_on hc12 hb
  have t3 := cell_on hc13 hb
  have t4 := cell_on hc14 hb
  go_wp2_with fail
  refine HQ.mono ?_
  rintro e w6 ⟨rfl, ⟨v', hp'⟩, hq⟩
  clear t0 t1 t2 t3 t4
  clear q0 q1 q2 q3 q4 d0 d1 d2 d3 d4
  clear HQ hp
  have hp := hp'
  clear hp'
  replace x0 := hq.blk x0 (by decide) hgx
  replace wb := hq.blk wb (by decide) hgw
  replace hb := hq.below hb h0 hgk
  replace hw := hw.trans hq
  clear hq
  have q0 := x0.cell (i := 0) rfl
  have q1 := x0.cell (i := 1) rfl
  have q2 := x0.cell (i := 2) rfl
  have q3 := x0.cell (i := 3) rfl
  have q4 := x0.cell (i := 4) rfl
  have d0 := wb.cell (i := 0) rfl
  have d1 := wb.cell (i := 1) rfl
  have d2 := wb.cell (i := 2) rfl
  have d3 := wb.cell (i := 3) rfl
  have d4 := wb.cell (i := 4) rfl
  rcases cc with _ | cc
  all_goals
    go_wp2_with fail
    rw [rounds_succ]
    have HQ := putC [⟨#[41]⟩] w6.heap.size 1 1 (w6.alloc (.cells #[.string ⟨#[41]⟩] 9)) base g _ _ (hp.grown (grown_alloc w6 _ none)) rfl (Blk.new w6 9 [.string ⟨#[41]⟩]) (by have := hp.blk.lt; omega) (by rw [put_41]; simp only [List.length_append, List.length_cons, List.length_nil]; omega) hg
    go_wp2_with fail
    refine HQ.mono ?_
    rintro e w7 ⟨rfl, ⟨v', hp'⟩, hq⟩
    clear q0 q1 q2 q3 q4 d0 d1 d2 d3 d4
    replace hq := (Wrote.of (grown_alloc w6 (.cells #[.string ⟨#[41]⟩] 9) none)).trans hq
    clear HQ hp
    have hp := hp'
    clear hp'
    replace x0 := hq.blk x0 (by decide) hgx
    replace wb := hq.blk wb (by decide) hgw
    replace hb := hq.below hb h0 hgk
    replace hw := hw.trans hq
    clear hq
    have q0 := x0.cell (i := 0) rfl
    have q1 := x0.cell (i := 1) rfl
    have q2 := x0.cell (i := 2) rfl
    have q3 := x0.cell (i := 3) rfl
    have q4 := x0.cell (i := 4) rfl
    have d0 := wb.cell (i := 0) rfl
    have d1 := wb.cell (i := 1) rfl
    have d2 := wb.cell (i := 2) rfl
    have d3 := wb.cell (i := 3) rfl
    have d4 := wb.cell (i := 4) rfl
    rw [put_41] at hp
    go_wp2_with fail
    rw [rounds_succ]
    go_wp2_with fail
    have hfin : ∃ v', Pg w7 base g (l ++ prE (.mk 3 n mod name [e0, e1])) v' := ⟨_, by rw [HE.out]; simpa [List.append_assoc] using hp⟩
    exact bodyPost_end (results_none rfl _ _ _) rfl ⟨rfl, hfin, hw⟩

set_option maxHeartbeats 4000000 in
theorem prEx4 (n : Int) (mod name : List Int) (ks : List Ex) : PrEx (.mk 4 n mod name ks) := by
  intro w0 w vs base g l v hT hr hb h0 hg hp hok hsz
  unfold Ex.fl at hr
  obtain ⟨y0, _, rfl, rfl, y1, _, rfl, rfl, y2, _, rfl, ⟨a2, c2, rfl, h2, hc2, _⟩, y3, _, rfl, ⟨a3, c3, rfl, h3, hc3, _⟩, y4, _, rfl, h4', rfl⟩ := hr
  obtain ⟨a4, c4, rfl, h4⟩ := h4'.list
  clear h4'
  have hkl : (exs ks).length = ks.length := by simp [exs_map]
  rw [hkl]
  simp only [agg]
  skip
  have he : prE (.mk 4 n mod name ks) = ([73, 78, 32]) := by simp [prE, prEs, exText]
  rw [he] at hsz
  simp only [List.length_append, List.length_cons, List.length_nil] at hsz
  have HE : Hid (prE (.mk 4 n mod name ks) = ([73, 78, 32])) := he
  clear he
  have hloc := (okEx_loc hok).1
  skip
  skip
  skip
  skip
  skip
  skip
  clear hok
  have hgl := hp.blk.lt
  have hgx : some w.heap.size ≠ some g := by simp; omega
  have hgk : ∀ k, some g = some k → w0.heap.size ≤ k := by intro k e; cases e; omega
  have x0 := Blk.new w 122 [.int .i64 4, .int .i64 n, .slice a2 mod.length c2, .slice a3 name.length c3, .slice a4 ks.length c4]
  have hw : Wrote base (some g) w (w.alloc (.cells #[.int .i64 4, .int .i64 n, .slice a2 mod.length c2, .slice a3 name.length c3, .slice a4 ks.length c4] 122 (0, 0))) := Wrote.of (grown_alloc w _ none)
  replace hb : Below w0.heap.size w0 (w.alloc (.cells #[.int .i64 4, .int .i64 n, .slice a2 mod.length c2, .slice a3 name.length c3, .slice a4 ks.length c4] 122 (0, 0))) := hb.alloc hb.size _
  replace hp := hp.grown (grown_alloc w (.cells #[.int .i64 4, .int .i64 n, .slice a2 mod.length c2, .slice a3 name.length c3, .slice a4 ks.length c4] 122 (0, 0)) none)
  go_enter Tryz.func179, Tryz.ntmps179
  have q4 := x0.cell (i := 4) rfl
  go_upto_region 2 with fail
  clear q4
  generalize w.alloc (.cells #[.int .i64 4, .int .i64 n, .slice a2 mod.length c2, .slice a3 name.length c3, .slice a4 ks.length c4] 122 (0, 0)) = w1 at *
  generalize w.heap.size = gx at *
  have q0 := x0.cell (i := 0) rfl
  have hF := (hT.below hb).ex 4 (by omega)
  have z0 := hF.c0
  have z1 := hF.c1
  have z2 := hF.c2
  have z3 := hF.c3
  have z4 := hF.c4
  have HQ := wordsC (exF 4) (exPlain 4) w1 (hT.below hb)
  rw [exW4] at HQ
  unfold Fm.val at HQ
  clear hF
  simp only [Nat.reduceMul, Nat.reduceAdd, Nat.zero_mul, Nat.zero_add] at z0 z1 z2 z3 z4
  go_wp2_with fail
  refine HQ.mono ?_
  rintro e w2 ⟨gw, rfl, wb, hgw', hq⟩
  clear HQ q0 z0 z1 z2 z3 z4
  have hgw : some gw ≠ some g := by have := hp.blk.lt; simp; omega
  replace x0 := x0.below (below_grown hq) x0.lt
  replace hb := hb.trans ((below_grown hq).mono hb.size)
  replace hw := hw.trans (Wrote.of hq)
  replace hp := hp.grown hq
  clear hq hgw' hgl
  simp only [strs, List.map_cons, List.map_nil, List.length_cons, List.length_nil] at wb ⊢
  have q0 := x0.cell (i := 0) rfl
  have q1 := x0.cell (i := 1) rfl
  have q2 := x0.cell (i := 2) rfl
  have q3 := x0.cell (i := 3) rfl
  have q4 := x0.cell (i := 4) rfl
  have d0 := wb.cell (i := 0) rfl
  go_wp2_with fail
  refine wp_loop_rounds 2 ?_
  rw [rounds_succ]
  have HQ := putC [⟨#[73, 78]⟩] w2.heap.size 1 1 (w2.alloc (.cells #[.string ⟨#[73, 78]⟩] 9)) base g _ _ (hp.grown (grown_alloc w2 _ none)) rfl (Blk.new w2 9 [.string ⟨#[73, 78]⟩]) (by have := hp.blk.lt; omega) (by rw [put_73_78]; simp only [List.length_append, List.length_cons, List.length_nil]; omega) hg
  go_wp2_with fail
  refine HQ.mono ?_
  rintro e w3 ⟨rfl, ⟨v', hp'⟩, hq⟩
  clear q0 q1 q2 q3 q4 d0
  replace hq := (Wrote.of (grown_alloc w2 (.cells #[.string ⟨#[73, 78]⟩] 9) none)).trans hq
  clear HQ hp
  have hp := hp'
  clear hp'
  replace x0 := hq.blk x0 (by decide) hgx
  replace wb := hq.blk wb (by decide) hgw
  replace hb := hq.below hb h0 hgk
  replace hw := hw.trans hq
  clear hq
  have q0 := x0.cell (i := 0) rfl
  have q1 := x0.cell (i := 1) rfl
  have q2 := x0.cell (i := 2) rfl
  have q3 := x0.cell (i := 3) rfl
  have q4 := x0.cell (i := 4) rfl
  have d0 := wb.cell (i := 0) rfl
  rw [put_73_78] at hp
  go_wp2_with fail
  rw [rounds_succ]
  go_wp2_with fail
  have hfin : ∃ v', Pg w3 base g (l ++ prE (.mk 4 n mod name ks)) v' := ⟨_, by rw [HE.out]; simpa [List.append_assoc] using hp⟩
  exact bodyPost_end (results_none rfl _ _ _) rfl ⟨rfl, hfin, hw⟩

set_option maxHeartbeats 4000000 in
theorem prEx5 (n : Int) (mod name : List Int) (ks : List Ex) : PrEx (.mk 5 n mod name ks) := by
  intro w0 w vs base g l v hT hr hb h0 hg hp hok hsz
  unfold Ex.fl at hr
  obtain ⟨y0, _, rfl, rfl, y1, _, rfl, rfl, y2, _, rfl, ⟨a2, c2, rfl, h2, hc2, _⟩, y3, _, rfl, ⟨a3, c3, rfl, h3, hc3, _⟩, y4, _, rfl, h4', rfl⟩ := hr
  obtain ⟨a4, c4, rfl, h4⟩ := h4'.list
  clear h4'
  have hkl : (exs ks).length = ks.length := by simp [exs_map]
  rw [hkl]
  simp only [agg]
  skip
  have he : prE (.mk 5 n mod name ks) = ([76, 69, 78, 32]) ++ (name ++ [32]) := by simp [prE, prEs, exText]
  rw [he] at hsz
  simp only [List.length_append, List.length_cons, List.length_nil] at hsz
  have HE : Hid (prE (.mk 5 n mod name ks) = ([76, 69, 78, 32]) ++ (name ++ [32])) := he
  clear he
  have hloc := (okEx_loc hok).1
  skip
  skip
  skip
  skip
  have hnm := loc_name hloc (by decide)
  have hpn := put_one_name (g := false) h3.2.1 hnm
  clear hok
  have hgl := hp.blk.lt
  have hgx : some w.heap.size ≠ some g := by simp; omega
  have hgk : ∀ k, some g = some k → w0.heap.size ≤ k := by intro k e; cases e; omega
  have x0 := Blk.new w 122 [.int .i64 5, .int .i64 n, .slice a2 mod.length c2, .slice a3 name.length c3, .slice a4 ks.length c4]
  have hw : Wrote base (some g) w (w.alloc (.cells #[.int .i64 5, .int .i64 n, .slice a2 mod.length c2, .slice a3 name.length c3, .slice a4 ks.length c4] 122 (0, 0))) := Wrote.of (grown_alloc w _ none)
  replace hb : Below w0.heap.size w0 (w.alloc (.cells #[.int .i64 5, .int .i64 n, .slice a2 mod.length c2, .slice a3 name.length c3, .slice a4 ks.length c4] 122 (0, 0))) := hb.alloc hb.size _
  replace hp := hp.grown (grown_alloc w (.cells #[.int .i64 5, .int .i64 n, .slice a2 mod.length c2, .slice a3 name.length c3, .slice a4 ks.length c4] 122 (0, 0)) none)
  go_enter Tryz.func179, Tryz.ntmps179
  have q4 := x0.cell (i := 4) rfl
  go_upto_region 2 with fail
  clear q4
  generalize w.alloc (.cells #[.int .i64 5, .int .i64 n, .slice a2 mod.length c2, .slice a3 name.length c3, .slice a4 ks.length c4] 122 (0, 0)) = w1 at *
  generalize w.heap.size = gx at *
  have q0 := x0.cell (i := 0) rfl
  have hF := (hT.below hb).ex 5 (by omega)
  have z0 := hF.c0
  have z1 := hF.c1
  have z2 := hF.c2
  have z3 := hF.c3
  have z4 := hF.c4
  have HQ := wordsC (exF 5) (exPlain 5) w1 (hT.below hb)
  rw [exW5] at HQ
  unfold Fm.val at HQ
  clear hF
  simp only [Nat.reduceMul, Nat.reduceAdd, Nat.zero_mul, Nat.zero_add] at z0 z1 z2 z3 z4
  go_wp2_with fail
  refine HQ.mono ?_
  rintro e w2 ⟨gw, rfl, wb, hgw', hq⟩
  clear HQ q0 z0 z1 z2 z3 z4
  have hgw : some gw ≠ some g := by have := hp.blk.lt; simp; omega
  replace x0 := x0.below (below_grown hq) x0.lt
  replace hb := hb.trans ((below_grown hq).mono hb.size)
  replace hw := hw.trans (Wrote.of hq)
  replace hp := hp.grown hq
  clear hq hgw' hgl
  simp only [strs, List.map_cons, List.map_nil, List.length_cons, List.length_nil] at wb ⊢
  have q0 := x0.cell (i := 0) rfl
  have q1 := x0.cell (i := 1) rfl
  have q2 := x0.cell (i := 2) rfl
  have q3 := x0.cell (i := 3) rfl
  have q4 := x0.cell (i := 4) rfl
  have d0 := wb.cell (i := 0) rfl
  have d1 := wb.cell (i := 1) rfl
  go_wp2_with fail
  refine wp_loop_rounds 3 ?_
  rw [rounds_succ]
  have HQ := putC [⟨#[76, 69, 78]⟩] w2.heap.size 1 1 (w2.alloc (.cells #[.string ⟨#[76, 69, 78]⟩] 9)) base g _ _ (hp.grown (grown_alloc w2 _ none)) rfl (Blk.new w2 9 [.string ⟨#[76, 69, 78]⟩]) (by have := hp.blk.lt; omega) (by rw [put_76_69_78]; simp only [List.length_append, List.length_cons, List.length_nil]; omega) hg
  go_wp2_with fail
  refine HQ.mono ?_
  rintro e w3 ⟨rfl, ⟨v', hp'⟩, hq⟩
  clear q0 q1 q2 q3 q4 d0 d1
  replace hq := (Wrote.of (grown_alloc w2 (.cells #[.string ⟨#[76, 69, 78]⟩] 9) none)).trans hq
  clear HQ hp
  have hp := hp'
  clear hp'
  replace x0 := hq.blk x0 (by decide) hgx
  replace wb := hq.blk wb (by decide) hgw
  replace hb := hq.below hb h0 hgk
  replace hw := hw.trans hq
  clear hq
  have q0 := x0.cell (i := 0) rfl
  have q1 := x0.cell (i := 1) rfl
  have q2 := x0.cell (i := 2) rfl
  have q3 := x0.cell (i := 3) rfl
  have q4 := x0.cell (i := 4) rfl
  have d0 := wb.cell (i := 0) rfl
  have d1 := wb.cell (i := 1) rfl
  rw [put_76_69_78] at hp
  go_wp2_with fail
  rw [rounds_succ]
  have kc := conv_bytes c3 (h3.below hb)
  have HQ := putC [(strOfNums name)] w3.heap.size 1 1 (w3.alloc (.cells #[.string (strOfNums name)] 9)) base g _ _ (hp.grown (grown_alloc w3 _ none)) rfl (Blk.new w3 9 [.string (strOfNums name)]) (by have := hp.blk.lt; omega) (by rw [hpn]; simp only [List.length_append, List.length_cons, List.length_nil]; omega) hg
  go_wp2_with fail
  refine HQ.mono ?_
  rintro e w4 ⟨rfl, ⟨v', hp'⟩, hq⟩
  clear q0 q1 q2 q3 q4 d0 d1
  replace hq := (Wrote.of (grown_alloc w3 (.cells #[.string (strOfNums name)] 9) none)).trans hq
  clear HQ hp
  have hp := hp'
  clear hp'
  replace x0 := hq.blk x0 (by decide) hgx
  replace wb := hq.blk wb (by decide) hgw
  replace hb := hq.below hb h0 hgk
  replace hw := hw.trans hq
  clear hq
  have q0 := x0.cell (i := 0) rfl
  have q1 := x0.cell (i := 1) rfl
  have q2 := x0.cell (i := 2) rfl
  have q3 := x0.cell (i := 3) rfl
  have q4 := x0.cell (i := 4) rfl
  have d0 := wb.cell (i := 0) rfl
  have d1 := wb.cell (i := 1) rfl
  rw [hpn] at hp
  clear kc
  go_wp2_with fail
  rw [rounds_succ]
  go_wp2_with fail
  have hfin : ∃ v', Pg w4 base g (l ++ prE (.mk 5 n mod name ks)) v' := ⟨_, by rw [HE.out]; simpa [List.append_assoc] using hp⟩
  exact bodyPost_end (results_none rfl _ _ _) rfl ⟨rfl, hfin, hw⟩

set_option maxHeartbeats 4000000 in
theorem prEx7 (n : Int) (mod name : List Int) (ks : List Ex) : PrEx (.mk 7 n mod name ks) := by
  intro w0 w vs base g l v hT hr hb h0 hg hp hok hsz
  unfold Ex.fl at hr
  obtain ⟨y0, _, rfl, rfl, y1, _, rfl, rfl, y2, _, rfl, ⟨a2, c2, rfl, h2, hc2, _⟩, y3, _, rfl, ⟨a3, c3, rfl, h3, hc3, _⟩, y4, _, rfl, h4', rfl⟩ := hr
  obtain ⟨a4, c4, rfl, h4⟩ := h4'.list
  clear h4'
  have hkl : (exs ks).length = ks.length := by simp [exs_map]
  rw [hkl]
  simp only [agg]
  skip
  have he : prE (.mk 7 n mod name ks) = ([64, 32]) ++ (name ++ [32]) := by simp [prE, prEs, exText]
  rw [he] at hsz
  simp only [List.length_append, List.length_cons, List.length_nil] at hsz
  have HE : Hid (prE (.mk 7 n mod name ks) = ([64, 32]) ++ (name ++ [32])) := he
  clear he
  have hloc := (okEx_loc hok).1
  skip
  skip
  skip
  skip
  have hnm := loc_name hloc (by decide)
  have hpn := put_one_name (g := false) h3.2.1 hnm
  clear hok
  have hgl := hp.blk.lt
  have hgx : some w.heap.size ≠ some g := by simp; omega
  have hgk : ∀ k, some g = some k → w0.heap.size ≤ k := by intro k e; cases e; omega
  have x0 := Blk.new w 122 [.int .i64 7, .int .i64 n, .slice a2 mod.length c2, .slice a3 name.length c3, .slice a4 ks.length c4]
  have hw : Wrote base (some g) w (w.alloc (.cells #[.int .i64 7, .int .i64 n, .slice a2 mod.length c2, .slice a3 name.length c3, .slice a4 ks.length c4] 122 (0, 0))) := Wrote.of (grown_alloc w _ none)
  replace hb : Below w0.heap.size w0 (w.alloc (.cells #[.int .i64 7, .int .i64 n, .slice a2 mod.length c2, .slice a3 name.length c3, .slice a4 ks.length c4] 122 (0, 0))) := hb.alloc hb.size _
  replace hp := hp.grown (grown_alloc w (.cells #[.int .i64 7, .int .i64 n, .slice a2 mod.length c2, .slice a3 name.length c3, .slice a4 ks.length c4] 122 (0, 0)) none)
  go_enter Tryz.func179, Tryz.ntmps179
  have q4 := x0.cell (i := 4) rfl
  go_upto_region 2 with fail
  clear q4
  generalize w.alloc (.cells #[.int .i64 7, .int .i64 n, .slice a2 mod.length c2, .slice a3 name.length c3, .slice a4 ks.length c4] 122 (0, 0)) = w1 at *
  generalize w.heap.size = gx at *
  have q0 := x0.cell (i := 0) rfl
  have hF := (hT.below hb).ex 7 (by omega)
  have z0 := hF.c0
  have z1 := hF.c1
  have z2 := hF.c2
  have z3 := hF.c3
  have z4 := hF.c4
  have HQ := wordsC (exF 7) (exPlain 7) w1 (hT.below hb)
  rw [exW7] at HQ
  unfold Fm.val at HQ
  clear hF
  simp only [Nat.reduceMul, Nat.reduceAdd, Nat.zero_mul, Nat.zero_add] at z0 z1 z2 z3 z4
  go_wp2_with fail
  refine HQ.mono ?_
  rintro e w2 ⟨gw, rfl, wb, hgw', hq⟩
  clear HQ q0 z0 z1 z2 z3 z4
  have hgw : some gw ≠ some g := by have := hp.blk.lt; simp; omega
  replace x0 := x0.below (below_grown hq) x0.lt
  replace hb := hb.trans ((below_grown hq).mono hb.size)
  replace hw := hw.trans (Wrote.of hq)
  replace hp := hp.grown hq
  clear hq hgw' hgl
  simp only [strs, List.map_cons, List.map_nil, List.length_cons, List.length_nil] at wb ⊢
  have q0 := x0.cell (i := 0) rfl
  have q1 := x0.cell (i := 1) rfl
  have q2 := x0.cell (i := 2) rfl
  have q3 := x0.cell (i := 3) rfl
  have q4 := x0.cell (i := 4) rfl
  have d0 := wb.cell (i := 0) rfl
  have d1 := wb.cell (i := 1) rfl
  go_wp2_with fail
  refine wp_loop_rounds 3 ?_
  rw [rounds_succ]
  have HQ := putC [⟨#[64]⟩] w2.heap.size 1 1 (w2.alloc (.cells #[.string ⟨#[64]⟩] 9)) base g _ _ (hp.grown (grown_alloc w2 _ none)) rfl (Blk.new w2 9 [.string ⟨#[64]⟩]) (by have := hp.blk.lt; omega) (by rw [put_64]; simp only [List.length_append, List.length_cons, List.length_nil]; omega) hg
  go_wp2_with fail
  refine HQ.mono ?_
  rintro e w3 ⟨rfl, ⟨v', hp'⟩, hq⟩
  clear q0 q1 q2 q3 q4 d0 d1
  replace hq := (Wrote.of (grown_alloc w2 (.cells #[.string ⟨#[64]⟩] 9) none)).trans hq
  clear HQ hp
  have hp := hp'
  clear hp'
  replace x0 := hq.blk x0 (by decide) hgx
  replace wb := hq.blk wb (by decide) hgw
  replace hb := hq.below hb h0 hgk
  replace hw := hw.trans hq
  clear hq
  have q0 := x0.cell (i := 0) rfl
  have q1 := x0.cell (i := 1) rfl
  have q2 := x0.cell (i := 2) rfl
  have q3 := x0.cell (i := 3) rfl
  have q4 := x0.cell (i := 4) rfl
  have d0 := wb.cell (i := 0) rfl
  have d1 := wb.cell (i := 1) rfl
  rw [put_64] at hp
  go_wp2_with fail
  rw [rounds_succ]
  have kc := conv_bytes c3 (h3.below hb)
  have HQ := putC [(strOfNums name)] w3.heap.size 1 1 (w3.alloc (.cells #[.string (strOfNums name)] 9)) base g _ _ (hp.grown (grown_alloc w3 _ none)) rfl (Blk.new w3 9 [.string (strOfNums name)]) (by have := hp.blk.lt; omega) (by rw [hpn]; simp only [List.length_append, List.length_cons, List.length_nil]; omega) hg
  go_wp2_with fail
  refine HQ.mono ?_
  rintro e w4 ⟨rfl, ⟨v', hp'⟩, hq⟩
  clear q0 q1 q2 q3 q4 d0 d1
  replace hq := (Wrote.of (grown_alloc w3 (.cells #[.string (strOfNums name)] 9) none)).trans hq
  clear HQ hp
  have hp := hp'
  clear hp'
  replace x0 := hq.blk x0 (by decide) hgx
  replace wb := hq.blk wb (by decide) hgw
  replace hb := hq.below hb h0 hgk
  replace hw := hw.trans hq
  clear hq
  have q0 := x0.cell (i := 0) rfl
  have q1 := x0.cell (i := 1) rfl
  have q2 := x0.cell (i := 2) rfl
  have q3 := x0.cell (i := 3) rfl
  have q4 := x0.cell (i := 4) rfl
  have d0 := wb.cell (i := 0) rfl
  have d1 := wb.cell (i := 1) rfl
  rw [hpn] at hp
  clear kc
  go_wp2_with fail
  rw [rounds_succ]
  go_wp2_with fail
  have hfin : ∃ v', Pg w4 base g (l ++ prE (.mk 7 n mod name ks)) v' := ⟨_, by rw [HE.out]; simpa [List.append_assoc] using hp⟩
  exact bodyPost_end (results_none rfl _ _ _) rfl ⟨rfl, hfin, hw⟩

end Go.Proofs.YtajnfknldofjlaaGreatDoor

import Derived.Test.YtopnodadggohiaaGreatDoorFormPure
/- The census of a module: how many parts there are, how deep they lie, whether each is formed. -/
namespace Go.Proofs.YtopnodadggohiaaGreatDoor
open Go.RowKit
set_option linter.unusedVariables false
set_option linter.unusedSimpArgs false
set_option maxRecDepth 100000

theorem grown_put {w : World} {g i : Nat} {v : Value} : w.grownBy (w.setCell ⟨g, i, none⟩ v) (some g) :=
 ⟨rfl, rfl, rfl, by simp, fun k hk hne => heap_setCell_other w ⟨g, i, none⟩ k v (fun e => hne (by simp at e; rw [e]))⟩
theorem below_at {w0 w w' : World} {g : Nat} (h : Below w0.heap.size w0 w) (hg : w.grownBy w' (some g)) (hB : w0.heap.size ≤ g) : Below w0.heap.size w0 w' :=
 h.grown hg h.size (fun k hk => by cases hk; exact hB)
theorem Blk.grown {w w' : World} {g k : Nat} {T : TypeId} {vs : List Value} (h : Blk w g T vs) (hg : w.grownBy w' (some k)) (hne : g ≠ k) : Blk w' g T vs :=
 (hg.block g h.lt (fun e => hne (by cases e; rfl))).trans h
theorem cell_at {w w' : World} {g k i : Nat} {v : Value} (h : w.cell? ⟨g, i, none⟩ = some v) (hg : w.grownBy w' (some k)) (hne : g ≠ k) : w'.cell? ⟨g, i, none⟩ = some v := by
 rw [World.cell?_of_block (a := ⟨g, i, none⟩) (hg.block g (World.block_lt_of_cell? w _ h) (fun e => hne (by cases e; rfl)))]; exact h

/-- The count. -/
def Cen (w : World) (g n : Nat) : Prop := Blk w g 213 [.int .i64 n]

theorem hasRoomC (g n : Nat) (d : Int) (w : World) (h : Cen w g n) (hn : n ≤ 1000) :
  Calls Tryz.prog 205 #[.pointer (some ⟨g, 0, none⟩), .int .i64 d] w fun e w' => e = .returned (.bool (decide (n + 1 ≤ 250) && decide (d ≤ 16))) ∧ w.grownBy w' (some g) ∧ Cen w' g (n + 1) := by
 have q0 := h.cell (i := 0) rfl
 have z0 := h.free 0
 have hx := h.set (i := 0) (.int .i64 ((n : Int) + 1))
 have hw := grown_put (w := w) (g := g) (i := 0) (v := .int .i64 ((n : Int) + 1))
 have hc : Hid (Cen (w.setCell ⟨g, 0, none⟩ (.int .i64 ((n : Int) + 1))) g (n + 1)) := by
  show Blk _ _ _ _
  simpa using hx
 have q1 := hx.cell (i := 0) rfl
 have hlt := h.lt
 clear h hx
 by_cases h1 : n + 1 ≤ 250
 ·
  have h1' : (n : Int) + 1 ≤ 250 := by omega
  go_enter Tryz.func205, Tryz.ntmps205
  go_wp2_with fail
  go_ret
  exact ⟨ret_bool (by simp [h1]), hw, hc.out⟩
 ·
  have h1' : ¬ (n : Int) + 1 ≤ 250 := by omega
  go_enter Tryz.func205, Tryz.ntmps205
  go_wp2_with fail
  go_ret
  exact ⟨ret_bool (by simp [h1]), hw, hc.out⟩

/-- What the closure of exprsOk tells of one expression. -/
def CenEx (x : Ex) : Prop := ∀ (w0 w : World) (vs : List Value) (g g1 g2 n : Nat) (d : Int), Tabs w0 → RdVals w0 x.fl vs → Below w0.heap.size w0 w → w0.heap.size ≤ g → Cen w g n → n ≤ 250 → 0 ≤ d → d ≤ 17 →
 w.cell? ⟨g1, 0, none⟩ = some (.pointer (some ⟨g, 0, none⟩)) → w.cell? ⟨g2, 0, none⟩ = some (.int .i64 d) → g1 ≠ g → g2 ≠ g →
 Calls Tryz.prog 230 #[agg vs, .pointer (some ⟨g1, 0, none⟩), .pointer (some ⟨g2, 0, none⟩)] w fun e w' => e = .returned (.bool (fitEx x d (250 - (n : Int)))) ∧ w.grownBy w' (some g) ∧ (fitEx x d (250 - (n : Int)) = true → Cen w' g (n + ndEx x))
def CenExs (l : List Ex) : Prop := ∀ (w0 w : World) (a : Option Addr) (c g n : Nat) (d : Int), Tabs w0 → LRow w0 a c 5 (exs l) → Below w0.heap.size w0 w → w0.heap.size ≤ g → Cen w g n → n ≤ 250 → 0 ≤ d → d ≤ 17 →
 Calls Tryz.prog 221 #[.pointer (some ⟨g, 0, none⟩), .slice a l.length c, .int .i64 d] w fun e w' => e = .returned (.bool (fitExs l d (250 - (n : Int)))) ∧ w.grownBy w' (some g) ∧ (fitExs l d (250 - (n : Int)) = true → Cen w' g (n + ndExs l))

theorem fitEx_le {x : Ex} {d left : Int} (h : fitEx x d left = true) : (ndEx x : Int) ≤ left := by
 unfold fitEx at h; simp only [Bool.and_eq_true, decide_eq_true_eq] at h; exact h.1.2

set_option maxHeartbeats 2000000 in
theorem cenExsR (l : List Ex) (H : ∀ x ∈ l, CenEx x) : CenExs l := by
 intro w0 w a c g n d hT hr hb hg hc hn hd0 hd
 have y0 := grown_alloc w (.cells #[.pointer (some ⟨g, 0, none⟩)] 234 (0, 0)) none
 have x1 := cell_new w 234 #[.pointer (some ⟨g, 0, none⟩)] 0 _ rfl
 have y1 := grown_alloc (w.alloc (.cells #[.pointer (some ⟨g, 0, none⟩)] 234 (0, 0))) (.cells #[.int .i64 d] 3 (0, 0)) none
 have x2 := cell_new (w.alloc (.cells #[.pointer (some ⟨g, 0, none⟩)] 234 (0, 0))) 3 #[.int .i64 d] 0 _ rfl
 rw [show (w.alloc (.cells #[.pointer (some ⟨g, 0, none⟩)] 234 (0, 0))).heap.size = w.heap.size + 1 by simp] at x2
 replace x1 := cell_on x1 (below_grown y1)
 have yy := grown_trans y0 y1
 have hgl : g < w.heap.size := Blk.lt hc
 replace hc : Cen ((w.alloc (.cells #[.pointer (some ⟨g, 0, none⟩)] 234 (0, 0))).alloc (.cells #[.int .i64 d] 3 (0, 0))) g n := Blk.old (Blk.old hc)
 have hb2 : Below w0.heap.size w0 ((w.alloc (.cells #[.pointer (some ⟨g, 0, none⟩)] 234 (0, 0))).alloc (.cells #[.int .i64 d] 3 (0, 0))) := hb.trans ((below_grown yy).mono hb.size)
 clear y0 y1 hb
 have HC : Calls Tryz.prog 215 #[.slice a l.length c, .func (.func 230) #[] #[.pointer (some ⟨w.heap.size, 0, none⟩), .pointer (some ⟨w.heap.size + 1, 0, none⟩)]] ((w.alloc (.cells #[.pointer (some ⟨g, 0, none⟩)] 234 (0, 0))).alloc (.cells #[.int .i64 d] 3 (0, 0))) fun e w' => e = .returned (.bool (fitExs l d (250 - (n : Int)))) ∧ w.grownBy w' (some g) ∧ (fitExs l d (250 - (n : Int)) = true → Cen w' g (n + ndExs l)) := by
  generalize ((w.alloc (.cells #[.pointer (some ⟨g, 0, none⟩)] 234 (0, 0))).alloc (.cells #[.int .i64 d] 3 (0, 0))) = W at *
  have hne1 : w.heap.size ≠ g := by omega
  have hne2 : w.heap.size + 1 ≠ g := by omega
  refine (allExpr 230 _ (some g) a l.length c (exs l) (fun j => fitEx (l[j]?.getD e0) d (250 - (n : Int) - (ndExs (l.take j) : Int))) (fun j wr => Below w0.heap.size w0 wr ∧ (ndExs (l.take j) : Int) ≤ 250 - (n : Int) ∧ Cen wr g (n + ndExs (l.take j)) ∧ wr.cell? ⟨w.heap.size, 0, none⟩ = some (.pointer (some ⟨g, 0, none⟩)) ∧ wr.cell? ⟨w.heap.size + 1, 0, none⟩ = some (.int .i64 d)) (fun _ _ => True) W
   ⟨ent_of Tryz.func230 rfl rfl, fun j wr hi => hr.below hi.1, ?_, ?_⟩ (by simp [exs_map]) ⟨hb2, by simp [ndExs]; omega, by simpa [ndExs] using hc, x1, x2⟩ ?_ (by rintro k ⟨rfl⟩; exact Blk.lt hc) (ent_of Tryz.func227 rfl rfl)).mono ?_
  ·
   intro r hr
   rw [exs_map] at hr
   obtain ⟨x, _, rfl⟩ := List.mem_map.1 hr
   exact exs_len x
  ·
   intro j r wr vs hj hi hvs hca
   have hj0 := hj
   obtain ⟨hi1, hi2, hi3, hi4, hi5⟩ := hi
   rw [exs_map, List.getElem?_map] at hj
   obtain ⟨x, hx, rfl⟩ := Option.map_eq_some_iff.1 hj
   have hv0 := vals_back hr hi1 hj0 hvs.len hca
   rw [hx]
   have hL : (250 : Int) - (n : Int) - (ndExs (l.take j) : Int) = 250 - ((n + ndExs (l.take j) : Nat) : Int) := by omega
   simp only [Option.getD_some, hL]
   refine (H x (List.mem_of_getElem? hx) w0 wr vs g w.heap.size (w.heap.size + 1) (n + ndExs (l.take j)) d hT hv0 hi1 hg hi3 (by omega) hd0 hd hi4 hi5 hne1 hne2).mono ?_
   rintro e w' ⟨rfl, hgw, hcen⟩
   refine ⟨rfl, hgw, fun h => ?_, fun _ => trivial⟩
   rw [ndExs_next hx]
   have hle := fitEx_le h
   refine ⟨below_at hi1 hgw hg, by omega, by rw [← Nat.add_assoc]; exact hcen h, cell_at hi4 hgw hne1, cell_at hi5 hgw hne2⟩
  ·
   rintro j w1 w2 ⟨h1, h2, h3, h4, h5⟩ hgr
   have hbb := below_grown hgr
   exact ⟨h1.trans (hbb.mono h1.size), h2, Blk.below h3 hbb (Blk.lt h3), cell_on h4 hbb, cell_on h5 hbb⟩
  ·
   rintro e w' ⟨r, rfl, hgw, ht⟩
   have hg2 : w.grownBy w' (some g) := grown_trans (grown_any yy _) hgw
   cases r with
   | false =>
    obtain ⟨j, hj, hp, _⟩ := ht.yes rfl
    have hx : l[j]? = some l[j] := List.getElem?_eq_getElem hj
    have hF : fitExs l d (250 - (n : Int)) = false := fitExs_no hx (by simpa [hx] using hp)
    rw [hF]
    exact ⟨rfl, hg2, by simp⟩
   | true =>
    obtain ⟨h1, h2, h3, h4, _⟩ := ht.no rfl
    have hF : fitExs l d (250 - (n : Int)) = true := fitExs_yes (fun j x hx => by
     have := h1 j (List.getElem?_eq_some_iff.1 hx).1
     simpa [hx] using this) (by omega)
    rw [hF]
    rw [List.take_length] at h4
    exact ⟨rfl, hg2, fun _ => h4⟩
 clear x1 x2 hc hb2 H
 go_enter Tryz.func221, Tryz.ntmps221
 go_upto_region 1 with fail
 generalize ((w.alloc (.cells #[.pointer (some ⟨g, 0, none⟩)] 234 (0, 0))).alloc (.cells #[.int .i64 d] 3 (0, 0))) = W at *
 go_wp2_with fail
 refine HC.mono ?_
 rintro e w3 ⟨rfl, h1, h2⟩
 go_wp2_with fail
 go_ret
 exact ⟨rfl, h1, h2⟩
end Go.Proofs.YtopnodadggohiaaGreatDoor

/- The census of expressions. -/
namespace Go.Proofs.YtopnodadggohiaaGreatDoor
open Go.RowKit
set_option linter.unusedVariables false
set_option linter.unusedSimpArgs false
set_option maxRecDepth 100000

theorem fitEx_room {x : Ex} {d left : Int} (h : left < 1 ∨ 16 < d) : fitEx x d left = false := by
 unfold fitEx
 simp only [Bool.and_eq_false_iff, decide_eq_false_iff_not]
 have h1 : 1 ≤ ndEx x := by cases x; simp [ndEx]
 have h2 : 1 ≤ dpEx x := by cases x; simp [dpEx]
 rcases h with h | h
 ·
  left; right; omega
 ·
  right; omega
theorem fitEx_form {k n : Int} {mod name : List Int} {ks : List Ex} {d left : Int} (h : exT k n mod name ks = false) : fitEx (.mk k n mod name ks) d left = false := by
 unfold fitEx
 rw [show okEx (.mk k n mod name ks) = (exT k n mod name ks && okExs ks) by rw [exT_eq, okEx], h]; rfl
theorem fitEx_rest {k n : Int} {mod name : List Int} {ks : List Ex} {d left : Int} (h : exT k n mod name ks = true) (hl : 1 ≤ left) (hd : d ≤ 16) : fitEx (.mk k n mod name ks) d left = fitExs ks (d + 1) (left - 1) := by
 unfold fitEx fitExs
 rw [show okEx (.mk k n mod name ks) = (exT k n mod name ks && okExs ks) by rw [exT_eq, okEx], h, Bool.true_and]
 have e1 : decide ((ndEx (.mk k n mod name ks) : Int) ≤ left) = decide ((ndExs ks : Int) ≤ left - 1) := by
  rw [decide_eq_decide]; simp only [ndEx]; omega
 rw [e1]
 congr 1
 by_cases h0 : ks.length = 0
 ·
  have := List.eq_nil_of_length_eq_zero h0
  subst this
  rw [decide_eq_true (show d + (dpEx (.mk k n mod name []) : Int) ≤ 17 by simp only [dpEx, dpExs]; omega)]; simp
 ·
  rw [decide_eq_false h0, Bool.false_or, decide_eq_decide]
  simp only [dpEx]; omega

set_option maxHeartbeats 4000000 in
theorem cenExR (k n : Int) (mod name : List Int) (ks : List Ex) (hs : recLen (Ex.mk k n mod name ks).fl ≤ 1048576) (S : CenExs ks) : CenEx (.mk k n mod name ks) := by
 intro w0 w vs g g1 g2 cnt d hT hr hb hg hc hn hd0 hd x1 x2 hne1 hne2
 have HF : ∀ w1, Below w0.heap.size w0 w1 → Calls Tryz.prog 231 #[agg vs] w1 fun e w' => e = .returned (.bool (exT k n mod name ks)) ∧ w1.grownBy w' none := fun w1 h1 => exFormedC (.mk k n mod name ks) vs w1 (hT.below h1) (hr.below h1) hs
 unfold Ex.fl at hr
 obtain ⟨y0, _, rfl, rfl, y1, _, rfl, rfl, y2, _, rfl, ⟨a2, c2, rfl, _⟩, y3, _, rfl, ⟨a3, c3, rfl, _⟩, y4, _, rfl, h4', rfl⟩ := hr
 obtain ⟨a4, c4, rfl, h4⟩ := h4'.list
 clear h4'
 have hkl : (exs ks).length = ks.length := by simp [exs_map]
 rw [hkl] at HF ⊢
 have HK : ∀ w1, Below w0.heap.size w0 w1 → Cen w1 g (cnt + 1) → cnt + 1 ≤ 250 → d + 1 ≤ 17 → Calls Tryz.prog 221 #[.pointer (some ⟨g, 0, none⟩), .slice a4 ks.length c4, .int .i64 (d + 1)] w1 fun e w' => e = .returned (.bool (fitExs ks (d + 1) (250 - ((cnt + 1 : Nat) : Int)))) ∧ w1.grownBy w' (some g) ∧ (fitExs ks (d + 1) (250 - ((cnt + 1 : Nat) : Int)) = true → Cen w' g (cnt + 1 + ndExs ks)) := fun w1 h1 h2 h3 h5 => S w0 w1 a4 c4 g (cnt + 1) (d + 1) hT h4 h1 hg h2 h3 (by omega) h5
 clear h4 S hT hs
 simp only [agg] at HF ⊢
 have hgl : g < w.heap.size := Blk.lt hc
 have y0 := grown_alloc w (.cells #[.int .i64 k, .int .i64 n, .slice a2 mod.length c2, .slice a3 name.length c3, .slice a4 ks.length c4] 125 (0, 0)) none
 have x0 := Blk.new w 125 [.int .i64 k, .int .i64 n, .slice a2 mod.length c2, .slice a3 name.length c3, .slice a4 ks.length c4]
 have hcw := Blk.old hc (o := .cells #[.int .i64 k, .int .i64 n, .slice a2 mod.length c2, .slice a3 name.length c3, .slice a4 ks.length c4] 125 (0, 0))
 replace x1 := cell_on x1 (below_grown y0)
 replace x2 := cell_on x2 (below_grown y0)
 replace hb := hb.trans ((below_grown y0).mono hb.size)
 clear hc
 go_enter Tryz.func230, Tryz.ntmps230
 go_upto_region 1 with fail
 generalize w.alloc (.cells #[.int .i64 k, .int .i64 n, .slice a2 mod.length c2, .slice a3 name.length c3, .slice a4 ks.length c4] 125 (0, 0)) = w1 at *
 have yy := grown_any y0 (some g)
 have H1 := hasRoomC g cnt d w1 hcw (by omega)
 obtain ⟨q0, q1, q2, q3, q4⟩ := x0.c5
 clear y0
 go_wp2_with fail
 refine H1.mono ?_
 rintro e w2 ⟨rfl, hg2, hc2⟩
 have hgx : w.heap.size ≠ g := by omega
 replace x0 := x0.grown hg2 hgx
 replace x1 := cell_at x1 hg2 hne1
 replace x2 := cell_at x2 hg2 hne2
 replace hb := below_at hb hg2 hg
 replace yy := grown_trans yy hg2
 clear H1 hcw q0 q1 q2 q3 q4 hg2
 obtain ⟨q0, q1, q2, q3, q4⟩ := x0.c5
 by_cases hro : cnt + 1 ≤ 250 ∧ d ≤ 16
 ·
  rw [decide_eq_true hro.1, decide_eq_true hro.2]
  have H2 := HF w2 hb
  clear HF
  go_wp2_with fail
  refine H2.mono ?_
  rintro e w3 ⟨rfl, hg3⟩
  have hb3 := below_grown hg3
  replace x0 := x0.below hb3 x0.lt
  replace x1 := cell_on x1 hb3
  replace x2 := cell_on x2 hb3
  replace hb := hb.trans (hb3.mono hb.size)
  replace yy := grown_trans yy (grown_any hg3 _)
  have hc3 : Cen w3 g (cnt + 1) := Blk.below hc2 hb3 (Blk.lt hc2)
  clear H2 hc2 q0 q1 q2 q3 q4 hg3 hb3
  obtain ⟨q0, q1, q2, q3, q4⟩ := x0.c5
  cases e1 : exT k n mod name ks
  ·
   have he : Hid (fitEx (.mk k n mod name ks) d (250 - (cnt : Int)) = false) := fitEx_form e1
   clear e1 HK
   go_wp2_with fail
   go_ret
   rw [he.out]
   exact ⟨rfl, yy, by simp⟩
  ·
   have H3 := HK w3 hb hc3 hro.1 (by omega)
   have hE : Hid (fitEx (.mk k n mod name ks) d (250 - (cnt : Int)) = fitExs ks (d + 1) (250 - ((cnt + 1 : Nat) : Int))) := by
    show _ = _
    rw [fitEx_rest e1 (by omega) hro.2]
    congr 1; omega
   have hN : Hid (ndEx (.mk k n mod name ks) = 1 + ndExs ks) := by show _ = _; simp [ndEx]
   clear e1 HK
   generalize fitExs ks (d + 1) (250 - ((cnt + 1 : Nat) : Int)) = rr at *
   go_wp2_with fail
   refine H3.mono ?_
   rintro e w4 ⟨rfl, hg4, hc4⟩
   go_wp2_with fail
   go_ret
   rw [hE.out, hN.out]
   exact ⟨rfl, grown_trans yy hg4, fun h => by have := hc4 h; rw [show cnt + (1 + ndExs ks) = cnt + 1 + ndExs ks by omega]; exact this⟩
 ·
  have hz : (decide (cnt + 1 ≤ 250) && decide (d ≤ 16)) = false := by
   simp only [Bool.and_eq_false_iff, decide_eq_false_iff_not]
   omega
  rw [hz]
  have he : Hid (fitEx (.mk k n mod name ks) d (250 - (cnt : Int)) = false) := fitEx_room (by omega)
  clear HF HK hz
  go_wp2_with fail
  go_ret
  rw [he.out]
  exact ⟨rfl, yy, by simp⟩

mutual
theorem cenEx : ∀ x : Ex, recLen x.fl ≤ 1048576 → CenEx x
 | .mk k n m a ks, h => cenExR k n m a ks h (cenExsR ks (cenExs ks (by
   have e : recLen (Ex.mk k n m a ks).fl = m.length + a.length + ((exs ks).length + rowsLen (exs ks)) := by simp [Ex.fl, recLen, Fl.len] <;> omega
   rw [e] at h; omega)))
theorem cenExs : ∀ (l : List Ex), rowsLen (exs l) ≤ 1048576 → ∀ e ∈ l, CenEx e
 | [], _, e, h => by simp at h
 | x :: l, hl, e, h => by
  simp only [exs, rowsLen] at hl
  rcases List.mem_cons.1 h with h | h
  ·
   rw [h]; exact cenEx x (by omega)
  ·
   exact cenExs l (by omega) e h
end
end Go.Proofs.YtopnodadggohiaaGreatDoor

/- The census of statements. -/
namespace Go.Proofs.YtopnodadggohiaaGreatDoor
open Go.RowKit
set_option linter.unusedVariables false
set_option linter.unusedSimpArgs false
set_option maxRecDepth 100000

def s0 : St := .mk 0 0 [] [] [] []

/-- What the closure of stmtsOk tells of one statement. -/
def CenSt (x : St) : Prop := ∀ (w0 w : World) (vs : List Value) (g g1 g2 n : Nat) (d : Int), Tabs w0 → RdVals w0 x.fl vs → Below w0.heap.size w0 w → w0.heap.size ≤ g → Cen w g n → n ≤ 250 → 0 ≤ d → d ≤ 17 →
 w.cell? ⟨g1, 0, none⟩ = some (.pointer (some ⟨g, 0, none⟩)) → w.cell? ⟨g2, 0, none⟩ = some (.int .i64 d) → g1 ≠ g → g2 ≠ g →
 Calls Tryz.prog 204 #[agg vs, .pointer (some ⟨g1, 0, none⟩), .pointer (some ⟨g2, 0, none⟩)] w fun e w' => e = .returned (.bool (fitSt x d (250 - (n : Int)))) ∧ w.grownBy w' (some g) ∧ (fitSt x d (250 - (n : Int)) = true → Cen w' g (n + ndSt x))
def CenSts (l : List St) : Prop := ∀ (w0 w : World) (a : Option Addr) (c g n : Nat) (d : Int), Tabs w0 → LRow w0 a c 6 (sts l) → Below w0.heap.size w0 w → w0.heap.size ≤ g → Cen w g n → n ≤ 250 → 0 ≤ d → d ≤ 17 →
 Calls Tryz.prog 185 #[.pointer (some ⟨g, 0, none⟩), .slice a l.length c, .int .i64 d] w fun e w' => e = .returned (.bool (fitSts l d (250 - (n : Int)))) ∧ w.grownBy w' (some g) ∧ (fitSts l d (250 - (n : Int)) = true → Cen w' g (n + ndSts l))

theorem fitSt_le {x : St} {d left : Int} (h : fitSt x d left = true) : (ndSt x : Int) ≤ left := by
 unfold fitSt at h; simp only [Bool.and_eq_true, decide_eq_true_eq] at h; exact h.1.2

set_option maxHeartbeats 2000000 in
theorem cenStsR (l : List St) (H : ∀ x ∈ l, CenSt x) : CenSts l := by
 intro w0 w a c g n d hT hr hb hg hc hn hd0 hd
 have y0 := grown_alloc w (.cells #[.pointer (some ⟨g, 0, none⟩)] 234 (0, 0)) none
 have x1 := cell_new w 234 #[.pointer (some ⟨g, 0, none⟩)] 0 _ rfl
 have y1 := grown_alloc (w.alloc (.cells #[.pointer (some ⟨g, 0, none⟩)] 234 (0, 0))) (.cells #[.int .i64 d] 3 (0, 0)) none
 have x2 := cell_new (w.alloc (.cells #[.pointer (some ⟨g, 0, none⟩)] 234 (0, 0))) 3 #[.int .i64 d] 0 _ rfl
 rw [show (w.alloc (.cells #[.pointer (some ⟨g, 0, none⟩)] 234 (0, 0))).heap.size = w.heap.size + 1 by simp] at x2
 replace x1 := cell_on x1 (below_grown y1)
 have yy := grown_trans y0 y1
 have hgl : g < w.heap.size := Blk.lt hc
 replace hc : Cen ((w.alloc (.cells #[.pointer (some ⟨g, 0, none⟩)] 234 (0, 0))).alloc (.cells #[.int .i64 d] 3 (0, 0))) g n := Blk.old (Blk.old hc)
 have hb2 : Below w0.heap.size w0 ((w.alloc (.cells #[.pointer (some ⟨g, 0, none⟩)] 234 (0, 0))).alloc (.cells #[.int .i64 d] 3 (0, 0))) := hb.trans ((below_grown yy).mono hb.size)
 clear y0 y1 hb
 have HC : Calls Tryz.prog 197 #[.slice a l.length c, .func (.func 204) #[] #[.pointer (some ⟨w.heap.size, 0, none⟩), .pointer (some ⟨w.heap.size + 1, 0, none⟩)]] ((w.alloc (.cells #[.pointer (some ⟨g, 0, none⟩)] 234 (0, 0))).alloc (.cells #[.int .i64 d] 3 (0, 0))) fun e w' => e = .returned (.bool (fitSts l d (250 - (n : Int)))) ∧ w.grownBy w' (some g) ∧ (fitSts l d (250 - (n : Int)) = true → Cen w' g (n + ndSts l)) := by
  generalize ((w.alloc (.cells #[.pointer (some ⟨g, 0, none⟩)] 234 (0, 0))).alloc (.cells #[.int .i64 d] 3 (0, 0))) = W at *
  have hne1 : w.heap.size ≠ g := by omega
  have hne2 : w.heap.size + 1 ≠ g := by omega
  refine (allStmt 204 _ (some g) a l.length c (sts l) (fun j => fitSt (l[j]?.getD s0) d (250 - (n : Int) - (ndSts (l.take j) : Int))) (fun j wr => Below w0.heap.size w0 wr ∧ (ndSts (l.take j) : Int) ≤ 250 - (n : Int) ∧ Cen wr g (n + ndSts (l.take j)) ∧ wr.cell? ⟨w.heap.size, 0, none⟩ = some (.pointer (some ⟨g, 0, none⟩)) ∧ wr.cell? ⟨w.heap.size + 1, 0, none⟩ = some (.int .i64 d)) (fun _ _ => True) W
   ⟨ent_of Tryz.func204 rfl rfl, fun j wr hi => hr.below hi.1, ?_, ?_⟩ (by simp [sts_map]) ⟨hb2, by simp [ndSts]; omega, by simpa [ndSts] using hc, x1, x2⟩ ?_ (by rintro k ⟨rfl⟩; exact Blk.lt hc) (ent_of Tryz.func214 rfl rfl)).mono ?_
  ·
   intro r hr
   rw [sts_map] at hr
   obtain ⟨x, _, rfl⟩ := List.mem_map.1 hr
   exact sts_len x
  ·
   intro j r wr vs hj hi hvs hca
   have hj0 := hj
   obtain ⟨hi1, hi2, hi3, hi4, hi5⟩ := hi
   rw [sts_map, List.getElem?_map] at hj
   obtain ⟨x, hx, rfl⟩ := Option.map_eq_some_iff.1 hj
   have hv0 := vals_back hr hi1 hj0 hvs.len hca
   rw [hx]
   have hL : (250 : Int) - (n : Int) - (ndSts (l.take j) : Int) = 250 - ((n + ndSts (l.take j) : Nat) : Int) := by omega
   simp only [Option.getD_some, hL]
   refine (H x (List.mem_of_getElem? hx) w0 wr vs g w.heap.size (w.heap.size + 1) (n + ndSts (l.take j)) d hT hv0 hi1 hg hi3 (by omega) hd0 hd hi4 hi5 hne1 hne2).mono ?_
   rintro e w' ⟨rfl, hgw, hcen⟩
   refine ⟨rfl, hgw, fun h => ?_, fun _ => trivial⟩
   rw [ndSts_next hx]
   have hle := fitSt_le h
   refine ⟨below_at hi1 hgw hg, by omega, by rw [← Nat.add_assoc]; exact hcen h, cell_at hi4 hgw hne1, cell_at hi5 hgw hne2⟩
  ·
   rintro j w1 w2 ⟨h1, h2, h3, h4, h5⟩ hgr
   have hbb := below_grown hgr
   exact ⟨h1.trans (hbb.mono h1.size), h2, Blk.below h3 hbb (Blk.lt h3), cell_on h4 hbb, cell_on h5 hbb⟩
  ·
   rintro e w' ⟨r, rfl, hgw, ht⟩
   have hg2 : w.grownBy w' (some g) := grown_trans (grown_any yy _) hgw
   cases r with
   | false =>
    obtain ⟨j, hj, hp, _⟩ := ht.yes rfl
    have hx : l[j]? = some l[j] := List.getElem?_eq_getElem hj
    have hF : fitSts l d (250 - (n : Int)) = false := fitSts_no hx (by simpa [hx] using hp)
    rw [hF]
    exact ⟨rfl, hg2, by simp⟩
   | true =>
    obtain ⟨h1, h2, h3, h4, _⟩ := ht.no rfl
    have hF : fitSts l d (250 - (n : Int)) = true := fitSts_yes (fun j x hx => by
     have := h1 j (List.getElem?_eq_some_iff.1 hx).1
     simpa [hx] using this) (by omega)
    rw [hF]
    rw [List.take_length] at h4
    exact ⟨rfl, hg2, fun _ => h4⟩
 clear x1 x2 hc hb2 H
 go_enter Tryz.func185, Tryz.ntmps185
 go_upto_region 1 with fail
 generalize ((w.alloc (.cells #[.pointer (some ⟨g, 0, none⟩)] 234 (0, 0))).alloc (.cells #[.int .i64 d] 3 (0, 0))) = W at *
 go_wp2_with fail
 refine HC.mono ?_
 rintro e w3 ⟨rfl, h1, h2⟩
 go_wp2_with fail
 go_ret
 exact ⟨rfl, h1, h2⟩

theorem fitSt_room {x : St} {d left : Int} (h : left < 1 ∨ 16 < d) : fitSt x d left = false := by
 unfold fitSt
 simp only [Bool.and_eq_false_iff, decide_eq_false_iff_not]
 have h1 : 1 ≤ ndSt x := by cases x; simp [ndSt]
 have h2 : 1 ≤ dpSt x := by cases x; simp [dpSt]
 rcases h with h | h
 ·
  left; right; omega
 ·
  right; omega
theorem okSt_eq (k n : Int) (name : List Int) (ks : List Ex) (bs es : List St) : okSt (.mk k n name ks bs es) = (stT k n name ks bs.length es.length && okExs ks && okSts bs && okSts es) := by rw [stT_eq, okSt]
theorem fitSt_form {k n : Int} {name : List Int} {ks : List Ex} {bs es : List St} {d left : Int} (h : stT k n name ks bs.length es.length = false) : fitSt (.mk k n name ks bs es) d left = false := by
 unfold fitSt
 rw [okSt_eq, h]; rfl

/-- What lies within a statement. -/
def fitIn (ks : List Ex) (bs es : List St) (d left : Int) : Bool := fitExs ks d left && fitSts bs d (left - (ndExs ks : Int)) && fitSts es d (left - (ndExs ks : Int) - (ndSts bs : Int))

theorem dpSts_zero {l : List St} (h : l.length = 0) : dpSts l = 0 := by rw [List.eq_nil_of_length_eq_zero h]; rfl
theorem dpExs_zero {l : List Ex} (h : l.length = 0) : dpExs l = 0 := by rw [List.eq_nil_of_length_eq_zero h]; rfl
theorem dpSts_pos {l : List St} (h : ¬ l.length = 0) : 1 ≤ dpSts l := by
 cases l with
 | nil => simp at h
 | cons x l => cases x; simp [dpSts, dpSt]; omega
theorem dpExs_pos {l : List Ex} (h : ¬ l.length = 0) : 1 ≤ dpExs l := by
 cases l with
 | nil => simp at h
 | cons x l => cases x; simp [dpExs, dpEx]; omega

theorem fitSt_rest {k n : Int} {name : List Int} {ks : List Ex} {bs es : List St} {d left : Int} (h : stT k n name ks bs.length es.length = true) (hl : 1 ≤ left) (hd : d ≤ 16) : fitSt (.mk k n name ks bs es) d left = fitIn ks bs es (d + 1) (left - 1) := by
 unfold fitSt fitIn fitExs fitSts
 rw [okSt_eq, h, Bool.true_and, Bool.eq_iff_iff]
 have e1 : ndSt (.mk k n name ks bs es) = 1 + (ndExs ks + ndSts bs + ndSts es) := by simp only [ndSt]
 have e2 : dpSt (.mk k n name ks bs es) = 1 + max (dpExs ks) (max (dpSts bs) (dpSts es)) := by simp only [dpSt]
 rw [e1, e2]
 clear e1 e2
 simp only [Bool.and_eq_true, decide_eq_true_eq, Bool.or_eq_true]
 have a1 := @dpExs_zero ks
 have a2 := @dpSts_zero bs
 have a3 := @dpSts_zero es
 constructor
 ·
  rintro ⟨⟨⟨⟨h1, h2⟩, h3⟩, h4⟩, h5⟩
  exact ⟨⟨⟨⟨h1, by omega⟩, .inr (by omega)⟩, ⟨h2, by omega⟩, .inr (by omega)⟩, ⟨h3, by omega⟩, .inr (by omega)⟩
 ·
  rintro ⟨⟨⟨⟨h1, b1⟩, c1⟩, ⟨h2, b2⟩, c2⟩, ⟨h3, b3⟩, c3⟩
  refine ⟨⟨⟨⟨h1, h2⟩, h3⟩, by omega⟩, ?_⟩
  rcases c1 with c1 | c1 <;> rcases c2 with c2 | c2 <;> rcases c3 with c3 | c3 <;> omega
theorem fitSts_le {l : List St} {d left : Int} (h : fitSts l d left = true) : (ndSts l : Int) ≤ left := by
 unfold fitSts at h; simp only [Bool.and_eq_true, decide_eq_true_eq] at h; exact h.1.2
theorem fitExs_le {l : List Ex} {d left : Int} (h : fitExs l d left = true) : (ndExs l : Int) ≤ left := by
 unfold fitExs at h; simp only [Bool.and_eq_true, decide_eq_true_eq] at h; exact h.1.2

def VS6 (k n : Int) (a2 : Option Addr) (n2 c2 : Nat) (a3 : Option Addr) (n3 c3 : Nat) (a4 : Option Addr) (n4 c4 : Nat) (a5 : Option Addr) (n5 c5 : Nat) : List Value := [.int .i64 k, .int .i64 n, .slice a2 n2 c2, .slice a3 n3 c3, .slice a4 n4 c4, .slice a5 n5 c5]

set_option maxHeartbeats 4000000 in
theorem innerC (k n : Int) (a2 : Option Addr) (n2 c2 : Nat) (a3 : Option Addr) (c3 : Nat) (a4 : Option Addr) (c4 : Nat) (a5 : Option Addr) (c5 : Nat) (ks : List Ex) (bs es : List St) (S3 : CenExs ks) (S4 : CenSts bs) (S5 : CenSts es) (w0 w : World) (g cnt : Nat) (d : Int)
  (hT : Tabs w0) (h3 : LRow w0 a3 c3 5 (exs ks)) (h4 : LRow w0 a4 c4 6 (sts bs)) (h5 : LRow w0 a5 c5 6 (sts es)) (hb : Below w0.heap.size w0 w) (hg : w0.heap.size ≤ g) (hc : Cen w g cnt) (hn : cnt ≤ 250) (hd0 : 0 ≤ d) (hd : d ≤ 17) :
  Calls Tryz.prog 207 #[.pointer (some ⟨g, 0, none⟩), .agg #[.int .i64 k, .int .i64 n, .slice a2 n2 c2, .slice a3 ks.length c3, .slice a4 bs.length c4, .slice a5 es.length c5], .int .i64 d] w fun e w' => e = .returned (.bool (fitIn ks bs es d (250 - (cnt : Int)))) ∧ w.grownBy w' (some g) ∧ (fitIn ks bs es d (250 - (cnt : Int)) = true → Cen w' g (cnt + (ndExs ks + ndSts bs + ndSts es))) := by
 have hgl : g < w.heap.size := Blk.lt hc
 have hgx : w.heap.size ≠ g := by omega
 have y0 := grown_alloc w (.cells #[.int .i64 k, .int .i64 n, .slice a2 n2 c2, .slice a3 ks.length c3, .slice a4 bs.length c4, .slice a5 es.length c5] 121 (0, 0)) none
 have x0 := Blk.new w 121 [.int .i64 k, .int .i64 n, .slice a2 n2 c2, .slice a3 ks.length c3, .slice a4 bs.length c4, .slice a5 es.length c5]
 have hcw : Cen _ g cnt := Blk.old hc (o := .cells #[.int .i64 k, .int .i64 n, .slice a2 n2 c2, .slice a3 ks.length c3, .slice a4 bs.length c4, .slice a5 es.length c5] 121 (0, 0))
 replace hb := hb.trans ((below_grown y0).mono hb.size)
 have yy := grown_any y0 (some g)
 clear hc y0
 have hfe : Hid (fitIn ks bs es d (250 - (cnt : Int)) = (fitExs ks d (250 - (cnt : Int)) && fitSts bs d (250 - (cnt : Int) - (ndExs ks : Int)) && fitSts es d (250 - (cnt : Int) - (ndExs ks : Int) - (ndSts bs : Int)))) := rfl
 generalize fitIn ks bs es d (250 - (cnt : Int)) = TG at *
 go_enter Tryz.func207, Tryz.ntmps207
 go_upto_region 1 with fail
 generalize w.alloc (.cells #[.int .i64 k, .int .i64 n, .slice a2 n2 c2, .slice a3 ks.length c3, .slice a4 bs.length c4, .slice a5 es.length c5] 121 (0, 0)) = w1 at *
 have q3 := x0.cell (i := 3) rfl
 have q4 := x0.cell (i := 4) rfl
 have q5 := x0.cell (i := 5) rfl
 have H1 := S3 w0 w1 a3 c3 g cnt d hT h3 hb hg hcw hn hd0 hd
 clear S3 h3
 generalize e3 : fitExs ks d (250 - (cnt : Int)) = r3 at *
 go_wp2_with fail
 refine H1.mono ?_
 rintro e w2 ⟨rfl, hg2, hc2⟩
 replace x0 := x0.grown hg2 hgx
 replace hb := below_at hb hg2 hg
 replace yy := grown_trans yy hg2
 clear H1 hcw q3 q4 q5 hg2
 cases r3
 ·
  have he : Hid (TG = false) := by show _ = _; rw [hfe.out]; rfl
  go_wp2_with fail
  go_ret
  exact ⟨ret_bool he.out.symm, yy, fun h => by rw [he.out] at h; cases h⟩
 have hl3 := fitExs_le e3
 have hc2' := hc2 rfl
 clear hc2 e3
 have q4 := x0.cell (i := 4) rfl
 have q5 := x0.cell (i := 5) rfl
 have H2 := S4 w0 w2 a4 c4 g (cnt + ndExs ks) d hT h4 hb hg hc2' (by omega) hd0 hd
 have eL : (250 : Int) - ((cnt + ndExs ks : Nat) : Int) = 250 - (cnt : Int) - (ndExs ks : Int) := by omega
 rw [eL] at H2
 clear S4 h4 eL
 generalize e4 : fitSts bs d (250 - (cnt : Int) - (ndExs ks : Int)) = r4 at *
 go_wp2_with fail
 refine H2.mono ?_
 rintro e w3 ⟨rfl, hg3, hc3⟩
 replace x0 := x0.grown hg3 hgx
 replace hb := below_at hb hg3 hg
 replace yy := grown_trans yy hg3
 clear H2 hc2' q4 q5 hg3
 cases r4
 ·
  have he : Hid (TG = false) := by show _ = _; rw [hfe.out]; simp
  go_wp2_with fail
  go_ret
  exact ⟨ret_bool he.out.symm, yy, fun h => by rw [he.out] at h; cases h⟩
 have hl4 := fitSts_le e4
 have hc3' := hc3 rfl
 clear hc3 e4
 have q5 := x0.cell (i := 5) rfl
 have H3 := S5 w0 w3 a5 c5 g (cnt + ndExs ks + ndSts bs) d hT h5 hb hg hc3' (by omega) hd0 hd
 have eL : (250 : Int) - ((cnt + ndExs ks + ndSts bs : Nat) : Int) = 250 - (cnt : Int) - (ndExs ks : Int) - (ndSts bs : Int) := by omega
 rw [eL] at H3
 clear S5 h5 eL
 generalize e5 : fitSts es d (250 - (cnt : Int) - (ndExs ks : Int) - (ndSts bs : Int)) = r5 at *
 go_wp2_with fail
 refine H3.mono ?_
 rintro e w4 ⟨rfl, hg4, hc4⟩
 have he : Hid (TG = r5) := by show _ = _; rw [hfe.out]; simp
 go_wp2_with fail
 go_ret
 exact ⟨ret_bool he.out.symm, grown_trans yy hg4, fun h => by
  have := hc4 (he.out ▸ h)
  rw [show cnt + (ndExs ks + ndSts bs + ndSts es) = cnt + ndExs ks + ndSts bs + ndSts es by omega]; exact this⟩
end Go.Proofs.YtopnodadggohiaaGreatDoor

/- The census of statements, one by one, and of a module's bodies. -/
namespace Go.Proofs.YtopnodadggohiaaGreatDoor
open Go.RowKit
set_option linter.unusedVariables false
set_option linter.unusedSimpArgs false
set_option maxRecDepth 100000

set_option maxHeartbeats 4000000 in
theorem cenStR (k n : Int) (name : List Int) (ks : List Ex) (bs es : List St) (hs : recLen (St.mk k n name ks bs es).fl ≤ 1048576) (S3 : CenExs ks) (S4 : CenSts bs) (S5 : CenSts es) : CenSt (.mk k n name ks bs es) := by
 intro w0 w vs g g1 g2 cnt d hT hr hb hg hc hn hd0 hd x1 x2 hne1 hne2
 have HF : ∀ w1, Below w0.heap.size w0 w1 → Calls Tryz.prog 206 #[agg vs] w1 fun e w' => e = .returned (.bool (stT k n name ks bs.length es.length)) ∧ w1.grownBy w' none := fun w1 h1 => stFormedC k n name ks bs es vs w1 (hT.below h1) (hr.below h1) hs
 unfold St.fl at hr
 obtain ⟨y0, _, rfl, rfl, y1, _, rfl, rfl, y2, _, rfl, ⟨a2, c2, rfl, _⟩, y3, _, rfl, h3', y4, _, rfl, h4', y5, _, rfl, h5', rfl⟩ := hr
 obtain ⟨a3, c3, rfl, h3⟩ := h3'.list
 obtain ⟨a4, c4, rfl, h4⟩ := h4'.list
 obtain ⟨a5, c5, rfl, h5⟩ := h5'.list
 clear h3' h4' h5'
 have hkl : (exs ks).length = ks.length := by simp [exs_map]
 have hbl : (sts bs).length = bs.length := by simp [sts_map]
 have hel : (sts es).length = es.length := by simp [sts_map]
 rw [hkl, hbl, hel] at HF ⊢
 have HK : ∀ w1, Below w0.heap.size w0 w1 → Cen w1 g (cnt + 1) → cnt + 1 ≤ 250 → d + 1 ≤ 17 → Calls Tryz.prog 207 #[.pointer (some ⟨g, 0, none⟩), .agg #[.int .i64 k, .int .i64 n, .slice a2 name.length c2, .slice a3 ks.length c3, .slice a4 bs.length c4, .slice a5 es.length c5], .int .i64 (d + 1)] w1 fun e w' => e = .returned (.bool (fitIn ks bs es (d + 1) (250 - ((cnt + 1 : Nat) : Int)))) ∧ w1.grownBy w' (some g) ∧ (fitIn ks bs es (d + 1) (250 - ((cnt + 1 : Nat) : Int)) = true → Cen w' g (cnt + 1 + (ndExs ks + ndSts bs + ndSts es))) := fun w1 h1 h2 h7 h8 => innerC k n a2 name.length c2 a3 c3 a4 c4 a5 c5 ks bs es S3 S4 S5 w0 w1 g (cnt + 1) (d + 1) hT h3 h4 h5 h1 hg h2 h7 (by omega) h8
 clear h3 h4 h5 S3 S4 S5 hT hs
 simp only [agg] at HF ⊢
 have hgl : g < w.heap.size := Blk.lt hc
 have y0 := grown_alloc w (.cells #[.int .i64 k, .int .i64 n, .slice a2 name.length c2, .slice a3 ks.length c3, .slice a4 bs.length c4, .slice a5 es.length c5] 121 (0, 0)) none
 have x0 := Blk.new w 121 [.int .i64 k, .int .i64 n, .slice a2 name.length c2, .slice a3 ks.length c3, .slice a4 bs.length c4, .slice a5 es.length c5]
 have hcw := Blk.old hc (o := .cells #[.int .i64 k, .int .i64 n, .slice a2 name.length c2, .slice a3 ks.length c3, .slice a4 bs.length c4, .slice a5 es.length c5] 121 (0, 0))
 replace x1 := cell_on x1 (below_grown y0)
 replace x2 := cell_on x2 (below_grown y0)
 replace hb := hb.trans ((below_grown y0).mono hb.size)
 clear hc
 go_enter Tryz.func204, Tryz.ntmps204
 go_upto_region 1 with fail
 generalize w.alloc (.cells #[.int .i64 k, .int .i64 n, .slice a2 name.length c2, .slice a3 ks.length c3, .slice a4 bs.length c4, .slice a5 es.length c5] 121 (0, 0)) = w1 at *
 have yy := grown_any y0 (some g)
 have H1 := hasRoomC g cnt d w1 hcw (by omega)
 obtain ⟨q0, q1, q2, q3, q4, q5⟩ := x0.c6
 clear y0
 go_wp2_with fail
 refine H1.mono ?_
 rintro e w2 ⟨rfl, hg2, hc2⟩
 have hgx : w.heap.size ≠ g := by omega
 replace x0 := x0.grown hg2 hgx
 replace x1 := cell_at x1 hg2 hne1
 replace x2 := cell_at x2 hg2 hne2
 replace hb := below_at hb hg2 hg
 replace yy := grown_trans yy hg2
 clear H1 hcw q0 q1 q2 q3 q4 q5 hg2
 obtain ⟨q0, q1, q2, q3, q4, q5⟩ := x0.c6
 by_cases hro : cnt + 1 ≤ 250 ∧ d ≤ 16
 ·
  rw [decide_eq_true hro.1, decide_eq_true hro.2]
  have H2 := HF w2 hb
  clear HF
  go_wp2_with fail
  refine H2.mono ?_
  rintro e w3 ⟨rfl, hg3⟩
  have hb3 := below_grown hg3
  replace x0 := x0.below hb3 x0.lt
  replace x1 := cell_on x1 hb3
  replace x2 := cell_on x2 hb3
  replace hb := hb.trans (hb3.mono hb.size)
  replace yy := grown_trans yy (grown_any hg3 _)
  have hc3 : Cen w3 g (cnt + 1) := Blk.below hc2 hb3 (Blk.lt hc2)
  clear H2 hc2 q0 q1 q2 q3 q4 q5 hg3 hb3
  obtain ⟨q0, q1, q2, q3, q4, q5⟩ := x0.c6
  cases e1 : stT k n name ks bs.length es.length
  ·
   have he : Hid (fitSt (.mk k n name ks bs es) d (250 - (cnt : Int)) = false) := fitSt_form e1
   clear e1 HK
   go_wp2_with fail
   go_ret
   rw [he.out]
   exact ⟨rfl, yy, by simp⟩
  ·
   have H3 := HK w3 hb hc3 hro.1 (by omega)
   have hE : Hid (fitSt (.mk k n name ks bs es) d (250 - (cnt : Int)) = fitIn ks bs es (d + 1) (250 - ((cnt + 1 : Nat) : Int))) := by
    show _ = _
    rw [fitSt_rest e1 (by omega) hro.2]
    congr 1; omega
   have hN : Hid (ndSt (.mk k n name ks bs es) = 1 + (ndExs ks + ndSts bs + ndSts es)) := by show _ = _; simp [ndSt]
   clear e1 HK
   generalize fitIn ks bs es (d + 1) (250 - ((cnt + 1 : Nat) : Int)) = rr at *
   go_wp2_with fail
   refine H3.mono ?_
   rintro e w4 ⟨rfl, hg4, hc4⟩
   go_wp2_with fail
   go_ret
   rw [hE.out, hN.out]
   exact ⟨rfl, grown_trans yy hg4, fun h => by have := hc4 h; rw [show cnt + (1 + (ndExs ks + ndSts bs + ndSts es)) = cnt + 1 + (ndExs ks + ndSts bs + ndSts es) by omega]; exact this⟩
 ·
  have hz : (decide (cnt + 1 ≤ 250) && decide (d ≤ 16)) = false := by
   simp only [Bool.and_eq_false_iff, decide_eq_false_iff_not]
   omega
  rw [hz]
  have he : Hid (fitSt (.mk k n name ks bs es) d (250 - (cnt : Int)) = false) := fitSt_room (by omega)
  clear HF HK hz
  go_wp2_with fail
  go_ret
  rw [he.out]
  exact ⟨rfl, yy, by simp⟩

mutual
theorem cenSt : ∀ x : St, recLen x.fl ≤ 1048576 → CenSt x
 | .mk k n a ks bs es, h => by
  have e : recLen (St.mk k n a ks bs es).fl = a.length + ((exs ks).length + rowsLen (exs ks)) + ((sts bs).length + rowsLen (sts bs)) + ((sts es).length + rowsLen (sts es)) := by simp [St.fl, recLen, Fl.len] <;> omega
  exact cenStR k n a ks bs es h (cenExsR ks (cenExs ks (by rw [e] at h; omega))) (cenStsR bs (cenSts bs (by rw [e] at h; omega))) (cenStsR es (cenSts es (by rw [e] at h; omega)))
theorem cenSts : ∀ (l : List St), rowsLen (sts l) ≤ 1048576 → ∀ e ∈ l, CenSt e
 | [], _, e, h => by simp at h
 | x :: l, hl, e, h => by
  simp only [sts, rowsLen] at hl
  rcases List.mem_cons.1 h with h | h
  ·
   rw [h]; exact cenSt x (by omega)
  ·
   exact cenSts l (by omega) e h
end
end Go.Proofs.YtopnodadggohiaaGreatDoor

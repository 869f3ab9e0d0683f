/- Names that are all unlike, the place of an export: the program's searches. By mklkunl.py. -/
import Derived.Test.YtefciaeajlgheaaLkSt
import Derived.Test.YtefciaeajlgheaaNameImpl
import Derived.Deep.RegionHeld3
namespace Go.Proofs.Ytefciaeajlgheaa
open Go.RowKit
set_option linter.unusedVariables false
set_option linter.unusedSimpArgs false
set_option maxRecDepth 100000

/-- The i-th is like none ahead of it. -/
def unl (l : List (List Int)) (i : Nat) : Bool := !((l.take i).any fun y => decide (y = l[i]?.getD []))
def allUnl (l : List (List Int)) : Bool := (List.range l.length).all (unl l)
theorem allUnl_not {l : List (List Int)} {i : Nat} (hi : i < l.length) (h : unl l i = false) : allUnl l = false := by
  unfold allUnl
  rw [List.all_eq_false]
  exact ⟨i, by simpa using hi, by simp [h]⟩
theorem allUnl_yes {l : List (List Int)} (h : ∀ i, i < l.length → unl l i = true) : allUnl l = true := by
  unfold allUnl
  rw [List.all_eq_true]
  exact fun i hi => h i (by simpa using hi)
theorem allUnl_iff {l : List Oj} : allUnl (l.map Oj.name) = true ↔ unlO l := by
  constructor
  · intro h j hj
    have h1 := List.all_eq_true.1 (show (List.range _).all _ = true from h) j (by simpa using hj)
    have ho : l[j]? = some l[j] := List.getElem?_eq_getElem hj
    rw [ojAt_some ho]
    refine find_hit ho (by simp) fun i y hi hy => ?_
    unfold unl at h1
    simp only [Bool.not_eq_true', List.any_eq_false, decide_eq_true_eq] at h1
    have h2 := h1 y.name (by
      rw [← List.map_take]
      exact List.mem_map.2 ⟨y, List.mem_of_getElem? (by rw [List.getElem?_take, if_pos hi]; exact hy), rfl⟩)
    rw [List.getElem?_map, ho] at h2
    simpa using h2
  · intro h
    refine allUnl_yes fun i hi => ?_
    have hi : i < l.length := by simpa using hi
    have ho : l[i]? = some l[i] := List.getElem?_eq_getElem hi
    have h1 := h i hi
    rw [ojAt_some ho] at h1
    obtain ⟨_, _, _, hno⟩ := find_some h1
    unfold unl
    simp only [Bool.not_eq_true', List.any_eq_false, decide_eq_true_eq]
    intro y hy
    rw [← List.map_take] at hy
    obtain ⟨z, hz, rfl⟩ := List.mem_map.1 hy
    obtain ⟨k, hk, rfl⟩ := List.mem_iff_getElem.1 hz
    have hk2 : k < i := by simp at hk; omega
    have := hno k l[k] hk2 (List.getElem?_eq_getElem (by omega))
    rw [List.getElem?_map, ho]
    simpa using this

theorem nameObjectC (v0 v1 v2 v3 v4 : Value) (w : World) :
    Calls Try.prog 24 #[.agg #[v0, v1, v2, v3, v4]] w fun e w' => e = .returned v0 ∧ w.grownBy w' none := by
  have y0 := grown_alloc w (.cells #[v0, v1, v2, v3, v4] 47 (0, 0)) none
  have q0 := cell_new w 47 #[v0, v1, v2, v3, v4] 0 _ rfl
  go_enter Try.func24, Try.ntmps24
  go_upto_region 1 with fail
  generalize w.alloc (.cells #[v0, v1, v2, v3, v4] 47 (0, 0)) = w1 at *
  go_wp2_with fail
  go_ret
  exact ⟨rfl, y0⟩

set_option maxHeartbeats 2000000 in
theorem hasOneObject (a0 : Option Addr) (n0 c0 : Nat) (l0 : List Int) (v1 v2 v3 v4 : Value) (g1 g2 : Nat) (a2 : Option Addr) (n2 c2 : Nat) (l2 : List Int) (w : World)
    (h0 : BRow w a0 n0 l0) (h2 : BRow w a2 n2 l2) (x1 : w.cell? ⟨g1, 0, none⟩ = some (.func (.func 24) #[] #[])) (x2 : w.cell? ⟨g2, 0, none⟩ = some (.slice a2 n2 c2)) :
    Calls Try.prog 85 #[.agg #[.slice a0 n0 c0, v1, v2, v3, v4], .pointer (some ⟨g1, 0, none⟩), .pointer (some ⟨g2, 0, none⟩)] w fun e w' => e = .returned (.bool (decide (l0 = l2))) ∧ w.grownBy w' none := by
  have y0 := grown_alloc w (.cells #[.slice a0 n0 c0, v1, v2, v3, v4] 47 (0, 0)) none
  have q0 := cell_new w 47 #[.slice a0 n0 c0, v1, v2, v3, v4] 0 _ rfl
  have q1 := cell_new w 47 #[.slice a0 n0 c0, v1, v2, v3, v4] 1 _ rfl
  have q2 := cell_new w 47 #[.slice a0 n0 c0, v1, v2, v3, v4] 2 _ rfl
  have q3 := cell_new w 47 #[.slice a0 n0 c0, v1, v2, v3, v4] 3 _ rfl
  have q4 := cell_new w 47 #[.slice a0 n0 c0, v1, v2, v3, v4] 4 _ rfl
  replace x1 := cell_on x1 (below_grown y0)
  replace x2 := cell_on x2 (below_grown y0)
  replace h0 := h0.below (below_grown y0)
  replace h2 := h2.below (below_grown y0)
  go_enter Try.func85, Try.ntmps85
  go_upto_region 1 with fail
  generalize w.alloc (.cells #[.slice a0 n0 c0, v1, v2, v3, v4] 47 (0, 0)) = w1 at *
  have HN := nameObjectC (.slice a0 n0 c0) v1 v2 v3 v4 w1.drew
  have HS0 : (w1.drew.cell? ⟨g1, 0, none⟩ = some (.func (.func 24) #[] #[]) ∧ w1.drew.cell? ⟨g2, 0, none⟩ = some (.slice a2 n2 c2) ∧ w1.drew.cell? ⟨w.heap.size, 0, none⟩ = some (.slice a0 n0 c0) ∧ w1.drew.cell? ⟨w.heap.size, 1, none⟩ = some v1 ∧ w1.drew.cell? ⟨w.heap.size, 2, none⟩ = some v2 ∧ w1.drew.cell? ⟨w.heap.size, 3, none⟩ = some v3 ∧ w1.drew.cell? ⟨w.heap.size, 4, none⟩ = some v4) := ⟨x1, x2, q0, q1, q2, q3, q4⟩
  have hbs : ∀ {wl : World}, w1.drew.grownBy wl none → (wl.cell? ⟨g1, 0, none⟩ = some (.func (.func 24) #[] #[]) ∧ wl.cell? ⟨g2, 0, none⟩ = some (.slice a2 n2 c2) ∧ wl.cell? ⟨w.heap.size, 0, none⟩ = some (.slice a0 n0 c0) ∧ wl.cell? ⟨w.heap.size, 1, none⟩ = some v1 ∧ wl.cell? ⟨w.heap.size, 2, none⟩ = some v2 ∧ wl.cell? ⟨w.heap.size, 3, none⟩ = some v3 ∧ wl.cell? ⟨w.heap.size, 4, none⟩ = some v4) ∧ Calls Try.prog 55 #[.slice a0 n0 c0, .slice a2 n2 c2] wl (fun e w' => e = .returned (.bool (decide (l0 = l2))) ∧ w' = wl) := by
    intro wl hg
    have hb : Below w1.drew.heap.size w1.drew wl := below_grown hg
    refine ⟨⟨cell_on HS0.1 hb, cell_on HS0.2.1 hb, cell_on HS0.2.2.1 hb, cell_on HS0.2.2.2.1 hb, cell_on HS0.2.2.2.2.1 hb, cell_on HS0.2.2.2.2.2.1 hb, cell_on HS0.2.2.2.2.2.2 hb⟩, ?_⟩
    exact bytesEqualM a0 n0 c0 l0 a2 n2 c2 l2 wl (BRow.below (w := w1.drew) h0 hb) (BRow.below (w := w1.drew) h2 hb)
  clear h0 h2
  go_region_held3 (fun wx => (wx.cell? ⟨g1, 0, none⟩ = some (.func (.func 24) #[] #[]) ∧ wx.cell? ⟨g2, 0, none⟩ = some (.slice a2 n2 c2) ∧ wx.cell? ⟨w.heap.size, 0, none⟩ = some (.slice a0 n0 c0) ∧ wx.cell? ⟨w.heap.size, 1, none⟩ = some v1 ∧ wx.cell? ⟨w.heap.size, 2, none⟩ = some v2 ∧ wx.cell? ⟨w.heap.size, 3, none⟩ = some v3 ∧ wx.cell? ⟨w.heap.size, 4, none⟩ = some v4)) (first | exact HS0 | exact HSl) (first
    | (go_at_call 24; (with_reducible refine HN.mono ?_); rintro e wl ⟨rfl, hgl⟩; obtain ⟨HSl, HEl⟩ := hbs hgl)
    | (go_at_call 55; (with_reducible refine HEl.mono ?_); rintro e w3 ⟨rfl, rfl⟩))
  go_wp2_with fail
  go_ret
  exact ⟨rfl, grown_trans y0 ⟨hgl.os, hgl.tape, hgl.output, hgl.size, hgl.block⟩⟩

set_option maxHeartbeats 4000000 in
theorem indexAtObject (C : Nat) (caps : Array Value) (a : Option Addr) (n c : Nat) (rs : List (List Fl)) (P : Nat → Bool) (Inv Q : Nat → World → Prop) (w : World)
    (H : Asks true C caps none agg a c 5 rs P Inv Q) (hn : rs.length = n) (h0 : Inv 0 w) :
    Calls Try.prog 73 #[.slice a n c, .func (.func C) #[] caps] w fun e w' => ∃ r : Int, e = .returned (.int .i64 r) ∧ w.grownBy w' none ∧ ((∃ j : Nat, r = (j : Int) ∧ j < n ∧ P j = true ∧ ∀ i, i < j → P i = false) ∨ (r = -1 ∧ ∀ i, i < n → P i = false)) := by
  have Hd : Hid (rs.length = n) := hn
  have HA : Hid (Asks true C caps none agg a c 5 rs P Inv Q) := H
  have hC : Ent C := H.ent
  have hl0 := H.rows 0 w h0
  have hcn : n ≤ 9223372036854775807 := by have h1 := hl0.cap; have h2 := hl0.most; unfold maxLen at h2; omega
  have H0 : Hid (Inv 0 w) := h0
  clear H h0
  rcases Nat.eq_zero_or_pos n with h0 | hpos
  · subst h0
    clear hl0 hn
    go_enter Try.func73, Try.ntmps73
    go_wp2_with fail
    refine wp_loop_rounds 1 ?_
    rw [rounds_succ]
    go_wp2_with fail
    go_ret
    exact ⟨_, rfl, grown_refl _ _, .inr ⟨rfl, by omega⟩⟩
  · obtain ⟨b, off, rfl⟩ := hl0.addr (by rw [hn]; exact hpos)
    clear hl0 hn
    go_enter Try.func73, Try.ntmps73
    go_wp2_with fail
    go_loopw [5, 8] (fun _ i wr => ∃ j : Nat, j ≤ n ∧ i = .int .i64 j ∧ Hid (∀ i, i < j → P i = false) ∧ Hid (w.grownBy wr none) ∧ Hid (Inv j wr)) (fun _ i _ => n - (intOf i).toNat)
    case atStart => exact ⟨0, Nat.zero_le _, rfl, by show ∀ _, _; omega, grown_refl _ _, H0⟩
    case round =>
      obtain ⟨j, hj, rfl, hno, hgr, hinv⟩ := hrel
      by_cases hlt : j < n
      · obtain ⟨r, hr⟩ : ∃ r, rs[j]? = some r := ⟨rs[j]'(by rw [Hd.out]; exact hlt), List.getElem?_eq_getElem _⟩
        obtain ⟨vs, hvs, hcl⟩ := ((Asks.rows HA.out j wr hinv.out).el hr).vals
        have HC := Asks.go HA.out j r wr vs hr hinv.out hvs ⟨b, off, rfl, hcl⟩
        have hlen : vs.length = 5 := (hvs.len).trans (Asks.each HA.out r (List.mem_of_getElem? hr))
        obtain ⟨v0, v1, v2, v3, v4, rfl⟩ : ∃ v0 v1 v2 v3 v4, vs = [v0, v1, v2, v3, v4] := by
          match vs, hlen with
          | [v0, v1, v2, v3, v4], _ => exact ⟨v0, v1, v2, v3, v4, rfl⟩
        clear hlen hvs hr
        have q0 : wr.cell? ⟨b, off + j * 5, none⟩ = some v0 := hcl 0 _ rfl
        have q1 : wr.cell? ⟨b, off + j * 5 + 1, none⟩ = some v1 := hcl 1 _ rfl
        have q2 : wr.cell? ⟨b, off + j * 5 + 2, none⟩ = some v2 := hcl 2 _ rfl
        have q3 : wr.cell? ⟨b, off + j * 5 + 3, none⟩ = some v3 := hcl 3 _ rfl
        have q4 : wr.cell? ⟨b, off + j * 5 + 4, none⟩ = some v4 := hcl 4 _ rfl
        clear hcl
        simp only [agg] at HC
        go_wp2_with fail
        rw [hC, Oper.upon_enter]
        refine HC.mono ?_
        rintro e w2 ⟨rfl, hg2, hn2, hy2⟩
        have hgw : Hid (w.grownBy w2 none) := grown_trans hgr.out hg2
        have HNx : Hid (P j = false → Inv (j + 1) w2) := hn2
        clear q0 q1 q2 q3 q4 hg2 HC hn2 hy2
        by_cases he : P j = true
        · rw [he]
          have HS : Hid (P j = true) := he
          clear he
          go_wp2_with fail
          go_ret
          exact ⟨_, rfl, hgw.out, .inl ⟨j, rfl, hlt, HS.out, hno.out⟩⟩
        · have he := Bool.not_eq_true _ ▸ he
          rw [he]
          have HS : Hid (P j = false) := he
          clear he
          go_wp2_with fail
          go_roundw
          case rel => exact ⟨j + 1, by omega, by go_num, (show ∀ i, i < j + 1 → P i = false from fun i hi => (Nat.lt_or_ge i j).elim (fun h => hno.out i h) (fun h => (show j = i by omega) ▸ HS.out)), hgw, HNx.out HS.out⟩
          case measure => simp [intOf]; omega
      · have : j = n := by omega
        subst this
        go_wp2_with fail
        go_ret
        exact ⟨_, rfl, hgr.out, .inr ⟨rfl, hno.out⟩⟩

set_option maxHeartbeats 1000000 in
theorem placeObject (hE1 : Ent 85) (a : Option Addr) (c : Nat) (l : List Oj) (n : Nat) (a2 : Option Addr) (n2 c2 : Nat) (l2 : List Int) (w : World) (hn : l.length = n)
    (h : LRow w a c 5 (l.map Oj.fl)) (h2 : BRow w a2 n2 l2) :
    Calls Try.prog 79 #[.slice a n c, .func (.func 24) #[] #[], .slice a2 n2 c2] w fun e w' => e = .returned (.int .i64 (intO (l.findIdx? fun y => decide (y.name = l2)))) ∧ w.grownBy w' none := by
  have y0 := grown_alloc w (.cells #[.func (.func 24) #[] #[]] 65 (0, 0)) none
  have x1 := cell_new w 65 #[.func (.func 24) #[] #[]] 0 _ rfl
  have y1 := grown_alloc (w.alloc (.cells #[.func (.func 24) #[] #[]] 65 (0, 0))) (.cells #[.slice a2 n2 c2] 38 (0, 0)) none
  have x2 := cell_new (w.alloc (.cells #[.func (.func 24) #[] #[]] 65 (0, 0))) 38 #[.slice a2 n2 c2] 0 _ rfl
  rw [show (w.alloc (.cells #[.func (.func 24) #[] #[]] 65 (0, 0))).heap.size = w.heap.size + 1 by simp] at x2
  replace x1 := cell_on x1 (below_grown y1)
  have hb := below_grown (grown_trans y0 y1)
  replace h := h.below hb
  replace h2 := h2.below hb
  have yy := grown_trans y0 y1
  clear y0 y1
  have HC : Calls Try.prog 73 #[.slice a n c, .func (.func 85) #[] #[.pointer (some ⟨w.heap.size, 0, none⟩), .pointer (some ⟨w.heap.size + 1, 0, none⟩)]] ((w.alloc (.cells #[.func (.func 24) #[] #[]] 65 (0, 0))).alloc (.cells #[.slice a2 n2 c2] 38 (0, 0))) fun e w' => e = .returned (.int .i64 (intO (l.findIdx? fun y => decide (y.name = l2)))) ∧ ((w.alloc (.cells #[.func (.func 24) #[] #[]] 65 (0, 0))).alloc (.cells #[.slice a2 n2 c2] 38 (0, 0))).grownBy w' none := by
    generalize ((w.alloc (.cells #[.func (.func 24) #[] #[]] 65 (0, 0))).alloc (.cells #[.slice a2 n2 c2] 38 (0, 0))) = W at *
    refine (indexAtObject 85 _ a n c (l.map Oj.fl) (fun j => decide ((l[j]?.getD ⟨[], [], [], 0, []⟩).name = l2)) (fun _ wr => Below W.heap.size W wr) (fun _ _ => True) W ⟨hE1, fun j wr hi => h.below hi, ?_, ?_⟩ (by simpa using hn) (Below.refl _ _)).mono ?_
    · intro r hr
      obtain ⟨x, _, rfl⟩ := List.mem_map.1 hr
      rfl
    · intro j r wr vs hr hi hvs _
      rw [List.getElem?_map] at hr
      obtain ⟨x, hx, rfl⟩ := Option.map_eq_some_iff.1 hr
      rw [hx]
      obtain ⟨y0, us, rfl, ⟨a0, c0, rfl, hb0, _⟩, y1, us1, rfl, _, y2, us2, rfl, _, y3, us3, rfl, _, y4, us4, rfl, _, rfl⟩ := hvs
      refine (hasOneObject a0 x.name.length c0 x.name y1 y2 y3 y4 w.heap.size (w.heap.size + 1) a2 n2 c2 l2 wr hb0 (h2.below hi) (cell_on x1 hi) (cell_on x2 hi)).mono ?_
      rintro e w' ⟨rfl, hg⟩
      exact ⟨rfl, hg, fun _ => hi.trans ((below_grown hg).mono hi.size), fun _ => trivial⟩
    · rintro e w' ⟨r, rfl, hg, ht⟩
      refine ⟨ret_int ?_, hg⟩
      rcases ht with ⟨j, rfl, hj, hp, hno⟩ | ⟨rfl, hno⟩
      · have hjl : l[j]? = some l[j] := List.getElem?_eq_getElem (by omega)
        rw [find_hit hjl (by simp only [hjl, Option.getD_some] at hp; exact hp) (fun i y hi hy => by have := hno i hi; simp only [hy, Option.getD_some] at this; exact this)]
        rfl
      · rw [find_no (fun i y hy => by have := hno i (by have := (List.getElem?_eq_some_iff.1 hy).1; omega); simp only [hy, Option.getD_some] at this; exact this)]
        rfl
  clear h h2 hb
  go_enter Try.func79, Try.ntmps79
  go_upto_region 1 with fail
  generalize ((w.alloc (.cells #[.func (.func 24) #[] #[]] 65 (0, 0))).alloc (.cells #[.slice a2 n2 c2] 38 (0, 0))) = W at *
  go_wp2_with fail
  refine HC.mono ?_
  rintro e w3 ⟨rfl, hg⟩
  go_wp2_with fail
  go_ret
  exact ⟨rfl, grown_trans yy hg⟩

theorem any_find {α : Type} (l : List α) (p : α → Bool) : decide (0 ≤ intO (l.findIdx? p)) = l.any p := by
  cases h : l.findIdx? p with
  | none =>
    have := find_none h
    symm
    rw [show decide (0 ≤ intO none) = false from rfl, List.any_eq_false]
    intro x hx
    obtain ⟨i, hi, rfl⟩ := List.mem_iff_getElem.1 hx
    rw [this i l[i] (List.getElem?_eq_getElem hi)]
    simp
  | some j =>
    obtain ⟨x, hx, hp, _⟩ := find_some h
    symm
    rw [show decide (0 ≤ intO (some j)) = true from decide_eq_true (Int.natCast_nonneg j), List.any_eq_true]
    exact ⟨x, List.mem_of_getElem? hx, hp⟩

set_option maxHeartbeats 1000000 in
theorem hasObject (hE1 : Ent 85) (a : Option Addr) (c : Nat) (l : List Oj) (n : Nat) (a2 : Option Addr) (n2 c2 : Nat) (l2 : List Int) (w : World) (hn : l.length = n)
    (h : LRow w a c 5 (l.map Oj.fl)) (h2 : BRow w a2 n2 l2) :
    Calls Try.prog 53 #[.slice a n c, .func (.func 24) #[] #[], .slice a2 n2 c2] w fun e w' => e = .returned (.bool (l.any fun y => decide (y.name = l2))) ∧ w.grownBy w' none := by
  have HC := placeObject hE1 a c l n a2 n2 c2 l2 w hn h h2
  have HR : Hid (decide (0 ≤ intO (l.findIdx? fun y => decide (y.name = l2))) = (l.any fun y => decide (y.name = l2))) := any_find l _
  generalize intO (l.findIdx? fun y => decide (y.name = l2)) = r at *
  clear h h2 hn
  go_enter Try.func53, Try.ntmps53
  go_wp2_with fail
  refine HC.mono ?_
  rintro e w3 ⟨rfl, hg⟩
  go_wp2_with fail
  go_ret
  exact ⟨ret_bool HR.out, hg⟩

set_option maxHeartbeats 4000000 in
theorem unlikeObject (hE1 : Ent 85) (a : Option Addr) (c : Nat) (l : List Oj) (n : Nat) (w : World) (hn : l.length = n) (h : LRow w a c 5 (l.map Oj.fl)) :
    Calls Try.prog 23 #[.slice a n c, .func (.func 24) #[] #[]] w fun e w' => e = .returned (.bool (allUnl (l.map Oj.name))) ∧ w.grownBy w' none := by
  have Hd : Hid (l.length = n) := hn
  have hcn : n ≤ 9223372036854775807 := by have h1 := h.cap; have h2 := h.most; unfold maxLen at h2; simp only [List.length_map] at h1; omega
  have hnc : n ≤ c := by have h1 := h.cap; simp only [List.length_map] at h1; omega
  rcases Nat.eq_zero_or_pos n with h0 | hpos
  · subst h0
    have e0 : l = [] := List.eq_nil_of_length_eq_zero Hd.out
    subst e0
    clear h hn
    go_enter Try.func23, Try.ntmps23
    go_wp2_with fail
    refine wp_loop_rounds 1 ?_
    rw [rounds_succ]
    go_wp2_with fail
    go_ret
    exact ⟨ret_bool (by rfl), grown_refl _ _⟩
  · obtain ⟨b, off, rfl⟩ := h.addr (by simpa using by omega)
    have HL : Hid (LRow w (some ⟨b, off, none⟩) c 5 (l.map Oj.fl)) := h
    clear h hn
    go_enter Try.func23, Try.ntmps23
    go_wp2_with fail
    go_loopw [5, 6, 9] (fun _ _ i wr => ∃ j : Nat, j ≤ n ∧ i = .int .i64 j ∧ Hid (∀ i, i < j → unl (l.map Oj.name) i = true) ∧ Hid (w.grownBy wr none)) (fun _ _ i _ => n - (intOf i).toNat)
    case atStart => exact ⟨0, Nat.zero_le _, rfl, by show ∀ _, _; omega, grown_refl _ _⟩
    case round =>
      obtain ⟨j, hj, rfl, hno, hgr⟩ := hrel
      by_cases hlt : j < n
      · obtain ⟨x, y0, y1, y2, y3, y4, hxl, hvs, q0, q1, q2, q3, q4⟩ := objCells HL.out Hd.out j hlt
        have hnm : Hid ((l.map Oj.name)[j]?.getD [] = x.name) := by show _ = _; rw [List.getElem?_map, hxl]; rfl
        have hbr := below_grown hgr.out
        obtain ⟨a0, c0, a1, c1, a2, c2, a4, c4, rfl, rfl, rfl, rfl, rfl, hx0, _⟩ := objShape hvs
        replace q0 := cell_on q0 hbr
        replace q1 := cell_on q1 hbr
        replace q2 := cell_on q2 hbr
        replace q3 := cell_on q3 hbr
        replace q4 := cell_on q4 hbr
        generalize x.ex.length = n1 at *
        generalize x.im.length = n2 at *
        generalize x.code.length = n4 at *
        generalize x.data = d3 at *
        clear hvs hxl
        have hlz : (l.take j).length = j := by rw [List.length_take, Hd.out]; omega
        have ht : LRow w (some ⟨b, off, none⟩) c 5 ((l.take j).map Oj.fl) := by rw [List.map_take]; exact LRow.take HL.out j
        have HH : ∀ wl, Below w.heap.size w wl → Calls Try.prog 53 #[.slice (some ⟨b, off, none⟩) j c, .func (.func 24) #[] #[], .slice a0 x.name.length c0] wl fun e w' => e = .returned (.bool ((l.take j).any fun y => decide (y.name = x.name))) ∧ wl.grownBy w' none := by
          intro wl hb
          exact hasObject hE1 (some ⟨b, off, none⟩) c (l.take j) j a0 x.name.length c0 x.name wl hlz (ht.below hb) (hx0.below hb)
        clear ht hlz hx0
        have hgw := grown_trans hgr.out (grown_alloc wr (.cells #[.slice a0 x.name.length c0, .slice a1 n1 c1, .slice a2 n2 c2, .int .i64 d3, .slice a4 n4 c4] 47 (0, 0)) none)
        have o0 := cell_new wr 47 #[.slice a0 x.name.length c0, .slice a1 n1 c1, .slice a2 n2 c2, .int .i64 d3, .slice a4 n4 c4] 0 _ rfl
        have o1 := cell_new wr 47 #[.slice a0 x.name.length c0, .slice a1 n1 c1, .slice a2 n2 c2, .int .i64 d3, .slice a4 n4 c4] 1 _ rfl
        have o2 := cell_new wr 47 #[.slice a0 x.name.length c0, .slice a1 n1 c1, .slice a2 n2 c2, .int .i64 d3, .slice a4 n4 c4] 2 _ rfl
        have o3 := cell_new wr 47 #[.slice a0 x.name.length c0, .slice a1 n1 c1, .slice a2 n2 c2, .int .i64 d3, .slice a4 n4 c4] 3 _ rfl
        have o4 := cell_new wr 47 #[.slice a0 x.name.length c0, .slice a1 n1 c1, .slice a2 n2 c2, .int .i64 d3, .slice a4 n4 c4] 4 _ rfl
        go_upto_region 4 with fail
        generalize wr.alloc (.cells #[.slice a0 x.name.length c0, .slice a1 n1 c1, .slice a2 n2 c2, .int .i64 d3, .slice a4 n4 c4] 47 (0, 0)) = w1 at hgw o0 o1 o2 o3 o4 ⊢
        clear q0 q1 q2 q3 q4
        have HN := nameObjectC (.slice a0 x.name.length c0) (.slice a1 n1 c1) (.slice a2 n2 c2) (.int .i64 d3) (.slice a4 n4 c4) w1.drew
        have HS0 : (w1.drew.cell? ⟨wr.heap.size, 0, none⟩ = some (.slice a0 x.name.length c0) ∧ w1.drew.cell? ⟨wr.heap.size, 1, none⟩ = some (.slice a1 n1 c1) ∧ w1.drew.cell? ⟨wr.heap.size, 2, none⟩ = some (.slice a2 n2 c2) ∧ w1.drew.cell? ⟨wr.heap.size, 3, none⟩ = some (.int .i64 d3) ∧ w1.drew.cell? ⟨wr.heap.size, 4, none⟩ = some (.slice a4 n4 c4)) := ⟨o0, o1, o2, o3, o4⟩
        have hbs : ∀ {wl : World}, w1.drew.grownBy wl none → (wl.cell? ⟨wr.heap.size, 0, none⟩ = some (.slice a0 x.name.length c0) ∧ wl.cell? ⟨wr.heap.size, 1, none⟩ = some (.slice a1 n1 c1) ∧ wl.cell? ⟨wr.heap.size, 2, none⟩ = some (.slice a2 n2 c2) ∧ wl.cell? ⟨wr.heap.size, 3, none⟩ = some (.int .i64 d3) ∧ wl.cell? ⟨wr.heap.size, 4, none⟩ = some (.slice a4 n4 c4)) ∧ Calls Try.prog 53 #[.slice (some ⟨b, off, none⟩) j c, .func (.func 24) #[] #[], .slice a0 x.name.length c0] wl (fun e w' => e = .returned (.bool ((l.take j).any fun y => decide (y.name = x.name))) ∧ w.grownBy w' none ∧ (w'.cell? ⟨wr.heap.size, 0, none⟩ = some (.slice a0 x.name.length c0) ∧ w'.cell? ⟨wr.heap.size, 1, none⟩ = some (.slice a1 n1 c1) ∧ w'.cell? ⟨wr.heap.size, 2, none⟩ = some (.slice a2 n2 c2) ∧ w'.cell? ⟨wr.heap.size, 3, none⟩ = some (.int .i64 d3) ∧ w'.cell? ⟨wr.heap.size, 4, none⟩ = some (.slice a4 n4 c4))) := by
          intro wl hg
          have hb : Below w1.drew.heap.size w1.drew wl := below_grown hg
          have hgl : w.grownBy wl none := grown_trans hgw ⟨hg.os, hg.tape, hg.output, hg.size, hg.block⟩
          refine ⟨⟨cell_on HS0.1 hb, cell_on HS0.2.1 hb, cell_on HS0.2.2.1 hb, cell_on HS0.2.2.2.1 hb, cell_on HS0.2.2.2.2 hb⟩, ?_⟩
          refine (HH wl (below_grown hgl)).mono ?_
          rintro e w' ⟨rfl, h⟩
          exact ⟨rfl, grown_trans hgl h, cell_on (cell_on HS0.1 hb) (below_grown h), cell_on (cell_on HS0.2.1 hb) (below_grown h), cell_on (cell_on HS0.2.2.1 hb) (below_grown h), cell_on (cell_on HS0.2.2.2.1 hb) (below_grown h), cell_on (cell_on HS0.2.2.2.2 hb) (below_grown h)⟩
        clear HH hgw o0 o1 o2 o3 o4
        have hun : Hid (unl (l.map Oj.name) j = !((l.take j).any fun y => decide (y.name = x.name))) := by
          show _ = _
          unfold unl
          rw [hnm.out, ← List.map_take, List.any_map]
          rfl
        generalize ((l.take j).any fun y => decide (y.name = x.name)) = r at hbs hun
        have z0 : (0 : Int) ≤ (j : Int) := by omega
        have z1 : (j : Int) ≤ (c : Int) := by omega
        have z2 : (j : Int) ≤ (n : Int) := by omega
        go_region_held3 (fun wx => (wx.cell? ⟨wr.heap.size, 0, none⟩ = some (.slice a0 x.name.length c0) ∧ wx.cell? ⟨wr.heap.size, 1, none⟩ = some (.slice a1 n1 c1) ∧ wx.cell? ⟨wr.heap.size, 2, none⟩ = some (.slice a2 n2 c2) ∧ wx.cell? ⟨wr.heap.size, 3, none⟩ = some (.int .i64 d3) ∧ wx.cell? ⟨wr.heap.size, 4, none⟩ = some (.slice a4 n4 c4))) (first | exact HS0 | exact HS3 | exact HSl) (first
          | (go_at_call 24; (with_reducible refine HN.mono ?_); rintro e wl ⟨rfl, hgl⟩; obtain ⟨HSl, HEl⟩ := hbs hgl)
          | (go_at_call 53; (with_reducible refine HEl.mono ?_); rintro e w3 ⟨rfl, hg3, HS3⟩))
        have hg3' : Hid (w.grownBy w3 none) := hg3
        clear hg3 HN HS0 hbs
        cases r with
        | true =>
          go_wp2_with fail
          go_ret
          exact ⟨ret_bool (allUnl_not (by simpa [Hd.out] using hlt) (by rw [hun.out]; rfl)).symm, hg3'.out⟩
        | false =>
          go_wp2_with fail
          go_roundw
          case rel => exact ⟨j + 1, by omega, by go_num, (show ∀ i, i < j + 1 → unl (l.map Oj.name) i = true from fun i hi => (Nat.lt_or_ge i j).elim (fun h => hno.out i h) (fun h => (show j = i by omega) ▸ (by rw [hun.out]; rfl))), hg3'⟩
          case measure => simp [intOf]; omega
      · have : j = n := by omega
        subst this
        go_wp2_with fail
        go_ret
        exact ⟨ret_bool (allUnl_yes fun i hi => hno.out i (by simpa [Hd.out] using hi)).symm, hgr.out⟩

theorem nameExportC (v0 v1 v2 : Value) (w : World) :
    Calls Try.prog 58 #[.agg #[v0, v1, v2]] w fun e w' => e = .returned v0 ∧ w.grownBy w' none := by
  have y0 := grown_alloc w (.cells #[v0, v1, v2] 60 (0, 0)) none
  have q0 := cell_new w 60 #[v0, v1, v2] 0 _ rfl
  go_enter Try.func58, Try.ntmps58
  go_upto_region 1 with fail
  generalize w.alloc (.cells #[v0, v1, v2] 60 (0, 0)) = w1 at *
  go_wp2_with fail
  go_ret
  exact ⟨rfl, y0⟩

set_option maxHeartbeats 2000000 in
theorem hasOneExport (a0 : Option Addr) (n0 c0 : Nat) (l0 : List Int) (v1 v2 : Value) (g1 g2 : Nat) (a2 : Option Addr) (n2 c2 : Nat) (l2 : List Int) (w : World)
    (h0 : BRow w a0 n0 l0) (h2 : BRow w a2 n2 l2) (x1 : w.cell? ⟨g1, 0, none⟩ = some (.func (.func 58) #[] #[])) (x2 : w.cell? ⟨g2, 0, none⟩ = some (.slice a2 n2 c2)) :
    Calls Try.prog 82 #[.agg #[.slice a0 n0 c0, v1, v2], .pointer (some ⟨g1, 0, none⟩), .pointer (some ⟨g2, 0, none⟩)] w fun e w' => e = .returned (.bool (decide (l0 = l2))) ∧ w.grownBy w' none := by
  have y0 := grown_alloc w (.cells #[.slice a0 n0 c0, v1, v2] 60 (0, 0)) none
  have q0 := cell_new w 60 #[.slice a0 n0 c0, v1, v2] 0 _ rfl
  have q1 := cell_new w 60 #[.slice a0 n0 c0, v1, v2] 1 _ rfl
  have q2 := cell_new w 60 #[.slice a0 n0 c0, v1, v2] 2 _ rfl
  replace x1 := cell_on x1 (below_grown y0)
  replace x2 := cell_on x2 (below_grown y0)
  replace h0 := h0.below (below_grown y0)
  replace h2 := h2.below (below_grown y0)
  go_enter Try.func82, Try.ntmps82
  go_upto_region 1 with fail
  generalize w.alloc (.cells #[.slice a0 n0 c0, v1, v2] 60 (0, 0)) = w1 at *
  have HN := nameExportC (.slice a0 n0 c0) v1 v2 w1.drew
  have HS0 : (w1.drew.cell? ⟨g1, 0, none⟩ = some (.func (.func 58) #[] #[]) ∧ w1.drew.cell? ⟨g2, 0, none⟩ = some (.slice a2 n2 c2) ∧ w1.drew.cell? ⟨w.heap.size, 0, none⟩ = some (.slice a0 n0 c0) ∧ w1.drew.cell? ⟨w.heap.size, 1, none⟩ = some v1 ∧ w1.drew.cell? ⟨w.heap.size, 2, none⟩ = some v2) := ⟨x1, x2, q0, q1, q2⟩
  have hbs : ∀ {wl : World}, w1.drew.grownBy wl none → (wl.cell? ⟨g1, 0, none⟩ = some (.func (.func 58) #[] #[]) ∧ wl.cell? ⟨g2, 0, none⟩ = some (.slice a2 n2 c2) ∧ wl.cell? ⟨w.heap.size, 0, none⟩ = some (.slice a0 n0 c0) ∧ wl.cell? ⟨w.heap.size, 1, none⟩ = some v1 ∧ wl.cell? ⟨w.heap.size, 2, none⟩ = some v2) ∧ Calls Try.prog 55 #[.slice a0 n0 c0, .slice a2 n2 c2] wl (fun e w' => e = .returned (.bool (decide (l0 = l2))) ∧ w' = wl) := by
    intro wl hg
    have hb : Below w1.drew.heap.size w1.drew wl := below_grown hg
    refine ⟨⟨cell_on HS0.1 hb, cell_on HS0.2.1 hb, cell_on HS0.2.2.1 hb, cell_on HS0.2.2.2.1 hb, cell_on HS0.2.2.2.2 hb⟩, ?_⟩
    exact bytesEqualM a0 n0 c0 l0 a2 n2 c2 l2 wl (BRow.below (w := w1.drew) h0 hb) (BRow.below (w := w1.drew) h2 hb)
  clear h0 h2
  go_region_held3 (fun wx => (wx.cell? ⟨g1, 0, none⟩ = some (.func (.func 58) #[] #[]) ∧ wx.cell? ⟨g2, 0, none⟩ = some (.slice a2 n2 c2) ∧ wx.cell? ⟨w.heap.size, 0, none⟩ = some (.slice a0 n0 c0) ∧ wx.cell? ⟨w.heap.size, 1, none⟩ = some v1 ∧ wx.cell? ⟨w.heap.size, 2, none⟩ = some v2)) (first | exact HS0 | exact HSl) (first
    | (go_at_call 58; (with_reducible refine HN.mono ?_); rintro e wl ⟨rfl, hgl⟩; obtain ⟨HSl, HEl⟩ := hbs hgl)
    | (go_at_call 55; (with_reducible refine HEl.mono ?_); rintro e w3 ⟨rfl, rfl⟩))
  go_wp2_with fail
  go_ret
  exact ⟨rfl, grown_trans y0 ⟨hgl.os, hgl.tape, hgl.output, hgl.size, hgl.block⟩⟩

set_option maxHeartbeats 4000000 in
theorem indexAtExport (C : Nat) (caps : Array Value) (a : Option Addr) (n c : Nat) (rs : List (List Fl)) (P : Nat → Bool) (Inv Q : Nat → World → Prop) (w : World)
    (H : Asks true C caps none agg a c 3 rs P Inv Q) (hn : rs.length = n) (h0 : Inv 0 w) :
    Calls Try.prog 81 #[.slice a n c, .func (.func C) #[] caps] w fun e w' => ∃ r : Int, e = .returned (.int .i64 r) ∧ w.grownBy w' none ∧ ((∃ j : Nat, r = (j : Int) ∧ j < n ∧ P j = true ∧ ∀ i, i < j → P i = false) ∨ (r = -1 ∧ ∀ i, i < n → P i = false)) := by
  have Hd : Hid (rs.length = n) := hn
  have HA : Hid (Asks true C caps none agg a c 3 rs P Inv Q) := H
  have hC : Ent C := H.ent
  have hl0 := H.rows 0 w h0
  have hcn : n ≤ 9223372036854775807 := by have h1 := hl0.cap; have h2 := hl0.most; unfold maxLen at h2; omega
  have H0 : Hid (Inv 0 w) := h0
  clear H h0
  rcases Nat.eq_zero_or_pos n with h0 | hpos
  · subst h0
    clear hl0 hn
    go_enter Try.func81, Try.ntmps81
    go_wp2_with fail
    refine wp_loop_rounds 1 ?_
    rw [rounds_succ]
    go_wp2_with fail
    go_ret
    exact ⟨_, rfl, grown_refl _ _, .inr ⟨rfl, by omega⟩⟩
  · obtain ⟨b, off, rfl⟩ := hl0.addr (by rw [hn]; exact hpos)
    clear hl0 hn
    go_enter Try.func81, Try.ntmps81
    go_wp2_with fail
    go_loopw [5, 8] (fun _ i wr => ∃ j : Nat, j ≤ n ∧ i = .int .i64 j ∧ Hid (∀ i, i < j → P i = false) ∧ Hid (w.grownBy wr none) ∧ Hid (Inv j wr)) (fun _ i _ => n - (intOf i).toNat)
    case atStart => exact ⟨0, Nat.zero_le _, rfl, by show ∀ _, _; omega, grown_refl _ _, H0⟩
    case round =>
      obtain ⟨j, hj, rfl, hno, hgr, hinv⟩ := hrel
      by_cases hlt : j < n
      · obtain ⟨r, hr⟩ : ∃ r, rs[j]? = some r := ⟨rs[j]'(by rw [Hd.out]; exact hlt), List.getElem?_eq_getElem _⟩
        obtain ⟨vs, hvs, hcl⟩ := ((Asks.rows HA.out j wr hinv.out).el hr).vals
        have HC := Asks.go HA.out j r wr vs hr hinv.out hvs ⟨b, off, rfl, hcl⟩
        have hlen : vs.length = 3 := (hvs.len).trans (Asks.each HA.out r (List.mem_of_getElem? hr))
        obtain ⟨v0, v1, v2, rfl⟩ : ∃ v0 v1 v2, vs = [v0, v1, v2] := by
          match vs, hlen with
          | [v0, v1, v2], _ => exact ⟨v0, v1, v2, rfl⟩
        clear hlen hvs hr
        have q0 : wr.cell? ⟨b, off + j * 3, none⟩ = some v0 := hcl 0 _ rfl
        have q1 : wr.cell? ⟨b, off + j * 3 + 1, none⟩ = some v1 := hcl 1 _ rfl
        have q2 : wr.cell? ⟨b, off + j * 3 + 2, none⟩ = some v2 := hcl 2 _ rfl
        clear hcl
        simp only [agg] at HC
        go_wp2_with fail
        rw [hC, Oper.upon_enter]
        refine HC.mono ?_
        rintro e w2 ⟨rfl, hg2, hn2, hy2⟩
        have hgw : Hid (w.grownBy w2 none) := grown_trans hgr.out hg2
        have HNx : Hid (P j = false → Inv (j + 1) w2) := hn2
        clear q0 q1 q2 hg2 HC hn2 hy2
        by_cases he : P j = true
        · rw [he]
          have HS : Hid (P j = true) := he
          clear he
          go_wp2_with fail
          go_ret
          exact ⟨_, rfl, hgw.out, .inl ⟨j, rfl, hlt, HS.out, hno.out⟩⟩
        · have he := Bool.not_eq_true _ ▸ he
          rw [he]
          have HS : Hid (P j = false) := he
          clear he
          go_wp2_with fail
          go_roundw
          case rel => exact ⟨j + 1, by omega, by go_num, (show ∀ i, i < j + 1 → P i = false from fun i hi => (Nat.lt_or_ge i j).elim (fun h => hno.out i h) (fun h => (show j = i by omega) ▸ HS.out)), hgw, HNx.out HS.out⟩
          case measure => simp [intOf]; omega
      · have : j = n := by omega
        subst this
        go_wp2_with fail
        go_ret
        exact ⟨_, rfl, hgr.out, .inr ⟨rfl, hno.out⟩⟩

set_option maxHeartbeats 1000000 in
theorem placeExport (hE1 : Ent 82) (a : Option Addr) (c : Nat) (l : List Xp) (n : Nat) (a2 : Option Addr) (n2 c2 : Nat) (l2 : List Int) (w : World) (hn : l.length = n)
    (h : LRow w a c 3 (l.map Xp.fl)) (h2 : BRow w a2 n2 l2) :
    Calls Try.prog 57 #[.slice a n c, .func (.func 58) #[] #[], .slice a2 n2 c2] w fun e w' => e = .returned (.int .i64 (intO (l.findIdx? fun y => decide (y.name = l2)))) ∧ w.grownBy w' none := by
  have y0 := grown_alloc w (.cells #[.func (.func 58) #[] #[]] 95 (0, 0)) none
  have x1 := cell_new w 95 #[.func (.func 58) #[] #[]] 0 _ rfl
  have y1 := grown_alloc (w.alloc (.cells #[.func (.func 58) #[] #[]] 95 (0, 0))) (.cells #[.slice a2 n2 c2] 38 (0, 0)) none
  have x2 := cell_new (w.alloc (.cells #[.func (.func 58) #[] #[]] 95 (0, 0))) 38 #[.slice a2 n2 c2] 0 _ rfl
  rw [show (w.alloc (.cells #[.func (.func 58) #[] #[]] 95 (0, 0))).heap.size = w.heap.size + 1 by simp] at x2
  replace x1 := cell_on x1 (below_grown y1)
  have hb := below_grown (grown_trans y0 y1)
  replace h := h.below hb
  replace h2 := h2.below hb
  have yy := grown_trans y0 y1
  clear y0 y1
  have HC : Calls Try.prog 81 #[.slice a n c, .func (.func 82) #[] #[.pointer (some ⟨w.heap.size, 0, none⟩), .pointer (some ⟨w.heap.size + 1, 0, none⟩)]] ((w.alloc (.cells #[.func (.func 58) #[] #[]] 95 (0, 0))).alloc (.cells #[.slice a2 n2 c2] 38 (0, 0))) fun e w' => e = .returned (.int .i64 (intO (l.findIdx? fun y => decide (y.name = l2)))) ∧ ((w.alloc (.cells #[.func (.func 58) #[] #[]] 95 (0, 0))).alloc (.cells #[.slice a2 n2 c2] 38 (0, 0))).grownBy w' none := by
    generalize ((w.alloc (.cells #[.func (.func 58) #[] #[]] 95 (0, 0))).alloc (.cells #[.slice a2 n2 c2] 38 (0, 0))) = W at *
    refine (indexAtExport 82 _ a n c (l.map Xp.fl) (fun j => decide ((l[j]?.getD ⟨[], 0, 0⟩).name = l2)) (fun _ wr => Below W.heap.size W wr) (fun _ _ => True) W ⟨hE1, fun j wr hi => h.below hi, ?_, ?_⟩ (by simpa using hn) (Below.refl _ _)).mono ?_
    · intro r hr
      obtain ⟨x, _, rfl⟩ := List.mem_map.1 hr
      rfl
    · intro j r wr vs hr hi hvs _
      rw [List.getElem?_map] at hr
      obtain ⟨x, hx, rfl⟩ := Option.map_eq_some_iff.1 hr
      rw [hx]
      obtain ⟨y0, us, rfl, ⟨a0, c0, rfl, hb0, _⟩, y1, us1, rfl, _, y2, us2, rfl, _, rfl⟩ := hvs
      refine (hasOneExport a0 x.name.length c0 x.name y1 y2 w.heap.size (w.heap.size + 1) a2 n2 c2 l2 wr hb0 (h2.below hi) (cell_on x1 hi) (cell_on x2 hi)).mono ?_
      rintro e w' ⟨rfl, hg⟩
      exact ⟨rfl, hg, fun _ => hi.trans ((below_grown hg).mono hi.size), fun _ => trivial⟩
    · rintro e w' ⟨r, rfl, hg, ht⟩
      refine ⟨ret_int ?_, hg⟩
      rcases ht with ⟨j, rfl, hj, hp, hno⟩ | ⟨rfl, hno⟩
      · have hjl : l[j]? = some l[j] := List.getElem?_eq_getElem (by omega)
        rw [find_hit hjl (by simp only [hjl, Option.getD_some] at hp; exact hp) (fun i y hi hy => by have := hno i hi; simp only [hy, Option.getD_some] at this; exact this)]
        rfl
      · rw [find_no (fun i y hy => by have := hno i (by have := (List.getElem?_eq_some_iff.1 hy).1; omega); simp only [hy, Option.getD_some] at this; exact this)]
        rfl
  clear h h2 hb
  go_enter Try.func57, Try.ntmps57
  go_upto_region 1 with fail
  generalize ((w.alloc (.cells #[.func (.func 58) #[] #[]] 95 (0, 0))).alloc (.cells #[.slice a2 n2 c2] 38 (0, 0))) = W at *
  go_wp2_with fail
  refine HC.mono ?_
  rintro e w3 ⟨rfl, hg⟩
  go_wp2_with fail
  go_ret
  exact ⟨rfl, grown_trans yy hg⟩

theorem entX : Ent 82 := ent_of Try.func82 (by kernel_rfl) rfl
theorem entO : Ent 85 := ent_of Try.func85 (by kernel_rfl) rfl

set_option maxHeartbeats 4000000 in
theorem exportPlaceC (o : Oj) (v0 v1 v2 v3 v4 : Value) (w : World) (h : RdVals w o.fl [v0, v1, v2, v3, v4]) (hu : ∀ (i : Nat) (y : Xp), o.ex[i]? = some y → ∀ (j : Nat) (z : Xp), j < i → o.ex[j]? = some z → z.name ≠ y.name) (a : Option Addr) (k c : Nat) (x : List Int) (hx : BRow w a k x) (p : Int) :
    Calls Try.prog 26 #[.agg #[v0, v1, v2, v3, v4], .slice a k c, .int .i64 p] w fun e w' => e = .returned (.int .i64 (intO (findX o x p))) ∧ w.grownBy w' none := by
  obtain ⟨a0, c0, a1, c1, a2, c2, a4, c4, rfl, rfl, rfl, rfl, rfl, _, hL, _⟩ := objShape h
  have hn9 := hL.len9
  rw [List.length_map] at hn9
  obtain ⟨n, hN⟩ : ∃ z, z = o.ex.length := ⟨_, rfl⟩
  have HN : Hid (o.ex.length = n) := hN.symm
  rw [← hN] at hn9 ⊢
  have HL : Hid (LRow w a1 c1 3 (o.ex.map Xp.fl)) := hL
  have HF : Hid _ := findX_of hu x p
  generalize o.name.length = n0 at *
  generalize o.im.length = n2 at *
  generalize o.code.length = n4 at *
  generalize o.data = d3 at *
  have x0 := Blk.new w 47 [.slice a0 n0 c0, .slice a1 n c1, .slice a2 n2 c2, .int .i64 d3, .slice a4 n4 c4]
  have y0 := grown_alloc w (.cells #[.slice a0 n0 c0, .slice a1 n c1, .slice a2 n2 c2, .int .i64 d3, .slice a4 n4 c4] 47 (0, 0)) none
  simp only [List.toArray] at x0
  clear h hL hN hu
  go_enter Try.func26, Try.ntmps26
  go_upto_region 1 with fail
  generalize w.alloc (.cells #[.slice a0 n0 c0, .slice a1 n c1, .slice a2 n2 c2, .int .i64 d3, .slice a4 n4 c4] 47 (0, 0)) = w1 at *
  have q1 := x0.cell (i := 1) rfl
  have H1 := placeExport entX a1 c1 o.ex n a k c x w1 HN.out (LRow.below HL.out (below_grown y0)) (hx.below (below_grown y0))
  obtain ⟨fo, hfo⟩ : ∃ z, z = findN o x := ⟨_, rfl⟩
  have HFO : Hid (findN o x = fo) := hfo.symm
  rw [show (o.ex.findIdx? fun y => decide (y.name = x)) = fo from hfo.symm] at H1
  rw [HFO.out] at HF
  clear hx hfo
  go_wp2_with fail
  refine H1.mono ?_
  rintro e w2 ⟨rfl, hg2⟩
  have hg : Hid (w.grownBy w2 none) := grown_trans y0 hg2
  have q1' := cell_on q1 (below_grown hg2)
  clear H1 q1 x0 hg2
  cases fo with
  | none =>
    simp only [intO]
    have HF2 : Hid (findX o x p = none) := HF.out
    clear HF y0
    go_wp2_with fail
    go_ret
    exact ⟨ret_int (by rw [HF2.out]; rfl), hg.out⟩
  | some j =>
    obtain ⟨y, hy, _, _⟩ := find_some HFO.out
    obtain ⟨be, oe, am, cm, rfl, ⟨r0, r1, r2⟩, _⟩ := expCells HL.out hy
    have s1 := cell_on r1 (below_grown hg.out)
    have hjn : j < n := by have := (List.getElem?_eq_some_iff.1 hy).1; rw [HN.out] at this; exact this
    have hj1 : (j : Int) < (n : Int) := by omega
    have hj0 : ¬ ((j : Int) < 0) := by omega
    simp only [intO]
    by_cases hp : y.print = p
    · have hpb : (y.print != p) = false := by simp [hp]
      have HF2 : Hid (findX o x p = some j) := by
        show _ = _
        rw [HF.out]
        simp only [hy, Option.map_some, Option.getD_some]
        rw [if_pos hp]
      clear HF y0 hp hy r0 r1 r2
      go_wp2_with fail
      go_ret
      exact ⟨ret_int (by rw [HF2.out]; rfl), hg.out⟩
    · have hpb : (y.print != p) = true := by simp [hp]
      have HF2 : Hid (findX o x p = none) := by
        show _ = _
        rw [HF.out]
        simp only [hy, Option.map_some, Option.getD_some]
        rw [if_neg hp]
      clear HF y0 hp hy r0 r1 r2
      go_wp2_with fail
      go_ret
      exact ⟨ret_int (by rw [HF2.out]; rfl), hg.out⟩
end Go.Proofs.Ytefciaeajlgheaa

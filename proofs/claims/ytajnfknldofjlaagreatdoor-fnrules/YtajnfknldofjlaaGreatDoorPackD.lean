import Derived.Test.YtajnfknldofjlaaGreatDoorNameImpl
import Derived.Deep.RegionHeld3
import Derived.Test.YtajnfknldofjlaaGreatDoorPackC
namespace Go.Proofs.YtajnfknldofjlaaGreatDoor
open Go.RowKit
set_option linter.unusedVariables false
set_option linter.unusedSimpArgs false
set_option maxRecDepth 100000

/-- The i-th is like none ahead of it. -/
def unl (l : List (List Int)) (i : Nat) : Bool := !((l.take i).any fun y => decide (y = l[i]?.getD []))
def allUnl (l : List (List Int)) : Bool := (List.range l.length).all (unl l)

theorem allUnl_not {l : List (List Int)} {i : Nat} (hi : i < l.length) (h : unl l i = false) : allUnl l = false := by
  unfold allUnl
  rw [List.all_eq_false]
  exact ⟨i, by simpa using hi, by simp [h]⟩
theorem allUnl_yes {l : List (List Int)} (h : ∀ i, i < l.length → unl l i = true) : allUnl l = true := by
  unfold allUnl
  rw [List.all_eq_true]
  exact fun i hi => h i (by simpa using hi)

theorem RdRows.take {w : World} {b k : Nat} : ∀ {rs : List (List Fl)} {off i : Nat}, RdRows w b k off rs → RdRows w b k off (rs.take i) := by
  intro rs
  induction rs with
  | nil => intro off i h; simpa using h
  | cons r rs ih =>
    intro off i h
    cases i with
    | zero => exact trivial
    | succ i => exact ⟨h.1, ih h.2⟩

theorem LRow.take {w : World} {a : Option Addr} {c k : Nat} {rs : List (List Fl)} (h : LRow w a c k rs) (i : Nat) : LRow w a c k (rs.take i) := by
  refine ⟨Nat.le_trans (by simp; omega) h.cap, h.most, h.nil, fun hp => ?_⟩
  obtain ⟨b, off, e, hr⟩ := h.row (by simp at hp; omega)
  exact ⟨b, off, e, hr.take⟩


theorem nameFaceProcC (v0 v1 : Value) (w : World) :
    Calls Tryz.prog 62 #[.agg #[v0, v1]] w fun e w' => e = .returned v0 ∧ w.grownBy w' none := by
  have y0 := grown_alloc w (.cells #[v0, v1] 90 (0, 0)) none
  have q0 := cell_new w 90 #[v0, v1] 0 _ rfl
  go_enter Tryz.func62, Tryz.ntmps62
  go_upto_region 1 with fail
  generalize w.alloc (.cells #[v0, v1] 90 (0, 0)) = w1 at *
  go_wp2_with fail
  go_ret
  exact ⟨rfl, y0⟩

set_option maxHeartbeats 1000000 in
theorem hasOneFaceProc (a0 : Option Addr) (n0 c0 : Nat) (l0 : List Int) (v1 : Value) (g1 g2 : Nat) (a2 : Option Addr) (n2 c2 : Nat) (l2 : List Int) (w : World)
    (h0 : BRow w a0 n0 l0) (h2 : BRow w a2 n2 l2) (x1 : w.cell? ⟨g1, 0, none⟩ = some (.func (.func 62) #[] #[])) (x2 : w.cell? ⟨g2, 0, none⟩ = some (.slice a2 n2 c2)) :
    Calls Tryz.prog 155 #[.agg #[.slice a0 n0 c0, v1], .pointer (some ⟨g1, 0, none⟩), .pointer (some ⟨g2, 0, none⟩)] w fun e w' => e = .returned (.bool (decide (l0 = l2))) ∧ w.grownBy w' none := by
  have y0 := grown_alloc w (.cells #[.slice a0 n0 c0, v1] 90 (0, 0)) none
  have q0 := cell_new w 90 #[.slice a0 n0 c0, v1] 0 _ rfl
  have q1 := cell_new w 90 #[.slice a0 n0 c0, v1] 1 _ rfl
  replace x1 := cell_on x1 (below_grown y0)
  replace x2 := cell_on x2 (below_grown y0)
  replace h0 := h0.below (below_grown y0)
  replace h2 := h2.below (below_grown y0)
  go_enter Tryz.func155, Tryz.ntmps155
  go_upto_region 1 with fail
  generalize w.alloc (.cells #[.slice a0 n0 c0, v1] 90 (0, 0)) = w1 at *
  have HN := nameFaceProcC (.slice a0 n0 c0) v1 w1.drew
  have HS0 : (w1.drew.cell? ⟨g1, 0, none⟩ = some (.func (.func 62) #[] #[]) ∧ w1.drew.cell? ⟨w.heap.size, 0, none⟩ = some (.slice a0 n0 c0) ∧ w1.drew.cell? ⟨w.heap.size, 1, none⟩ = some v1 ∧ w1.drew.cell? ⟨g2, 0, none⟩ = some (.slice a2 n2 c2)) := ⟨x1, q0, q1, x2⟩
  have hbs : ∀ {wl : World}, w1.drew.grownBy wl none → (wl.cell? ⟨g1, 0, none⟩ = some (.func (.func 62) #[] #[]) ∧ wl.cell? ⟨w.heap.size, 0, none⟩ = some (.slice a0 n0 c0) ∧ wl.cell? ⟨w.heap.size, 1, none⟩ = some v1 ∧ wl.cell? ⟨g2, 0, none⟩ = some (.slice a2 n2 c2)) ∧ Calls Tryz.prog 39 #[.slice a0 n0 c0, .slice a2 n2 c2] wl (fun e w' => e = .returned (.bool (decide (l0 = l2))) ∧ w' = wl) := by
    intro wl hg
    have hb : Below w1.drew.heap.size w1.drew wl := below_grown hg
    refine ⟨⟨cell_on HS0.1 hb, cell_on HS0.2.1 hb, cell_on HS0.2.2.1 hb, cell_on HS0.2.2.2 hb⟩, ?_⟩
    exact bytesEqualM a0 n0 c0 l0 a2 n2 c2 l2 wl (BRow.below (w := w1.drew) h0 hb) (BRow.below (w := w1.drew) h2 hb)
  clear h0 h2
  go_region_held3 (fun wx => (wx.cell? ⟨g1, 0, none⟩ = some (.func (.func 62) #[] #[]) ∧ wx.cell? ⟨w.heap.size, 0, none⟩ = some (.slice a0 n0 c0) ∧ wx.cell? ⟨w.heap.size, 1, none⟩ = some v1 ∧ wx.cell? ⟨g2, 0, none⟩ = some (.slice a2 n2 c2))) (first | exact HS0 | exact HSl) (first
    | (go_at_call 62; (with_reducible refine HN.mono ?_); rintro e wl ⟨rfl, hgl⟩; obtain ⟨HSl, HEl⟩ := hbs hgl)
    | (go_at_call 39; (with_reducible refine HEl.mono ?_); rintro e w3 ⟨rfl, rfl⟩))
  go_wp2_with fail
  go_ret
  exact ⟨rfl, grown_trans y0 ⟨hgl.os, hgl.tape, hgl.output, hgl.size, hgl.block⟩⟩

set_option maxHeartbeats 1000000 in
theorem placeFaceProc (hE1 : Ent 155) (a : Option Addr) (c : Nat) (l : List Fp) (n : Nat) (a2 : Option Addr) (n2 c2 : Nat) (l2 : List Int) (w : World) (hn : l.length = n)
    (h : LRow w a c 2 (l.map Fp.fl)) (h2 : BRow w a2 n2 l2) :
    Calls Tryz.prog 133 #[.slice a n c, .func (.func 62) #[] #[], .slice a2 n2 c2] w fun e w' => ∃ r : Int, e = .returned (.int .i64 r) ∧ decide (0 ≤ r) = (l.any fun y => decide (y.name = l2)) ∧ w.grownBy w' none := by
  have y0 := grown_alloc w (.cells #[.func (.func 62) #[] #[]] 109 (0, 0)) none
  have x1 := cell_new w 109 #[.func (.func 62) #[] #[]] 0 _ rfl
  have y1 := grown_alloc (w.alloc (.cells #[.func (.func 62) #[] #[]] 109 (0, 0))) (.cells #[.slice a2 n2 c2] 22 (0, 0)) none
  have x2 := cell_new (w.alloc (.cells #[.func (.func 62) #[] #[]] 109 (0, 0))) 22 #[.slice a2 n2 c2] 0 _ rfl
  rw [show (w.alloc (.cells #[.func (.func 62) #[] #[]] 109 (0, 0))).heap.size = w.heap.size + 1 by simp] at x2
  replace x1 := cell_on x1 (below_grown y1)
  have hb := below_grown (grown_trans y0 y1)
  replace h := h.below hb
  replace h2 := h2.below hb
  have yy := grown_trans y0 y1
  clear y0 y1
  have HC : Calls Tryz.prog 130 #[.slice a n c, .func (.func 155) #[] #[.pointer (some ⟨w.heap.size, 0, none⟩), .pointer (some ⟨w.heap.size + 1, 0, none⟩)]] ((w.alloc (.cells #[.func (.func 62) #[] #[]] 109 (0, 0))).alloc (.cells #[.slice a2 n2 c2] 22 (0, 0))) fun e w' => ∃ r : Int, e = .returned (.int .i64 r) ∧ decide (0 ≤ r) = (l.any fun y => decide (y.name = l2)) ∧ ((w.alloc (.cells #[.func (.func 62) #[] #[]] 109 (0, 0))).alloc (.cells #[.slice a2 n2 c2] 22 (0, 0))).grownBy w' none := by
    generalize ((w.alloc (.cells #[.func (.func 62) #[] #[]] 109 (0, 0))).alloc (.cells #[.slice a2 n2 c2] 22 (0, 0))) = W at *
    refine (indexFaceProc 155 _ none a n c (l.map Fp.fl) (fun j => decide ((l[j]?.getD ⟨[], []⟩).name = l2)) (fun _ wr => Below W.heap.size W wr) (fun _ _ => True) W ⟨hE1, fun j wr hi => h.below hi, ?_, ?_⟩ (by simpa using hn) (Below.refl _ _)).mono ?_
    · intro r hr
      obtain ⟨x, _, rfl⟩ := List.mem_map.1 hr
      rfl
    · intro j r wr vs hr hi hvs _
      rw [List.getElem?_map] at hr
      obtain ⟨x, hx, rfl⟩ := Option.map_eq_some_iff.1 hr
      rw [hx]
      obtain ⟨y0, us, rfl, ⟨a0, c0, rfl, hb0, _⟩, y1, us2, rfl, _, rfl⟩ := hvs
      refine (hasOneFaceProc a0 x.name.length c0 x.name y1 w.heap.size (w.heap.size + 1) a2 n2 c2 l2 wr hb0 (h2.below hi) (cell_on x1 hi) (cell_on x2 hi)).mono ?_
      rintro e w' ⟨rfl, hg⟩
      exact ⟨rfl, hg, fun _ => hi.trans ((below_grown hg).mono hi.size), fun _ => trivial⟩
    · rintro e w' ⟨r, rfl, hg, ht⟩
      refine ⟨r, rfl, ?_, hg⟩
      rw [told_any ht, ← hn]
      exact range_any l ⟨[], []⟩ fun y => decide (y.name = l2)
  clear h h2 hb
  go_enter Tryz.func133, Tryz.ntmps133
  go_upto_region 1 with fail
  generalize ((w.alloc (.cells #[.func (.func 62) #[] #[]] 109 (0, 0))).alloc (.cells #[.slice a2 n2 c2] 22 (0, 0))) = W at *
  go_wp2_with fail
  refine HC.mono ?_
  rintro e w3 ⟨r, rfl, hr, hg⟩
  have HR : Hid (decide (0 ≤ r) = (l.any fun y => decide (y.name = l2))) := hr
  clear hr
  go_wp2_with fail
  go_ret
  exact ⟨r, rfl, HR.out, grown_trans yy hg⟩

set_option maxHeartbeats 1000000 in
theorem hasFaceProc (hE1 : Ent 155) (a : Option Addr) (c : Nat) (l : List Fp) (n : Nat) (a2 : Option Addr) (n2 c2 : Nat) (l2 : List Int) (w : World) (hn : l.length = n)
    (h : LRow w a c 2 (l.map Fp.fl)) (h2 : BRow w a2 n2 l2) :
    Calls Tryz.prog 103 #[.slice a n c, .func (.func 62) #[] #[], .slice a2 n2 c2] w fun e w' => e = .returned (.bool (l.any fun y => decide (y.name = l2))) ∧ w.grownBy w' none := by
  have HC := placeFaceProc hE1 a c l n a2 n2 c2 l2 w hn h h2
  clear h h2 hn
  go_enter Tryz.func103, Tryz.ntmps103
  go_wp2_with fail
  refine HC.mono ?_
  rintro e w3 ⟨r, rfl, hr, hg⟩
  have HR : Hid (decide (0 ≤ r) = (l.any fun y => decide (y.name = l2))) := hr
  clear hr
  go_wp2_with fail
  go_ret
  exact ⟨ret_bool HR.out, hg⟩

set_option maxHeartbeats 4000000 in
theorem unlikeFaceProc (hE1 : Ent 155) (a : Option Addr) (c : Nat) (l : List Fp) (n : Nat) (w : World) (hn : l.length = n) (h : LRow w a c 2 (l.map Fp.fl)) :
    Calls Tryz.prog 61 #[.slice a n c, .func (.func 62) #[] #[]] w fun e w' => e = .returned (.bool (allUnl (l.map Fp.name))) ∧ w.grownBy w' none := by
  have Hd : Hid (l.length = n) := hn
  have hcn : n ≤ 9223372036854775807 := by have h1 := h.cap; have h2 := h.most; unfold maxLen at h2; simp only [List.length_map] at h1; omega
  have hnc : n ≤ c := by have h1 := h.cap; simp only [List.length_map] at h1; omega
  rcases Nat.eq_zero_or_pos n with h0 | hpos
  · subst h0
    have e0 : l = [] := List.eq_nil_of_length_eq_zero Hd.out
    subst e0
    clear h hn
    go_enter Tryz.func61, Tryz.ntmps61
    go_wp2_with fail
    refine wp_loop_rounds 1 ?_
    rw [rounds_succ]
    go_wp2_with fail
    go_ret
    exact ⟨ret_bool (by rfl), grown_refl _ _⟩
  · obtain ⟨b, off, rfl⟩ := h.addr (by simpa using by omega)
    have HL : Hid (LRow w (some ⟨b, off, none⟩) c 2 (l.map Fp.fl)) := h
    clear h hn
    go_enter Tryz.func61, Tryz.ntmps61
    go_wp2_with fail
    go_loopw [5, 6, 9] (fun _ _ i wr => ∃ j : Nat, j ≤ n ∧ i = .int .i64 j ∧ Hid (∀ i, i < j → unl (l.map Fp.name) i = true) ∧ Hid (w.grownBy wr none)) (fun _ _ i _ => n - (intOf i).toNat)
    case atStart => exact ⟨0, Nat.zero_le _, rfl, by show ∀ _, _; omega, grown_refl _ _⟩
    case round =>
      obtain ⟨j, hj, rfl, hno, hgr⟩ := hrel
      by_cases hlt : j < n
      · have hlt2 : j < l.length := by rw [Hd.out]; exact hlt
        have hxj : (l.map Fp.fl)[j]? = some (Fp.fl l[j]) := by simp [hlt2]
        have hnm : Hid ((l.map Fp.name)[j]?.getD [] = l[j].name) := by show _ = _; simp [hlt2]
        generalize l[j] = x at hxj hnm
        have hbr := below_grown hgr.out
        obtain ⟨vs, hvs, hcl⟩ := (LRow.el HL.out hxj).vals
        obtain ⟨y0, us, rfl, ⟨a0, c0, rfl, hx0, _⟩, y1, us2, rfl, ⟨a1, c1, rfl, _⟩, rfl⟩ := hvs
        replace hcl : ∀ i v, _ → _ := fun i v hv => cell_on (hcl i v hv) hbr
        have q0 : wr.cell? ⟨b, off + j * 2, none⟩ = some (.slice a0 x.name.length c0) := hcl 0 _ rfl
        obtain ⟨n1, q1⟩ : ∃ n1, wr.cell? ⟨b, off + j * 2 + 1, none⟩ = some (.slice a1 n1 c1) := ⟨_, hcl 1 _ rfl⟩
        clear hcl hxj
        have hlz : (l.take j).length = j := by simp; omega
        have hb0w : BRow w a0 x.name.length x.name := hx0
        have ht : LRow w (some ⟨b, off, none⟩) c 2 ((l.take j).map Fp.fl) := by rw [List.map_take]; exact LRow.take HL.out j
        have HH : ∀ wl, Below w.heap.size w wl → Calls Tryz.prog 103 #[.slice (some ⟨b, off, none⟩) j c, .func (.func 62) #[] #[], .slice a0 x.name.length c0] wl fun e w' => e = .returned (.bool ((l.take j).any fun y => decide (y.name = x.name))) ∧ wl.grownBy w' none := by
          intro wl hb
          exact hasFaceProc hE1 (some ⟨b, off, none⟩) c (l.take j) j a0 x.name.length c0 x.name wl hlz (ht.below hb) (hb0w.below hb)
        clear ht hlz
        have hgw := grown_trans hgr.out (grown_alloc wr (.cells #[.slice a0 x.name.length c0, .slice a1 n1 c1] 90 (0, 0)) none)
        have o0 := cell_new wr 90 #[.slice a0 x.name.length c0, .slice a1 n1 c1] 0 _ rfl
        have o1 := cell_new wr 90 #[.slice a0 x.name.length c0, .slice a1 n1 c1] 1 _ rfl
        go_upto_region 4 with fail
        generalize wr.alloc (.cells #[.slice a0 x.name.length c0, .slice a1 n1 c1] 90 (0, 0)) = w1 at hgw o0 o1 ⊢
        clear q0 q1 hb0w
        have HN := nameFaceProcC (.slice a0 x.name.length c0) (.slice a1 n1 c1) w1.drew
        have HS0 : (w1.drew.cell? ⟨wr.heap.size, 0, none⟩ = some (.slice a0 x.name.length c0) ∧ w1.drew.cell? ⟨wr.heap.size, 1, none⟩ = some (.slice a1 n1 c1)) := ⟨o0, o1⟩
        have hbs : ∀ {wl : World}, w1.drew.grownBy wl none → (wl.cell? ⟨wr.heap.size, 0, none⟩ = some (.slice a0 x.name.length c0) ∧ wl.cell? ⟨wr.heap.size, 1, none⟩ = some (.slice a1 n1 c1)) ∧ Calls Tryz.prog 103 #[.slice (some ⟨b, off, none⟩) j c, .func (.func 62) #[] #[], .slice a0 x.name.length c0] wl (fun e w' => e = .returned (.bool ((l.take j).any fun y => decide (y.name = x.name))) ∧ w.grownBy w' none ∧ (w'.cell? ⟨wr.heap.size, 0, none⟩ = some (.slice a0 x.name.length c0) ∧ w'.cell? ⟨wr.heap.size, 1, none⟩ = some (.slice a1 n1 c1))) := by
          intro wl hg
          have hb : Below w1.drew.heap.size w1.drew wl := below_grown hg
          have hgl : w.grownBy wl none := grown_trans hgw ⟨hg.os, hg.tape, hg.output, hg.size, hg.block⟩
          refine ⟨⟨cell_on HS0.1 hb, cell_on HS0.2 hb⟩, ?_⟩
          refine (HH wl (below_grown hgl)).mono ?_
          rintro e w' ⟨rfl, h⟩
          exact ⟨rfl, grown_trans hgl h, cell_on (cell_on HS0.1 hb) (below_grown h), cell_on (cell_on HS0.2 hb) (below_grown h)⟩
        clear HH hgw o0 o1
        have hun : Hid (unl (l.map Fp.name) j = !((l.take j).any fun y => decide (y.name = x.name))) := by
          show _ = _
          unfold unl
          rw [hnm.out, ← List.map_take, List.any_map]
          rfl
        generalize ((l.take j).any fun y => decide (y.name = x.name)) = r at hbs hun
        have z0 : (0 : Int) ≤ (j : Int) := by omega
        have z1 : (j : Int) ≤ (c : Int) := by omega
        have z2 : (j : Int) ≤ (n : Int) := by omega
        go_region_held3 (fun wx => (wx.cell? ⟨wr.heap.size, 0, none⟩ = some (.slice a0 x.name.length c0) ∧ wx.cell? ⟨wr.heap.size, 1, none⟩ = some (.slice a1 n1 c1))) (first | exact HS0 | exact HS3 | exact HSl) (first
          | (go_at_call 62; (with_reducible refine HN.mono ?_); rintro e wl ⟨rfl, hgl⟩; obtain ⟨HSl, HEl⟩ := hbs hgl)
          | (go_at_call 103; (with_reducible refine HEl.mono ?_); rintro e w3 ⟨rfl, hg3, HS3⟩))
        have hg3' : Hid (w.grownBy w3 none) := hg3
        clear hg3 HN HS0 hbs
        cases r with
        | true =>
          go_wp2_with fail
          go_ret
          exact ⟨ret_bool (allUnl_not (by simpa [Hd.out] using hlt) (by rw [hun.out]; rfl)).symm, hg3'.out⟩
        | false =>
          go_wp2_with fail
          go_roundw
          case rel => exact ⟨j + 1, by omega, by go_num, (show ∀ i, i < j + 1 → unl (l.map Fp.name) i = true from fun i hi => (Nat.lt_or_ge i j).elim (fun h => hno.out i h) (fun h => (show j = i by omega) ▸ (by rw [hun.out]; rfl))), hg3'⟩
          case measure => simp [intOf]; omega
      · have : j = n := by omega
        subst this
        go_wp2_with fail
        go_ret
        exact ⟨ret_bool (allUnl_yes fun i hi => hno.out i (by simpa [Hd.out] using hi)).symm, hgr.out⟩

theorem nameFaceC (v0 v1 : Value) (w : World) :
    Calls Tryz.prog 28 #[.agg #[v0, v1]] w fun e w' => e = .returned v0 ∧ w.grownBy w' none := by
  have y0 := grown_alloc w (.cells #[v0, v1] 72 (0, 0)) none
  have q0 := cell_new w 72 #[v0, v1] 0 _ rfl
  go_enter Tryz.func28, Tryz.ntmps28
  go_upto_region 1 with fail
  generalize w.alloc (.cells #[v0, v1] 72 (0, 0)) = w1 at *
  go_wp2_with fail
  go_ret
  exact ⟨rfl, y0⟩

set_option maxHeartbeats 1000000 in
theorem hasOneFace (a0 : Option Addr) (n0 c0 : Nat) (l0 : List Int) (v1 : Value) (g1 g2 : Nat) (a2 : Option Addr) (n2 c2 : Nat) (l2 : List Int) (w : World)
    (h0 : BRow w a0 n0 l0) (h2 : BRow w a2 n2 l2) (x1 : w.cell? ⟨g1, 0, none⟩ = some (.func (.func 28) #[] #[])) (x2 : w.cell? ⟨g2, 0, none⟩ = some (.slice a2 n2 c2)) :
    Calls Tryz.prog 110 #[.agg #[.slice a0 n0 c0, v1], .pointer (some ⟨g1, 0, none⟩), .pointer (some ⟨g2, 0, none⟩)] w fun e w' => e = .returned (.bool (decide (l0 = l2))) ∧ w.grownBy w' none := by
  have y0 := grown_alloc w (.cells #[.slice a0 n0 c0, v1] 72 (0, 0)) none
  have q0 := cell_new w 72 #[.slice a0 n0 c0, v1] 0 _ rfl
  have q1 := cell_new w 72 #[.slice a0 n0 c0, v1] 1 _ rfl
  replace x1 := cell_on x1 (below_grown y0)
  replace x2 := cell_on x2 (below_grown y0)
  replace h0 := h0.below (below_grown y0)
  replace h2 := h2.below (below_grown y0)
  go_enter Tryz.func110, Tryz.ntmps110
  go_upto_region 1 with fail
  generalize w.alloc (.cells #[.slice a0 n0 c0, v1] 72 (0, 0)) = w1 at *
  have HN := nameFaceC (.slice a0 n0 c0) v1 w1.drew
  have HS0 : (w1.drew.cell? ⟨g1, 0, none⟩ = some (.func (.func 28) #[] #[]) ∧ w1.drew.cell? ⟨w.heap.size, 0, none⟩ = some (.slice a0 n0 c0) ∧ w1.drew.cell? ⟨w.heap.size, 1, none⟩ = some v1 ∧ w1.drew.cell? ⟨g2, 0, none⟩ = some (.slice a2 n2 c2)) := ⟨x1, q0, q1, x2⟩
  have hbs : ∀ {wl : World}, w1.drew.grownBy wl none → (wl.cell? ⟨g1, 0, none⟩ = some (.func (.func 28) #[] #[]) ∧ wl.cell? ⟨w.heap.size, 0, none⟩ = some (.slice a0 n0 c0) ∧ wl.cell? ⟨w.heap.size, 1, none⟩ = some v1 ∧ wl.cell? ⟨g2, 0, none⟩ = some (.slice a2 n2 c2)) ∧ Calls Tryz.prog 39 #[.slice a0 n0 c0, .slice a2 n2 c2] wl (fun e w' => e = .returned (.bool (decide (l0 = l2))) ∧ w' = wl) := by
    intro wl hg
    have hb : Below w1.drew.heap.size w1.drew wl := below_grown hg
    refine ⟨⟨cell_on HS0.1 hb, cell_on HS0.2.1 hb, cell_on HS0.2.2.1 hb, cell_on HS0.2.2.2 hb⟩, ?_⟩
    exact bytesEqualM a0 n0 c0 l0 a2 n2 c2 l2 wl (BRow.below (w := w1.drew) h0 hb) (BRow.below (w := w1.drew) h2 hb)
  clear h0 h2
  go_region_held3 (fun wx => (wx.cell? ⟨g1, 0, none⟩ = some (.func (.func 28) #[] #[]) ∧ wx.cell? ⟨w.heap.size, 0, none⟩ = some (.slice a0 n0 c0) ∧ wx.cell? ⟨w.heap.size, 1, none⟩ = some v1 ∧ wx.cell? ⟨g2, 0, none⟩ = some (.slice a2 n2 c2))) (first | exact HS0 | exact HSl) (first
    | (go_at_call 28; (with_reducible refine HN.mono ?_); rintro e wl ⟨rfl, hgl⟩; obtain ⟨HSl, HEl⟩ := hbs hgl)
    | (go_at_call 39; (with_reducible refine HEl.mono ?_); rintro e w3 ⟨rfl, rfl⟩))
  go_wp2_with fail
  go_ret
  exact ⟨rfl, grown_trans y0 ⟨hgl.os, hgl.tape, hgl.output, hgl.size, hgl.block⟩⟩

set_option maxHeartbeats 1000000 in
theorem placeFace (hE1 : Ent 110) (a : Option Addr) (c : Nat) (l : List Fa) (n : Nat) (a2 : Option Addr) (n2 c2 : Nat) (l2 : List Int) (w : World) (hn : l.length = n)
    (h : LRow w a c 2 (l.map Fa.fl)) (h2 : BRow w a2 n2 l2) :
    Calls Tryz.prog 75 #[.slice a n c, .func (.func 28) #[] #[], .slice a2 n2 c2] w fun e w' => ∃ r : Int, e = .returned (.int .i64 r) ∧ decide (0 ≤ r) = (l.any fun y => decide (y.name = l2)) ∧ w.grownBy w' none := by
  have y0 := grown_alloc w (.cells #[.func (.func 28) #[] #[]] 75 (0, 0)) none
  have x1 := cell_new w 75 #[.func (.func 28) #[] #[]] 0 _ rfl
  have y1 := grown_alloc (w.alloc (.cells #[.func (.func 28) #[] #[]] 75 (0, 0))) (.cells #[.slice a2 n2 c2] 22 (0, 0)) none
  have x2 := cell_new (w.alloc (.cells #[.func (.func 28) #[] #[]] 75 (0, 0))) 22 #[.slice a2 n2 c2] 0 _ rfl
  rw [show (w.alloc (.cells #[.func (.func 28) #[] #[]] 75 (0, 0))).heap.size = w.heap.size + 1 by simp] at x2
  replace x1 := cell_on x1 (below_grown y1)
  have hb := below_grown (grown_trans y0 y1)
  replace h := h.below hb
  replace h2 := h2.below hb
  have yy := grown_trans y0 y1
  clear y0 y1
  have HC : Calls Tryz.prog 95 #[.slice a n c, .func (.func 110) #[] #[.pointer (some ⟨w.heap.size, 0, none⟩), .pointer (some ⟨w.heap.size + 1, 0, none⟩)]] ((w.alloc (.cells #[.func (.func 28) #[] #[]] 75 (0, 0))).alloc (.cells #[.slice a2 n2 c2] 22 (0, 0))) fun e w' => ∃ r : Int, e = .returned (.int .i64 r) ∧ decide (0 ≤ r) = (l.any fun y => decide (y.name = l2)) ∧ ((w.alloc (.cells #[.func (.func 28) #[] #[]] 75 (0, 0))).alloc (.cells #[.slice a2 n2 c2] 22 (0, 0))).grownBy w' none := by
    generalize ((w.alloc (.cells #[.func (.func 28) #[] #[]] 75 (0, 0))).alloc (.cells #[.slice a2 n2 c2] 22 (0, 0))) = W at *
    refine (indexFace 110 _ none a n c (l.map Fa.fl) (fun j => decide ((l[j]?.getD ⟨[], []⟩).name = l2)) (fun _ wr => Below W.heap.size W wr) (fun _ _ => True) W ⟨hE1, fun j wr hi => h.below hi, ?_, ?_⟩ (by simpa using hn) (Below.refl _ _)).mono ?_
    · intro r hr
      obtain ⟨x, _, rfl⟩ := List.mem_map.1 hr
      rfl
    · intro j r wr vs hr hi hvs _
      rw [List.getElem?_map] at hr
      obtain ⟨x, hx, rfl⟩ := Option.map_eq_some_iff.1 hr
      rw [hx]
      obtain ⟨y0, us, rfl, ⟨a0, c0, rfl, hb0, _⟩, y1, us2, rfl, _, rfl⟩ := hvs
      refine (hasOneFace a0 x.name.length c0 x.name y1 w.heap.size (w.heap.size + 1) a2 n2 c2 l2 wr hb0 (h2.below hi) (cell_on x1 hi) (cell_on x2 hi)).mono ?_
      rintro e w' ⟨rfl, hg⟩
      exact ⟨rfl, hg, fun _ => hi.trans ((below_grown hg).mono hi.size), fun _ => trivial⟩
    · rintro e w' ⟨r, rfl, hg, ht⟩
      refine ⟨r, rfl, ?_, hg⟩
      rw [told_any ht, ← hn]
      exact range_any l ⟨[], []⟩ fun y => decide (y.name = l2)
  clear h h2 hb
  go_enter Tryz.func75, Tryz.ntmps75
  go_upto_region 1 with fail
  generalize ((w.alloc (.cells #[.func (.func 28) #[] #[]] 75 (0, 0))).alloc (.cells #[.slice a2 n2 c2] 22 (0, 0))) = W at *
  go_wp2_with fail
  refine HC.mono ?_
  rintro e w3 ⟨r, rfl, hr, hg⟩
  have HR : Hid (decide (0 ≤ r) = (l.any fun y => decide (y.name = l2))) := hr
  clear hr
  go_wp2_with fail
  go_ret
  exact ⟨r, rfl, HR.out, grown_trans yy hg⟩

set_option maxHeartbeats 1000000 in
theorem hasFace (hE1 : Ent 110) (a : Option Addr) (c : Nat) (l : List Fa) (n : Nat) (a2 : Option Addr) (n2 c2 : Nat) (l2 : List Int) (w : World) (hn : l.length = n)
    (h : LRow w a c 2 (l.map Fa.fl)) (h2 : BRow w a2 n2 l2) :
    Calls Tryz.prog 41 #[.slice a n c, .func (.func 28) #[] #[], .slice a2 n2 c2] w fun e w' => e = .returned (.bool (l.any fun y => decide (y.name = l2))) ∧ w.grownBy w' none := by
  have HC := placeFace hE1 a c l n a2 n2 c2 l2 w hn h h2
  clear h h2 hn
  go_enter Tryz.func41, Tryz.ntmps41
  go_wp2_with fail
  refine HC.mono ?_
  rintro e w3 ⟨r, rfl, hr, hg⟩
  have HR : Hid (decide (0 ≤ r) = (l.any fun y => decide (y.name = l2))) := hr
  clear hr
  go_wp2_with fail
  go_ret
  exact ⟨ret_bool HR.out, hg⟩

set_option maxHeartbeats 4000000 in
theorem unlikeFace (hE1 : Ent 110) (a : Option Addr) (c : Nat) (l : List Fa) (n : Nat) (w : World) (hn : l.length = n) (h : LRow w a c 2 (l.map Fa.fl)) :
    Calls Tryz.prog 27 #[.slice a n c, .func (.func 28) #[] #[]] w fun e w' => e = .returned (.bool (allUnl (l.map Fa.name))) ∧ w.grownBy w' none := by
  have Hd : Hid (l.length = n) := hn
  have hcn : n ≤ 9223372036854775807 := by have h1 := h.cap; have h2 := h.most; unfold maxLen at h2; simp only [List.length_map] at h1; omega
  have hnc : n ≤ c := by have h1 := h.cap; simp only [List.length_map] at h1; omega
  rcases Nat.eq_zero_or_pos n with h0 | hpos
  · subst h0
    have e0 : l = [] := List.eq_nil_of_length_eq_zero Hd.out
    subst e0
    clear h hn
    go_enter Tryz.func27, Tryz.ntmps27
    go_wp2_with fail
    refine wp_loop_rounds 1 ?_
    rw [rounds_succ]
    go_wp2_with fail
    go_ret
    exact ⟨ret_bool (by rfl), grown_refl _ _⟩
  · obtain ⟨b, off, rfl⟩ := h.addr (by simpa using by omega)
    have HL : Hid (LRow w (some ⟨b, off, none⟩) c 2 (l.map Fa.fl)) := h
    clear h hn
    go_enter Tryz.func27, Tryz.ntmps27
    go_wp2_with fail
    go_loopw [5, 6, 9] (fun _ _ i wr => ∃ j : Nat, j ≤ n ∧ i = .int .i64 j ∧ Hid (∀ i, i < j → unl (l.map Fa.name) i = true) ∧ Hid (w.grownBy wr none)) (fun _ _ i _ => n - (intOf i).toNat)
    case atStart => exact ⟨0, Nat.zero_le _, rfl, by show ∀ _, _; omega, grown_refl _ _⟩
    case round =>
      obtain ⟨j, hj, rfl, hno, hgr⟩ := hrel
      by_cases hlt : j < n
      · have hlt2 : j < l.length := by rw [Hd.out]; exact hlt
        have hxj : (l.map Fa.fl)[j]? = some (Fa.fl l[j]) := by simp [hlt2]
        have hnm : Hid ((l.map Fa.name)[j]?.getD [] = l[j].name) := by show _ = _; simp [hlt2]
        generalize l[j] = x at hxj hnm
        have hbr := below_grown hgr.out
        obtain ⟨vs, hvs, hcl⟩ := (LRow.el HL.out hxj).vals
        obtain ⟨y0, us, rfl, ⟨a0, c0, rfl, hx0, _⟩, y1, us2, rfl, ⟨a1, c1, rfl, _⟩, rfl⟩ := hvs
        replace hcl : ∀ i v, _ → _ := fun i v hv => cell_on (hcl i v hv) hbr
        have q0 : wr.cell? ⟨b, off + j * 2, none⟩ = some (.slice a0 x.name.length c0) := hcl 0 _ rfl
        obtain ⟨n1, q1⟩ : ∃ n1, wr.cell? ⟨b, off + j * 2 + 1, none⟩ = some (.slice a1 n1 c1) := ⟨_, hcl 1 _ rfl⟩
        clear hcl hxj
        have hlz : (l.take j).length = j := by simp; omega
        have hb0w : BRow w a0 x.name.length x.name := hx0
        have ht : LRow w (some ⟨b, off, none⟩) c 2 ((l.take j).map Fa.fl) := by rw [List.map_take]; exact LRow.take HL.out j
        have HH : ∀ wl, Below w.heap.size w wl → Calls Tryz.prog 41 #[.slice (some ⟨b, off, none⟩) j c, .func (.func 28) #[] #[], .slice a0 x.name.length c0] wl fun e w' => e = .returned (.bool ((l.take j).any fun y => decide (y.name = x.name))) ∧ wl.grownBy w' none := by
          intro wl hb
          exact hasFace hE1 (some ⟨b, off, none⟩) c (l.take j) j a0 x.name.length c0 x.name wl hlz (ht.below hb) (hb0w.below hb)
        clear ht hlz
        have hgw := grown_trans hgr.out (grown_alloc wr (.cells #[.slice a0 x.name.length c0, .slice a1 n1 c1] 72 (0, 0)) none)
        have o0 := cell_new wr 72 #[.slice a0 x.name.length c0, .slice a1 n1 c1] 0 _ rfl
        have o1 := cell_new wr 72 #[.slice a0 x.name.length c0, .slice a1 n1 c1] 1 _ rfl
        go_upto_region 4 with fail
        generalize wr.alloc (.cells #[.slice a0 x.name.length c0, .slice a1 n1 c1] 72 (0, 0)) = w1 at hgw o0 o1 ⊢
        clear q0 q1 hb0w
        have HN := nameFaceC (.slice a0 x.name.length c0) (.slice a1 n1 c1) w1.drew
        have HS0 : (w1.drew.cell? ⟨wr.heap.size, 0, none⟩ = some (.slice a0 x.name.length c0) ∧ w1.drew.cell? ⟨wr.heap.size, 1, none⟩ = some (.slice a1 n1 c1)) := ⟨o0, o1⟩
        have hbs : ∀ {wl : World}, w1.drew.grownBy wl none → (wl.cell? ⟨wr.heap.size, 0, none⟩ = some (.slice a0 x.name.length c0) ∧ wl.cell? ⟨wr.heap.size, 1, none⟩ = some (.slice a1 n1 c1)) ∧ Calls Tryz.prog 41 #[.slice (some ⟨b, off, none⟩) j c, .func (.func 28) #[] #[], .slice a0 x.name.length c0] wl (fun e w' => e = .returned (.bool ((l.take j).any fun y => decide (y.name = x.name))) ∧ w.grownBy w' none ∧ (w'.cell? ⟨wr.heap.size, 0, none⟩ = some (.slice a0 x.name.length c0) ∧ w'.cell? ⟨wr.heap.size, 1, none⟩ = some (.slice a1 n1 c1))) := by
          intro wl hg
          have hb : Below w1.drew.heap.size w1.drew wl := below_grown hg
          have hgl : w.grownBy wl none := grown_trans hgw ⟨hg.os, hg.tape, hg.output, hg.size, hg.block⟩
          refine ⟨⟨cell_on HS0.1 hb, cell_on HS0.2 hb⟩, ?_⟩
          refine (HH wl (below_grown hgl)).mono ?_
          rintro e w' ⟨rfl, h⟩
          exact ⟨rfl, grown_trans hgl h, cell_on (cell_on HS0.1 hb) (below_grown h), cell_on (cell_on HS0.2 hb) (below_grown h)⟩
        clear HH hgw o0 o1
        have hun : Hid (unl (l.map Fa.name) j = !((l.take j).any fun y => decide (y.name = x.name))) := by
          show _ = _
          unfold unl
          rw [hnm.out, ← List.map_take, List.any_map]
          rfl
        generalize ((l.take j).any fun y => decide (y.name = x.name)) = r at hbs hun
        have z0 : (0 : Int) ≤ (j : Int) := by omega
        have z1 : (j : Int) ≤ (c : Int) := by omega
        have z2 : (j : Int) ≤ (n : Int) := by omega
        go_region_held3 (fun wx => (wx.cell? ⟨wr.heap.size, 0, none⟩ = some (.slice a0 x.name.length c0) ∧ wx.cell? ⟨wr.heap.size, 1, none⟩ = some (.slice a1 n1 c1))) (first | exact HS0 | exact HS3 | exact HSl) (first
          | (go_at_call 28; (with_reducible refine HN.mono ?_); rintro e wl ⟨rfl, hgl⟩; obtain ⟨HSl, HEl⟩ := hbs hgl)
          | (go_at_call 41; (with_reducible refine HEl.mono ?_); rintro e w3 ⟨rfl, hg3, HS3⟩))
        have hg3' : Hid (w.grownBy w3 none) := hg3
        clear hg3 HN HS0 hbs
        cases r with
        | true =>
          go_wp2_with fail
          go_ret
          exact ⟨ret_bool (allUnl_not (by simpa [Hd.out] using hlt) (by rw [hun.out]; rfl)).symm, hg3'.out⟩
        | false =>
          go_wp2_with fail
          go_roundw
          case rel => exact ⟨j + 1, by omega, by go_num, (show ∀ i, i < j + 1 → unl (l.map Fa.name) i = true from fun i hi => (Nat.lt_or_ge i j).elim (fun h => hno.out i h) (fun h => (show j = i by omega) ▸ (by rw [hun.out]; rfl))), hg3'⟩
          case measure => simp [intOf]; omega
      · have : j = n := by omega
        subst this
        go_wp2_with fail
        go_ret
        exact ⟨ret_bool (allUnl_yes fun i hi => hno.out i (by simpa [Hd.out] using hi)).symm, hgr.out⟩


def isKd (x : Int) : Bool := decide (0 ≤ x) && decide (x ≤ 1)
def fpOk (q : Fp) : Bool := nameOk q.name false && decide (q.kinds.length ≤ 4) && q.kinds.all isKd
def faOk (f : Fa) : Bool := nameOk f.name true && decide (f.procs.length ≤ 8) && f.procs.all fpOk && allUnl (f.procs.map Fp.name)

def nums (l : List Int) : List (List Fl) := l.map fun x => [.n x]

theorem nums_rows {w : World} {b : Nat} : ∀ {l : List Int} {off : Nat}, (∀ i, i < l.length → w.cell? ⟨b, off + i, none⟩ = some (.int .i64 (l[i]?.getD 0))) → RdRows w b 1 off (nums l) := by
  intro l
  induction l with
  | nil => intro off h; exact trivial
  | cons x l ih =>
    intro off h
    refine ⟨⟨⟨_, by have := h 0 (by simp); simpa using this, rfl⟩, trivial⟩, ih fun i hi => ?_⟩
    have := h (i + 1) (by simpa using hi)
    rw [show off + (i + 1) = off + 1 + i by omega] at this
    simpa using this

theorem NRow.lrow {w : World} {a : Option Addr} {c : Nat} {l : List Int} (h : NRow w a l.length l) (hc : l.length ≤ c) (hm : c ≤ maxLen) (hz : a = none → c = 0) : LRow w a c 1 (nums l) := by
  refine ⟨by simpa [nums] using hc, hm, hz, fun hp => ?_⟩
  obtain ⟨b, off, e, hcl⟩ := h.2.2 (by simpa [nums] using hp)
  exact ⟨b, off, e, nums_rows hcl⟩

theorem isKindC (x : Int) (w : World) : Calls Tryz.prog 102 #[.int .i64 x] w fun e w' => e = .returned (.bool (isKd x)) ∧ w' = w := by
  have H := inRangeC x 0 1 w
  go_enter Tryz.func102, Tryz.ntmps102
  go_wp2_with fail
  refine H.mono ?_
  rintro e w2 ⟨rfl, rfl⟩
  go_wp2_with fail
  go_ret
  exact ⟨rfl, rfl⟩

theorem allKinds (a : Option Addr) (c : Nat) (l : List Int) (w : World) (h : NRow w a l.length l) (hc : l.length ≤ c) (hm : c ≤ maxLen) (hz : a = none → c = 0) :
    Calls Tryz.prog 101 #[.slice a l.length c, .func (.func 102) #[] #[]] w fun e w' => e = .returned (.bool (l.all isKd)) ∧ w.grownBy w' none := by
  refine (allInt 102 #[] none a l.length c (nums l) (fun j => isKd (l[j]?.getD 0)) (fun _ wr => w.grownBy wr none) (fun _ _ => True) w ⟨ent_of Tryz.func102 rfl rfl, fun j wr hi => (h.lrow hc hm hz).below (below_grown hi), ?_, ?_⟩ (by simp [nums]) (grown_refl _ _) (fun j w1 w2 h1 h2 => grown_trans h1 h2) (by simp) (ent_of Tryz.func132 rfl rfl)).mono ?_
  · intro r hr
    obtain ⟨x, _, rfl⟩ := List.mem_map.1 hr
    rfl
  · intro j r wr vs hr hi hvs _
    unfold nums at hr
    rw [List.getElem?_map] at hr
    obtain ⟨x, hx, rfl⟩ := Option.map_eq_some_iff.1 hr
    rw [hx]
    obtain ⟨y0, us, rfl, rfl, rfl⟩ := hvs
    refine (isKindC x wr).mono ?_
    rintro e w' ⟨rfl, rfl⟩
    exact ⟨rfl, grown_refl _ _, fun _ => hi, fun _ => trivial⟩
  · rintro e w' ⟨r, rfl, hg, ht⟩
    refine ⟨ret_bool ?_, hg⟩
    rw [told_all ht]
    exact range_all l 0 isKd

set_option maxHeartbeats 1000000 in
theorem isFormedC (q : Fp) (a0 : Option Addr) (c0 : Nat) (a1 : Option Addr) (c1 : Nat) (w : World) (h0 : BRow w a0 q.name.length q.name) (hn0 : q.name.length ≤ 1073741824) (hc0 : q.name.length ≤ c0) (h1 : NRow w a1 q.kinds.length q.kinds) (hc : q.kinds.length ≤ c1) (hm : c1 ≤ maxLen) (hz : a1 = none → c1 = 0) :
    Calls Tryz.prog 60 #[.agg #[.slice a0 q.name.length c0, .slice a1 q.kinds.length c1]] w fun e w' => e = .returned (.bool (fpOk q)) ∧ w.grownBy w' none := by
  have y0 := grown_alloc w (.cells #[.slice a0 q.name.length c0, .slice a1 q.kinds.length c1] 90 (0, 0)) none
  have q0 := cell_new w 90 #[.slice a0 q.name.length c0, .slice a1 q.kinds.length c1] 0 _ rfl
  have q1 := cell_new w 90 #[.slice a0 q.name.length c0, .slice a1 q.kinds.length c1] 1 _ rfl
  have HN := implNameOk a0 _ c0 q.name false _ (h0.below (below_grown y0)) hn0 hc0
  have HK := allKinds a1 c1 q.kinds _ (h1.below (below_grown y0)) hc hm hz
  have hcn : q.kinds.length ≤ 9223372036854775807 := by unfold maxLen at hm; omega
  have he : Hid (fpOk q = (nameOk q.name false && decide (q.kinds.length ≤ 4) && q.kinds.all isKd)) := rfl
  clear h0 h1
  generalize q.kinds.all isKd = r2 at HK he
  generalize nameOk q.name false = r0 at HN he
  generalize q.name.length = n0 at *
  generalize q.kinds.length = n1 at *
  generalize hr1 : decide (n1 ≤ 4) = r1 at he
  go_enter Tryz.func60, Tryz.ntmps60
  go_upto_region 1 with fail
  generalize w.alloc (.cells #[.slice a0 n0 c0, .slice a1 n1 c1] 90 (0, 0)) = w1 at *
  go_wp2_with fail
  refine HN.mono ?_
  rintro e w2 ⟨rfl, rfl⟩
  clear HN
  cases r0 with
  | false =>
    clear HK
    go_wp2_with fail
    go_ret
    exact ⟨ret_bool (by rw [he.out]; rfl), y0⟩
  | true =>
    by_cases h4 : n1 ≤ 4
    · have h4' : (n1 : Int) ≤ 4 := by omega
      have hr : Hid (r1 = true) := by show _ = _; rw [← hr1]; exact decide_eq_true h4
      clear hr1
      go_wp2_with fail
      refine HK.mono ?_
      rintro e w3 ⟨rfl, hg⟩
      go_wp2_with fail
      go_ret
      exact ⟨ret_bool (by rw [he.out, hr.out]; simp), grown_trans y0 hg⟩
    · have h4' : ¬ (n1 : Int) ≤ 4 := by omega
      have hr : Hid (r1 = false) := by show _ = _; rw [← hr1]; exact decide_eq_false h4
      clear hr1 HK
      go_wp2_with fail
      go_ret
      exact ⟨ret_bool (by rw [he.out, hr.out]; simp), y0⟩

theorem allFormed (a : Option Addr) (c : Nat) (l : List Fp) (w : World) (h : LRow w a c 2 (l.map Fp.fl)) (hs : ∀ q ∈ l, q.name.length ≤ 1073741824) :
    Calls Tryz.prog 59 #[.slice a l.length c, .func (.func 60) #[] #[]] w fun e w' => e = .returned (.bool (l.all fpOk)) ∧ w.grownBy w' none := by
  refine (allFaceProc 60 #[] none a l.length c (l.map Fp.fl) (fun j => fpOk (l[j]?.getD ⟨[], []⟩)) (fun _ wr => w.grownBy wr none) (fun _ _ => True) w ⟨ent_of Tryz.func60 rfl rfl, fun j wr hi => h.below (below_grown hi), ?_, ?_⟩ (by simp) (grown_refl _ _) (fun j w1 w2 h1 h2 => grown_trans h1 h2) (by simp) (ent_of Tryz.func100 rfl rfl)).mono ?_
  · intro r hr
    obtain ⟨x, _, rfl⟩ := List.mem_map.1 hr
    rfl
  · intro j r wr vs hr hi hvs _
    rw [List.getElem?_map] at hr
    obtain ⟨x, hx, rfl⟩ := Option.map_eq_some_iff.1 hr
    rw [hx]
    have hxs := hs x (List.mem_of_getElem? hx)
    obtain ⟨y0, us, rfl, ⟨a0, c0, rfl, hb0, hc0, _⟩, y1, us2, rfl, ⟨a1, c1, rfl, hb1, hc1, hm1, hz1⟩, rfl⟩ := hvs
    refine (isFormedC x a0 c0 a1 c1 wr hb0 hxs hc0 hb1 hc1 hm1 hz1).mono ?_
    rintro e w' ⟨rfl, hg⟩
    exact ⟨rfl, hg, fun _ => grown_trans hi hg, fun _ => trivial⟩
  · rintro e w' ⟨r, rfl, hg, ht⟩
    refine ⟨ret_bool ?_, hg⟩
    rw [told_all ht]
    exact range_all l ⟨[], []⟩ fpOk

set_option maxHeartbeats 1000000 in
theorem implFaceOk (f : Fa) (a0 : Option Addr) (c0 : Nat) (a1 : Option Addr) (c1 : Nat) (w : World) (h0 : BRow w a0 f.name.length f.name) (hn0 : f.name.length ≤ 1073741824) (hc0 : f.name.length ≤ c0) (h1 : LRow w a1 c1 2 (f.procs.map Fp.fl)) (hs : ∀ q ∈ f.procs, q.name.length ≤ 1073741824) :
    Calls Tryz.prog 26 #[.agg #[.slice a0 f.name.length c0, .slice a1 f.procs.length c1]] w fun e w' => e = .returned (.bool (faOk f)) ∧ w.grownBy w' none := by
  have y0 := grown_alloc w (.cells #[.slice a0 f.name.length c0, .slice a1 f.procs.length c1] 72 (0, 0)) none
  have q0 := cell_new w 72 #[.slice a0 f.name.length c0, .slice a1 f.procs.length c1] 0 _ rfl
  have q1 := cell_new w 72 #[.slice a0 f.name.length c0, .slice a1 f.procs.length c1] 1 _ rfl
  have HN := implNameOk a0 _ c0 f.name true _ (h0.below (below_grown y0)) hn0 hc0
  have HK := allFormed a1 c1 f.procs _ (h1.below (below_grown y0)) hs
  have hcn : f.procs.length ≤ 9223372036854775807 := by have h2 := h1.most; have h3 := h1.cap; simp only [List.length_map] at h3; unfold maxLen at h2; omega
  have HU : ∀ w3, w.grownBy w3 none → Calls Tryz.prog 61 #[.slice a1 f.procs.length c1, .func (.func 62) #[] #[]] w3 fun e w' => e = .returned (.bool (allUnl (f.procs.map Fp.name))) ∧ w.grownBy w' none := by
    intro w3 h3
    refine (unlikeFaceProc (ent_of Tryz.func155 rfl rfl) a1 c1 f.procs f.procs.length w3 rfl (h1.below (below_grown h3))).mono ?_
    rintro e w' ⟨rfl, hg⟩
    exact ⟨rfl, grown_trans h3 hg⟩
  have he : Hid (faOk f = (nameOk f.name true && decide (f.procs.length ≤ 8) && f.procs.all fpOk && allUnl (f.procs.map Fp.name))) := rfl
  clear h0 h1 hs
  generalize allUnl (f.procs.map Fp.name) = r3 at HU he
  generalize f.procs.all fpOk = r2 at HK he
  generalize nameOk f.name true = r0 at HN he
  generalize f.name.length = n0 at *
  generalize f.procs.length = n1 at *
  generalize hr1 : decide (n1 ≤ 8) = r1 at he
  go_enter Tryz.func26, Tryz.ntmps26
  go_upto_region 1 with fail
  generalize w.alloc (.cells #[.slice a0 n0 c0, .slice a1 n1 c1] 72 (0, 0)) = w1 at *
  go_wp2_with fail
  refine HN.mono ?_
  rintro e w2 ⟨rfl, rfl⟩
  clear HN
  cases r0 with
  | false =>
    clear HK HU
    go_wp2_with fail
    go_ret
    exact ⟨ret_bool (by rw [he.out]; rfl), y0⟩
  | true =>
    by_cases h4 : n1 ≤ 8
    · have h4' : (n1 : Int) ≤ 8 := by omega
      have hr : Hid (r1 = true) := by show _ = _; rw [← hr1]; exact decide_eq_true h4
      clear hr1
      go_wp2_with fail
      refine HK.mono ?_
      rintro e w3 ⟨rfl, hg⟩
      replace q1 := cell_on q1 (below_grown hg)
      have hgw := grown_trans y0 hg
      clear HK q0 hg
      cases r2 with
      | false =>
        clear HU
        go_wp2_with fail
        go_ret
        exact ⟨ret_bool (by rw [he.out, hr.out]; simp), hgw⟩
      | true =>
        have HU3 := HU w3 hgw
        clear HU
        go_wp2_with fail
        refine HU3.mono ?_
        rintro e w4 ⟨rfl, hg4⟩
        go_wp2_with fail
        go_ret
        exact ⟨ret_bool (by rw [he.out, hr.out]; simp), hg4⟩
    · have h4' : ¬ (n1 : Int) ≤ 8 := by omega
      have hr : Hid (r1 = false) := by show _ = _; rw [← hr1]; exact decide_eq_false h4
      clear hr1 HK HU
      go_wp2_with fail
      go_ret
      exact ⟨ret_bool (by rw [he.out, hr.out]; simp), y0⟩

theorem faOk_name {f : Fa} (h : nameOk f.name true = false) : faOk f = false := by unfold faOk; rw [h]; rfl
theorem faOk_long {f : Fa} (h : 8 < f.procs.length) : faOk f = false := by unfold faOk; rw [decide_eq_false (by omega : ¬ f.procs.length ≤ 8)]; simp
theorem faOk_proc {f : Fa} {j : Nat} {q : Fp} (h : f.procs[j]? = some q) (hq : fpOk q = false) : faOk f = false := by
  have : f.procs.all fpOk = false := by rw [List.all_eq_false]; exact ⟨q, List.mem_of_getElem? h, by simp [hq]⟩
  unfold faOk; rw [this]; simp
theorem faOk_unl {f : Fa} {j : Nat} (hj : j < f.procs.length) (h : unl (f.procs.map Fp.name) j = false) : faOk f = false := by
  unfold faOk; rw [allUnl_not (by simpa using hj) h]; simp
theorem faOk_yes {f : Fa} (h0 : nameOk f.name true = true) (h8 : f.procs.length ≤ 8) (h : ∀ j, j < f.procs.length → unl (f.procs.map Fp.name) j = true ∧ ∀ q, f.procs[j]? = some q → fpOk q = true) : faOk f = true := by
  have h1 : f.procs.all fpOk = true := by
    rw [List.all_eq_true]
    intro q hq
    obtain ⟨j, hj, rfl⟩ := List.mem_iff_getElem.1 hq
    exact (h j hj).2 _ (List.getElem?_eq_getElem hj)
  unfold faOk; rw [h0, h1, decide_eq_true h8, allUnl_yes fun i hi => (h i (by simpa using hi)).1]; rfl

theorem fpOk_name {q : Fp} (h : nameOk q.name false = false) : fpOk q = false := by unfold fpOk; rw [h]; rfl
theorem fpOk_long {q : Fp} (h : 4 < q.kinds.length) : fpOk q = false := by unfold fpOk; rw [decide_eq_false (by omega : ¬ q.kinds.length ≤ 4)]; simp
theorem fpOk_kind {q : Fp} {k : Nat} (hk : k < q.kinds.length) (h : isKd (q.kinds[k]?.getD 0) = false) : fpOk q = false := by
  have : q.kinds.all isKd = false := by
    rw [List.all_eq_false]
    rw [List.getElem?_eq_getElem hk] at h
    exact ⟨_, List.getElem_mem hk, by simpa using h⟩
  unfold fpOk; rw [this]; simp
theorem fpOk_yes {q : Fp} (h0 : nameOk q.name false = true) (h4 : q.kinds.length ≤ 4) (h : ∀ k, k < q.kinds.length → isKd (q.kinds[k]?.getD 0) = true) : fpOk q = true := by
  have h1 : q.kinds.all isKd = true := by rw [← range_all q.kinds 0 isKd, List.all_eq_true]; intro j hj; exact h j (by simpa using hj)
  unfold fpOk; rw [h0, h1, decide_eq_true h4]; rfl

theorem fa_small {f : Fa} (h : recLen f.fl ≤ 1048576) : f.name.length ≤ 1048576 ∧ ∀ q ∈ f.procs, q.name.length ≤ 1048576 := by
  have e : recLen f.fl = f.name.length + ((f.procs.map Fp.fl).length + rowsLen (f.procs.map Fp.fl)) := by simp [Fa.fl, recLen, Fl.len]
  rw [e] at h
  refine ⟨by omega, fun q hq => ?_⟩
  have := recLen_le (List.mem_map_of_mem (f := Fp.fl) hq)
  simp only [Fp.fl, recLen, Fl.len] at this
  omega

theorem implFaceB (f : Fa) (w : World) (vs : List Value) (h : RdVals w f.fl vs) (hs : recLen f.fl ≤ 1048576) :
    Calls Tryz.prog 26 #[.agg vs.toArray] w fun e w' => e = .returned (.bool (faOk f)) ∧ w.grownBy w' none := by
  obtain ⟨y0, us, rfl, ⟨a0, c0, rfl, hb0, hc0, _⟩, y1, us2, rfl, h1, rfl⟩ := h
  obtain ⟨a1, c1, rfl, h2⟩ := h1.list
  obtain ⟨s0, s1⟩ := fa_small hs
  have := implFaceOk f a0 c0 a1 c1 w hb0 (by omega) hc0 h2 (fun q hq => by have := s1 q hq; omega)
  simpa using this

def FsAt (fs : List Fa) (i : Nat) (f : Fa) : Prop := faOk f = true ∧ ix (fs.map Fa.name) f.name = some i
def FsOk (fs : List Fa) : Prop := fs.length ≤ 8 ∧ ∀ i f, fs[i]? = some f → FsAt fs i f
noncomputable def fsB (fs : List Fa) : Bool := @decide (FsOk fs) (Classical.propDecidable _)
theorem fs_no {fs : List Fa} (h : ¬ FsOk fs) : fsB fs = false := by unfold fsB; exact @decide_eq_false _ (Classical.propDecidable _) h
theorem fs_yes {fs : List Fa} (h : FsOk fs) : fsB fs = true := by unfold fsB; exact @decide_eq_true _ (Classical.propDecidable _) h
theorem ixI_ne {l : List (List Int)} {x : List Int} {j : Nat} (h : ¬ ix l x = some j) : (ixI l x != (j : Int)) = true := by
  have : ixI l x ≠ (j : Int) := fun e => h (by
    unfold ixI at e
    split at e
    · rename_i i hi; rw [hi]; congr 1; omega
    · omega)
  simpa using this


def facesB (fs : List Fa) : Bool := decide (fs.length ≤ 8) && fs.all faOk && allUnl (fs.map Fa.name)

theorem allFaces (a : Option Addr) (c : Nat) (l : List Fa) (w : World) (h : LRow w a c 2 (l.map Fa.fl)) (hs : ∀ f ∈ l, f.name.length ≤ 1048576 ∧ ∀ q ∈ f.procs, q.name.length ≤ 1048576) :
    Calls Tryz.prog 25 #[.slice a l.length c, .func (.func 26) #[] #[]] w fun e w' => e = .returned (.bool (l.all faOk)) ∧ w.grownBy w' none := by
  refine (allFace 26 #[] none a l.length c (l.map Fa.fl) (fun j => faOk (l[j]?.getD ⟨[], []⟩)) (fun _ wr => w.grownBy wr none) (fun _ _ => True) w ⟨ent_of Tryz.func26 rfl rfl, fun j wr hi => h.below (below_grown hi), ?_, ?_⟩ (by simp) (grown_refl _ _) (fun j w1 w2 h1 h2 => grown_trans h1 h2) (by simp) (ent_of Tryz.func57 rfl rfl)).mono ?_
  · intro r hr
    obtain ⟨x, _, rfl⟩ := List.mem_map.1 hr
    rfl
  · intro j r wr vs hr hi hvs _
    rw [List.getElem?_map] at hr
    obtain ⟨x, hx, rfl⟩ := Option.map_eq_some_iff.1 hr
    rw [hx]
    have hxs := hs x (List.mem_of_getElem? hx)
    obtain ⟨y0, us, rfl, ⟨a0, c0, rfl, hb0, hc0, _⟩, y1, us2, rfl, h1, rfl⟩ := hvs
    obtain ⟨a1, c1, rfl, hL1⟩ := h1.list
    rw [List.length_map]
    refine (implFaceOk x a0 c0 a1 c1 wr hb0 (by omega) hc0 hL1 (fun q hq => by have := hxs.2 q hq; omega)).mono ?_
    rintro e w' ⟨rfl, hg⟩
    exact ⟨rfl, hg, fun _ => grown_trans hi hg, fun _ => trivial⟩
  · rintro e w' ⟨r, rfl, hg, ht⟩
    refine ⟨ret_bool ?_, hg⟩
    rw [told_all ht]
    exact range_all l ⟨[], []⟩ faOk

set_option maxHeartbeats 1000000 in
theorem facesOkC (l : List Fa) (a : Option Addr) (n c : Nat) (w : World) (hn : l.length = n) (h : LRow w a c 2 (l.map Fa.fl)) (hs : ∀ f ∈ l, f.name.length ≤ 1048576 ∧ ∀ q ∈ f.procs, q.name.length ≤ 1048576) :
    Calls Tryz.prog 11 #[.slice a n c] w fun e w' => e = .returned (.bool (facesB l)) ∧ w.grownBy w' none := by
  subst hn
  have HK := allFaces a c l w h hs
  have hcn : l.length ≤ 9223372036854775807 := by have h2 := h.most; have h3 := h.cap; simp only [List.length_map] at h3; unfold maxLen at h2; omega
  have HU : ∀ w3, w.grownBy w3 none → Calls Tryz.prog 27 #[.slice a l.length c, .func (.func 28) #[] #[]] w3 fun e w' => e = .returned (.bool (allUnl (l.map Fa.name))) ∧ w.grownBy w' none := by
    intro w3 h3
    refine (unlikeFace (ent_of Tryz.func110 rfl rfl) a c l l.length w3 rfl (h.below (below_grown h3))).mono ?_
    rintro e w' ⟨rfl, hg⟩
    exact ⟨rfl, grown_trans h3 hg⟩
  have he : Hid (facesB l = (decide (l.length ≤ 8) && l.all faOk && allUnl (l.map Fa.name))) := rfl
  clear h hs
  generalize allUnl (l.map Fa.name) = r3 at HU he
  generalize l.all faOk = r2 at HK he
  generalize l.length = n1 at *
  generalize hr1 : decide (n1 ≤ 8) = r1 at he
  go_enter Tryz.func11, Tryz.ntmps11
  by_cases h4 : n1 ≤ 8
  · have h4' : (n1 : Int) ≤ 8 := by omega
    have hr : Hid (r1 = true) := by show _ = _; rw [← hr1]; exact decide_eq_true h4
    clear hr1
    go_wp2_with fail
    refine HK.mono ?_
    rintro e w3 ⟨rfl, hg⟩
    clear HK
    cases r2 with
    | false =>
      clear HU
      go_wp2_with fail
      go_ret
      exact ⟨ret_bool (by rw [he.out, hr.out]; simp), hg⟩
    | true =>
      have HU3 := HU w3 hg
      clear HU
      go_wp2_with fail
      refine HU3.mono ?_
      rintro e w4 ⟨rfl, hg4⟩
      go_wp2_with fail
      go_ret
      exact ⟨ret_bool (by rw [he.out, hr.out]; simp), hg4⟩
  · have h4' : ¬ (n1 : Int) ≤ 8 := by omega
    have hr : Hid (r1 = false) := by show _ = _; rw [← hr1]; exact decide_eq_false h4
    clear hr1 HK HU
    go_wp2_with fail
    go_ret
    exact ⟨ret_bool (by rw [he.out, hr.out]; simp), grown_refl _ _⟩
end Go.Proofs.YtajnfknldofjlaaGreatDoor

/- Names that are all unlike: the program's search. By mkunl.py. -/
import Derived.Test.YthkndppigejlaaaAll
import Derived.Test.YthkndppigejlaaaBytesEq
import Derived.Test.YthkndppigejlaaaNameImpl
import Derived.Deep.RegionHeld3
namespace Go.Proofs.Ythkndppigejlaaa
open Go.RowKit
set_option linter.unusedVariables false
set_option linter.unusedSimpArgs false
set_option maxRecDepth 100000

/-- The i-th is like none ahead of it. -/
def unl (l : List (List Int)) (i : Nat) : Bool := !((l.take i).any fun y => decide (y = l[i]?.getD []))
def allUnl (l : List (List Int)) : Bool := (List.range l.length).all (unl l)

theorem allUnl_not {l : List (List Int)} {i : Nat} (hi : i < l.length) (h : unl l i = false) : allUnl l = false := by
  unfold allUnl
  rw [List.all_eq_false]
  exact ⟨i, by simpa using hi, by simp [h]⟩
theorem allUnl_yes {l : List (List Int)} (h : ∀ i, i < l.length → unl l i = true) : allUnl l = true := by
  unfold allUnl
  rw [List.all_eq_true]
  exact fun i hi => h i (by simpa using hi)

theorem RdRows.take {w : World} {b k : Nat} : ∀ {rs : List (List Fl)} {off i : Nat}, RdRows w b k off rs → RdRows w b k off (rs.take i) := by
  intro rs
  induction rs with
  | nil => intro off i h; simpa using h
  | cons r rs ih =>
    intro off i h
    cases i with
    | zero => exact trivial
    | succ i => exact ⟨h.1, ih h.2⟩

theorem LRow.take {w : World} {a : Option Addr} {c k : Nat} {rs : List (List Fl)} (h : LRow w a c k rs) (i : Nat) : LRow w a c k (rs.take i) := by
  refine ⟨Nat.le_trans (by simp; omega) h.cap, h.most, h.nil, fun hp => ?_⟩
  obtain ⟨b, off, e, hr⟩ := h.row (by simp at hp; omega)
  exact ⟨b, off, e, hr.take⟩


theorem nameFaceProcC (v0 v1 : Value) (w : World) :
    Calls Try.prog 18 #[.agg #[v0, v1]] w fun e w' => e = .returned v0 ∧ w.grownBy w' none := by
  have y0 := grown_alloc w (.cells #[v0, v1] 39 (0, 0)) none
  have q0 := cell_new w 39 #[v0, v1] 0 _ rfl
  go_enter Try.func18, Try.ntmps18
  go_upto_region 1 with fail
  generalize w.alloc (.cells #[v0, v1] 39 (0, 0)) = w1 at *
  go_wp2_with fail
  go_ret
  exact ⟨rfl, y0⟩

set_option maxHeartbeats 1000000 in
theorem hasOneFaceProc (a0 : Option Addr) (n0 c0 : Nat) (l0 : List Int) (v1 : Value) (g1 g2 : Nat) (a2 : Option Addr) (n2 c2 : Nat) (l2 : List Int) (w : World)
    (h0 : BRow w a0 n0 l0) (h2 : BRow w a2 n2 l2) (x1 : w.cell? ⟨g1, 0, none⟩ = some (.func (.func 18) #[] #[])) (x2 : w.cell? ⟨g2, 0, none⟩ = some (.slice a2 n2 c2)) :
    Calls Try.prog 41 #[.agg #[.slice a0 n0 c0, v1], .pointer (some ⟨g1, 0, none⟩), .pointer (some ⟨g2, 0, none⟩)] w fun e w' => e = .returned (.bool (decide (l0 = l2))) ∧ w.grownBy w' none := by
  have y0 := grown_alloc w (.cells #[.slice a0 n0 c0, v1] 39 (0, 0)) none
  have q0 := cell_new w 39 #[.slice a0 n0 c0, v1] 0 _ rfl
  have q1 := cell_new w 39 #[.slice a0 n0 c0, v1] 1 _ rfl
  replace x1 := cell_on x1 (below_grown y0)
  replace x2 := cell_on x2 (below_grown y0)
  replace h0 := h0.below (below_grown y0)
  replace h2 := h2.below (below_grown y0)
  go_enter Try.func41, Try.ntmps41
  go_upto_region 1 with fail
  generalize w.alloc (.cells #[.slice a0 n0 c0, v1] 39 (0, 0)) = w1 at *
  have HN := nameFaceProcC (.slice a0 n0 c0) v1 w1.drew
  have HS0 : (w1.drew.cell? ⟨g1, 0, none⟩ = some (.func (.func 18) #[] #[]) ∧ w1.drew.cell? ⟨w.heap.size, 0, none⟩ = some (.slice a0 n0 c0) ∧ w1.drew.cell? ⟨w.heap.size, 1, none⟩ = some v1 ∧ w1.drew.cell? ⟨g2, 0, none⟩ = some (.slice a2 n2 c2)) := ⟨x1, q0, q1, x2⟩
  have hbs : ∀ {wl : World}, w1.drew.grownBy wl none → (wl.cell? ⟨g1, 0, none⟩ = some (.func (.func 18) #[] #[]) ∧ wl.cell? ⟨w.heap.size, 0, none⟩ = some (.slice a0 n0 c0) ∧ wl.cell? ⟨w.heap.size, 1, none⟩ = some v1 ∧ wl.cell? ⟨g2, 0, none⟩ = some (.slice a2 n2 c2)) ∧ Calls Try.prog 42 #[.slice a0 n0 c0, .slice a2 n2 c2] wl (fun e w' => e = .returned (.bool (decide (l0 = l2))) ∧ w' = wl) := by
    intro wl hg
    have hb : Below w1.drew.heap.size w1.drew wl := below_grown hg
    refine ⟨⟨cell_on HS0.1 hb, cell_on HS0.2.1 hb, cell_on HS0.2.2.1 hb, cell_on HS0.2.2.2 hb⟩, ?_⟩
    exact bytesEqualM a0 n0 c0 l0 a2 n2 c2 l2 wl (BRow.below (w := w1.drew) h0 hb) (BRow.below (w := w1.drew) h2 hb)
  clear h0 h2
  go_region_held3 (fun wx => (wx.cell? ⟨g1, 0, none⟩ = some (.func (.func 18) #[] #[]) ∧ wx.cell? ⟨w.heap.size, 0, none⟩ = some (.slice a0 n0 c0) ∧ wx.cell? ⟨w.heap.size, 1, none⟩ = some v1 ∧ wx.cell? ⟨g2, 0, none⟩ = some (.slice a2 n2 c2))) (first | exact HS0 | exact HSl) (first
    | (go_at_call 18; (with_reducible refine HN.mono ?_); rintro e wl ⟨rfl, hgl⟩; obtain ⟨HSl, HEl⟩ := hbs hgl)
    | (go_at_call 42; (with_reducible refine HEl.mono ?_); rintro e w3 ⟨rfl, rfl⟩))
  go_wp2_with fail
  go_ret
  exact ⟨rfl, grown_trans y0 ⟨hgl.os, hgl.tape, hgl.output, hgl.size, hgl.block⟩⟩

set_option maxHeartbeats 1000000 in
theorem placeFaceProc (hE1 : Ent 41) (a : Option Addr) (c : Nat) (l : List Fp) (n : Nat) (a2 : Option Addr) (n2 c2 : Nat) (l2 : List Int) (w : World) (hn : l.length = n)
    (h : LRow w a c 2 (l.map Fp.fl)) (h2 : BRow w a2 n2 l2) :
    Calls Try.prog 38 #[.slice a n c, .func (.func 18) #[] #[], .slice a2 n2 c2] w fun e w' => ∃ r : Int, e = .returned (.int .i64 r) ∧ decide (0 ≤ r) = (l.any fun y => decide (y.name = l2)) ∧ w.grownBy w' none := by
  have y0 := grown_alloc w (.cells #[.func (.func 18) #[] #[]] 46 (0, 0)) none
  have x1 := cell_new w 46 #[.func (.func 18) #[] #[]] 0 _ rfl
  have y1 := grown_alloc (w.alloc (.cells #[.func (.func 18) #[] #[]] 46 (0, 0))) (.cells #[.slice a2 n2 c2] 22 (0, 0)) none
  have x2 := cell_new (w.alloc (.cells #[.func (.func 18) #[] #[]] 46 (0, 0))) 22 #[.slice a2 n2 c2] 0 _ rfl
  rw [show (w.alloc (.cells #[.func (.func 18) #[] #[]] 46 (0, 0))).heap.size = w.heap.size + 1 by simp] at x2
  replace x1 := cell_on x1 (below_grown y1)
  have hb := below_grown (grown_trans y0 y1)
  replace h := h.below hb
  replace h2 := h2.below hb
  have yy := grown_trans y0 y1
  clear y0 y1
  have HC : Calls Try.prog 35 #[.slice a n c, .func (.func 41) #[] #[.pointer (some ⟨w.heap.size, 0, none⟩), .pointer (some ⟨w.heap.size + 1, 0, none⟩)]] ((w.alloc (.cells #[.func (.func 18) #[] #[]] 46 (0, 0))).alloc (.cells #[.slice a2 n2 c2] 22 (0, 0))) fun e w' => ∃ r : Int, e = .returned (.int .i64 r) ∧ decide (0 ≤ r) = (l.any fun y => decide (y.name = l2)) ∧ ((w.alloc (.cells #[.func (.func 18) #[] #[]] 46 (0, 0))).alloc (.cells #[.slice a2 n2 c2] 22 (0, 0))).grownBy w' none := by
    generalize ((w.alloc (.cells #[.func (.func 18) #[] #[]] 46 (0, 0))).alloc (.cells #[.slice a2 n2 c2] 22 (0, 0))) = W at *
    refine (indexFaceProc 41 _ none a n c (l.map Fp.fl) (fun j => decide ((l[j]?.getD ⟨[], []⟩).name = l2)) (fun _ wr => Below W.heap.size W wr) (fun _ _ => True) W ⟨hE1, fun j wr hi => h.below hi, ?_, ?_⟩ (by simpa using hn) (Below.refl _ _)).mono ?_
    · intro r hr
      obtain ⟨x, _, rfl⟩ := List.mem_map.1 hr
      rfl
    · intro j r wr vs hr hi hvs _
      rw [List.getElem?_map] at hr
      obtain ⟨x, hx, rfl⟩ := Option.map_eq_some_iff.1 hr
      rw [hx]
      obtain ⟨y0, us, rfl, ⟨a0, c0, rfl, hb0, _⟩, y1, us2, rfl, _, rfl⟩ := hvs
      refine (hasOneFaceProc a0 x.name.length c0 x.name y1 w.heap.size (w.heap.size + 1) a2 n2 c2 l2 wr hb0 (h2.below hi) (cell_on x1 hi) (cell_on x2 hi)).mono ?_
      rintro e w' ⟨rfl, hg⟩
      exact ⟨rfl, hg, fun _ => hi.trans ((below_grown hg).mono hi.size), fun _ => trivial⟩
    · rintro e w' ⟨r, rfl, hg, ht⟩
      refine ⟨r, rfl, ?_, hg⟩
      rw [told_any ht, ← hn]
      exact range_any l ⟨[], []⟩ fun y => decide (y.name = l2)
  clear h h2 hb
  go_enter Try.func38, Try.ntmps38
  go_upto_region 1 with fail
  generalize ((w.alloc (.cells #[.func (.func 18) #[] #[]] 46 (0, 0))).alloc (.cells #[.slice a2 n2 c2] 22 (0, 0))) = W at *
  go_wp2_with fail
  refine HC.mono ?_
  rintro e w3 ⟨r, rfl, hr, hg⟩
  have HR : Hid (decide (0 ≤ r) = (l.any fun y => decide (y.name = l2))) := hr
  clear hr
  go_wp2_with fail
  go_ret
  exact ⟨r, rfl, HR.out, grown_trans yy hg⟩

set_option maxHeartbeats 1000000 in
theorem hasFaceProc (hE1 : Ent 41) (a : Option Addr) (c : Nat) (l : List Fp) (n : Nat) (a2 : Option Addr) (n2 c2 : Nat) (l2 : List Int) (w : World) (hn : l.length = n)
    (h : LRow w a c 2 (l.map Fp.fl)) (h2 : BRow w a2 n2 l2) :
    Calls Try.prog 31 #[.slice a n c, .func (.func 18) #[] #[], .slice a2 n2 c2] w fun e w' => e = .returned (.bool (l.any fun y => decide (y.name = l2))) ∧ w.grownBy w' none := by
  have HC := placeFaceProc hE1 a c l n a2 n2 c2 l2 w hn h h2
  clear h h2 hn
  go_enter Try.func31, Try.ntmps31
  go_wp2_with fail
  refine HC.mono ?_
  rintro e w3 ⟨r, rfl, hr, hg⟩
  have HR : Hid (decide (0 ≤ r) = (l.any fun y => decide (y.name = l2))) := hr
  clear hr
  go_wp2_with fail
  go_ret
  exact ⟨ret_bool HR.out, hg⟩

set_option maxHeartbeats 4000000 in
theorem unlikeFaceProc (hE1 : Ent 41) (a : Option Addr) (c : Nat) (l : List Fp) (n : Nat) (w : World) (hn : l.length = n) (h : LRow w a c 2 (l.map Fp.fl)) :
    Calls Try.prog 17 #[.slice a n c, .func (.func 18) #[] #[]] w fun e w' => e = .returned (.bool (allUnl (l.map Fp.name))) ∧ w.grownBy w' none := by
  have Hd : Hid (l.length = n) := hn
  have hcn : n ≤ 9223372036854775807 := by have h1 := h.cap; have h2 := h.most; unfold maxLen at h2; simp only [List.length_map] at h1; omega
  have hnc : n ≤ c := by have h1 := h.cap; simp only [List.length_map] at h1; omega
  rcases Nat.eq_zero_or_pos n with h0 | hpos
  · subst h0
    have e0 : l = [] := List.eq_nil_of_length_eq_zero Hd.out
    subst e0
    clear h hn
    go_enter Try.func17, Try.ntmps17
    go_wp2_with fail
    refine wp_loop_rounds 1 ?_
    rw [rounds_succ]
    go_wp2_with fail
    go_ret
    exact ⟨ret_bool (by rfl), grown_refl _ _⟩
  · obtain ⟨b, off, rfl⟩ := h.addr (by simpa using by omega)
    have HL : Hid (LRow w (some ⟨b, off, none⟩) c 2 (l.map Fp.fl)) := h
    clear h hn
    go_enter Try.func17, Try.ntmps17
    go_wp2_with fail
    go_loopw [5, 6, 9] (fun _ _ i wr => ∃ j : Nat, j ≤ n ∧ i = .int .i64 j ∧ Hid (∀ i, i < j → unl (l.map Fp.name) i = true) ∧ Hid (w.grownBy wr none)) (fun _ _ i _ => n - (intOf i).toNat)
    case atStart => exact ⟨0, Nat.zero_le _, rfl, by show ∀ _, _; omega, grown_refl _ _⟩
    case round =>
      obtain ⟨j, hj, rfl, hno, hgr⟩ := hrel
      by_cases hlt : j < n
      · have hlt2 : j < l.length := by rw [Hd.out]; exact hlt
        have hxj : (l.map Fp.fl)[j]? = some (Fp.fl l[j]) := by simp [hlt2]
        have hnm : Hid ((l.map Fp.name)[j]?.getD [] = l[j].name) := by show _ = _; simp [hlt2]
        generalize l[j] = x at hxj hnm
        have hbr := below_grown hgr.out
        obtain ⟨vs, hvs, hcl⟩ := (LRow.el HL.out hxj).vals
        obtain ⟨y0, us, rfl, ⟨a0, c0, rfl, hx0, _⟩, y1, us2, rfl, ⟨a1, c1, rfl, _⟩, rfl⟩ := hvs
        replace hcl : ∀ i v, _ → _ := fun i v hv => cell_on (hcl i v hv) hbr
        have q0 : wr.cell? ⟨b, off + j * 2, none⟩ = some (.slice a0 x.name.length c0) := hcl 0 _ rfl
        obtain ⟨n1, q1⟩ : ∃ n1, wr.cell? ⟨b, off + j * 2 + 1, none⟩ = some (.slice a1 n1 c1) := ⟨_, hcl 1 _ rfl⟩
        clear hcl hxj
        have hlz : (l.take j).length = j := by simp; omega
        have hb0w : BRow w a0 x.name.length x.name := hx0
        have ht : LRow w (some ⟨b, off, none⟩) c 2 ((l.take j).map Fp.fl) := by rw [List.map_take]; exact LRow.take HL.out j
        have HH : ∀ wl, Below w.heap.size w wl → Calls Try.prog 31 #[.slice (some ⟨b, off, none⟩) j c, .func (.func 18) #[] #[], .slice a0 x.name.length c0] wl fun e w' => e = .returned (.bool ((l.take j).any fun y => decide (y.name = x.name))) ∧ wl.grownBy w' none := by
          intro wl hb
          exact hasFaceProc hE1 (some ⟨b, off, none⟩) c (l.take j) j a0 x.name.length c0 x.name wl hlz (ht.below hb) (hb0w.below hb)
        clear ht hlz
        have hgw := grown_trans hgr.out (grown_alloc wr (.cells #[.slice a0 x.name.length c0, .slice a1 n1 c1] 39 (0, 0)) none)
        have o0 := cell_new wr 39 #[.slice a0 x.name.length c0, .slice a1 n1 c1] 0 _ rfl
        have o1 := cell_new wr 39 #[.slice a0 x.name.length c0, .slice a1 n1 c1] 1 _ rfl
        go_upto_region 4 with fail
        generalize wr.alloc (.cells #[.slice a0 x.name.length c0, .slice a1 n1 c1] 39 (0, 0)) = w1 at hgw o0 o1 ⊢
        clear q0 q1 hb0w
        have HN := nameFaceProcC (.slice a0 x.name.length c0) (.slice a1 n1 c1) w1.drew
        have HS0 : (w1.drew.cell? ⟨wr.heap.size, 0, none⟩ = some (.slice a0 x.name.length c0) ∧ w1.drew.cell? ⟨wr.heap.size, 1, none⟩ = some (.slice a1 n1 c1)) := ⟨o0, o1⟩
        have hbs : ∀ {wl : World}, w1.drew.grownBy wl none → (wl.cell? ⟨wr.heap.size, 0, none⟩ = some (.slice a0 x.name.length c0) ∧ wl.cell? ⟨wr.heap.size, 1, none⟩ = some (.slice a1 n1 c1)) ∧ Calls Try.prog 31 #[.slice (some ⟨b, off, none⟩) j c, .func (.func 18) #[] #[], .slice a0 x.name.length c0] wl (fun e w' => e = .returned (.bool ((l.take j).any fun y => decide (y.name = x.name))) ∧ w.grownBy w' none ∧ (w'.cell? ⟨wr.heap.size, 0, none⟩ = some (.slice a0 x.name.length c0) ∧ w'.cell? ⟨wr.heap.size, 1, none⟩ = some (.slice a1 n1 c1))) := by
          intro wl hg
          have hb : Below w1.drew.heap.size w1.drew wl := below_grown hg
          have hgl : w.grownBy wl none := grown_trans hgw ⟨hg.os, hg.tape, hg.output, hg.size, hg.block⟩
          refine ⟨⟨cell_on HS0.1 hb, cell_on HS0.2 hb⟩, ?_⟩
          refine (HH wl (below_grown hgl)).mono ?_
          rintro e w' ⟨rfl, h⟩
          exact ⟨rfl, grown_trans hgl h, cell_on (cell_on HS0.1 hb) (below_grown h), cell_on (cell_on HS0.2 hb) (below_grown h)⟩
        clear HH hgw o0 o1
        have hun : Hid (unl (l.map Fp.name) j = !((l.take j).any fun y => decide (y.name = x.name))) := by
          show _ = _
          unfold unl
          rw [hnm.out, ← List.map_take, List.any_map]
          rfl
        generalize ((l.take j).any fun y => decide (y.name = x.name)) = r at hbs hun
        have z0 : (0 : Int) ≤ (j : Int) := by omega
        have z1 : (j : Int) ≤ (c : Int) := by omega
        have z2 : (j : Int) ≤ (n : Int) := by omega
        go_region_held3 (fun wx => (wx.cell? ⟨wr.heap.size, 0, none⟩ = some (.slice a0 x.name.length c0) ∧ wx.cell? ⟨wr.heap.size, 1, none⟩ = some (.slice a1 n1 c1))) (first | exact HS0 | exact HS3 | exact HSl) (first
          | (go_at_call 18; (with_reducible refine HN.mono ?_); rintro e wl ⟨rfl, hgl⟩; obtain ⟨HSl, HEl⟩ := hbs hgl)
          | (go_at_call 31; (with_reducible refine HEl.mono ?_); rintro e w3 ⟨rfl, hg3, HS3⟩))
        have hg3' : Hid (w.grownBy w3 none) := hg3
        clear hg3 HN HS0 hbs
        cases r with
        | true =>
          go_wp2_with fail
          go_ret
          exact ⟨ret_bool (allUnl_not (by simpa [Hd.out] using hlt) (by rw [hun.out]; rfl)).symm, hg3'.out⟩
        | false =>
          go_wp2_with fail
          go_roundw
          case rel => exact ⟨j + 1, by omega, by go_num, (show ∀ i, i < j + 1 → unl (l.map Fp.name) i = true from fun i hi => (Nat.lt_or_ge i j).elim (fun h => hno.out i h) (fun h => (show j = i by omega) ▸ (by rw [hun.out]; rfl))), hg3'⟩
          case measure => simp [intOf]; omega
      · have : j = n := by omega
        subst this
        go_wp2_with fail
        go_ret
        exact ⟨ret_bool (allUnl_yes fun i hi => hno.out i (by simpa [Hd.out] using hi)).symm, hgr.out⟩


end Go.Proofs.Ythkndppigejlaaa

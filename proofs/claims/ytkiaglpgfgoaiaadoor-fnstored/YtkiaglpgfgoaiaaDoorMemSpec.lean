/- What the specification tells of a memory. -/
import Derived.Test.YtkiaglpgfgoaiaaDoorMemLaw2
import Derived.Test.YtkiaglpgfgoaiaaDoorWords3
namespace Go.Proofs.YtkiaglpgfgoaiaaDoor
open Go.RowKit
set_option linter.unusedVariables false
set_option linter.unusedSimpArgs false

def okW (x : Wd) : Bool := okB x.t x.n x.l x.h x.a x.p x.s
def dataW (x : Wd) : Bool := x.t && (x.s == 0)
/-- May word x stand in a memory of n words? -/
def fitW (n : Nat) (x : Wd) : Bool := okW x && !(dataW x && decide ((n : Int) < x.h))
def memB (l : List Wd) : Bool := decide (l.length ≤ 4000) && l.all (fitW l.length)

theorem memB_no {l : List Wd} {k : Nat} {x : Wd} (hx : l[k]? = some x) (hf : fitW l.length x = false) : memB l = false := by
  rw [memB, Bool.and_eq_false_iff]
  right
  rw [Bool.eq_false_iff]
  intro h
  have := List.all_eq_true.1 h x (List.mem_of_getElem? hx)
  rw [hf] at this
  exact absurd this (by decide)

theorem memB_yes {l : List Wd} {n : Nat} (hl : l.length = n) (h4 : n ≤ 4000) (hf : ∀ j, j < n → ∀ x, l[j]? = some x → fitW n x = true) : memB l = true := by
  rw [memB, hl, Bool.and_eq_true]
  refine ⟨by simpa using h4, List.all_eq_true.2 fun x hx => ?_⟩
  obtain ⟨j, hj, e⟩ := List.mem_iff_getElem.1 hx
  exact hf j (by omega) x (by rw [List.getElem?_eq_getElem hj, e])

theorem fit_next {l : List Wd} {n k : Nat} {x : Wd} (hx : l[k]? = some x) (hf : fitW n x = true) (h : ∀ j, j < k → ∀ x, l[j]? = some x → fitW n x = true) : ∀ j, j < k + 1 → ∀ x, l[j]? = some x → fitW n x = true := by
  intro j hj y hy
  by_cases e : j = k
  · subst e; rw [hx] at hy; obtain rfl := Option.some.inj hy; exact hf
  · exact h j (by omega) y hy

theorem specOkB (xt : Bool) (xn xl xh xa xp xs : Int) (w : World) :
    Calls Tryd.prog 7 #[.agg #[.bool xt, .int .i64 xn, .int .i64 xl, .int .i64 xh, .int .i64 xa, .int .i64 xp, .int .i64 xs]] w fun e w' => e = .returned (.bool (okB xt xn xl xh xa xp xs)) ∧ Below w.heap.size w w' := by
  refine (specOkM xt xn xl xh xa xp xs w).mono ?_
  rintro e w' ⟨rfl, o, d, rfl⟩
  exact ⟨rfl, below_drewN ((Below.refl _ _).alloc (Nat.le_refl _) _) _⟩

theorem dataB (xt : Bool) (xn xl xh xa xp xs : Int) (w : World) :
    Calls Tryd.prog 15 #[.agg #[.bool xt, .int .i64 xn, .int .i64 xl, .int .i64 xh, .int .i64 xa, .int .i64 xp, .int .i64 xs]] w fun e w' => e = .returned (.bool (xt && (xs == 0))) ∧ Below w.heap.size w w' := by
  refine (dataM xt xn xl xh xa xp xs w).mono ?_
  rintro e w' ⟨rfl, rfl⟩
  exact ⟨rfl, (Below.refl _ _).alloc (Nat.le_refl _) _⟩

set_option maxRecDepth 100000 in
set_option maxHeartbeats 4000000 in
theorem specMemM (a : Option Addr) (n c : Nat) (l : List Wd) (w : World) (h : WRow w a n l) (hn : n ≤ 1048576) :
    Calls Tryd.prog 6 #[.agg #[.slice a n c]] w fun e w' => e = .returned (.bool (memB l)) ∧ Below w.heap.size w w' := by
  have hl := h.1
  by_cases hbig : 4000 < n
  · have hR : memB l = false := by simp [memB, hl]; omega
    rw [hR]
    clear hR h hl
    go_enter Tryd.func6, Tryd.ntmps6
    go_wp2_with fail
    go_ret
    exact ⟨rfl, (by repeat (first | exact Below.refl _ _ | assumption | (refine below_drewN ?_ _) | apply Below.drew | (refine Below.alloc ?_ ?_ _) | (refine Below.setCell ?_ ?_ _) | omega | (simp; omega) | simp))⟩
  · rcases Nat.eq_zero_or_pos n with h0 | hpos
    · subst h0
      have hR : memB l = true := by have : l = [] := List.length_eq_zero_iff.1 hl; subst this; rfl
      rw [hR]
      clear hR h hl hbig
      go_enter Tryd.func6, Tryd.ntmps6
      go_wp2_with fail
      refine wp_loop_rounds 1 ?_
      rw [rounds_succ]
      go_wp2_with fail
      go_ret
      exact ⟨rfl, (by repeat (first | exact Below.refl _ _ | assumption | (refine below_drewN ?_ _) | apply Below.drew | (refine Below.alloc ?_ ?_ _) | (refine Below.setCell ?_ ?_ _) | omega | (simp; omega) | simp))⟩
    · obtain ⟨b, off, rfl, hcc⟩ := h.2 hpos
      have HR : Hid (WRow w (some ⟨b, off, none⟩) n l) := h
      have Hl : Hid (l.length = n) := hl
      obtain ⟨r, hr⟩ : ∃ r, r = memB l := ⟨_, rfl⟩
      rw [← hr]
      have HM : Hid _ := hr
      clear h hl hcc hr
      go_enter Tryd.func6, Tryd.ntmps6
      go_wp2_with fail
      have hB0 : Below w.heap.size w (w.alloc (.cells #[.slice (some ⟨b, off, none⟩) n c] 25)) := (by repeat (first | exact Below.refl _ _ | assumption | (refine below_drewN ?_ _) | apply Below.drew | (refine Below.alloc ?_ ?_ _) | (refine Below.setCell ?_ ?_ _) | omega | (simp; omega) | simp))
      have hg0 := heap_alloc_new w (.cells #[.slice (some ⟨b, off, none⟩) n c] 25)
      obtain ⟨g, hg⟩ : ∃ g, g = w.heap.size := ⟨_, rfl⟩
      rw [← hg] at hg0 ⊢
      generalize w.alloc (.cells #[.slice (some ⟨b, off, none⟩) n c] 25) = w0 at *
      clear hg
      go_loopw [3] (fun i wr => ∃ k : Nat, k ≤ n ∧ i = .int .i64 k ∧ Below w0.heap.size w0 wr ∧ Hid (∀ j, j < k → ∀ x, l[j]? = some x → fitW n x = true)) (fun i _ => n - (intOf i).toNat)
      case atStart => exact ⟨0, Nat.zero_le _, rfl, Below.refl _ _, fun j hj => absurd hj (by omega)⟩
      case round =>
        obtain ⟨k, hk, rfl, hbr, hfit⟩ := hrel
        have hbw : Below w.heap.size w wr := hB0.trans (hbr.mono hB0.size)
        have hgb : g < w0.heap.size := (Array.getElem?_eq_some_iff.1 hg0).1
        have hgr := (hbr.block g hgb).trans hg0
        obtain ⟨cg, _⟩ := one_facts hgr
        by_cases hlt : k < n
        · obtain ⟨x, hx, p0, p1, p2, p3, p4, p5, p6⟩ := WRow.el (WRow.below (show WRow w (some ⟨b, off, none⟩) n l from HR.out) hbw) hlt
          have HX : Hid _ := hx
          have HS0 : wr.drew.cell? ⟨g, 0, none⟩ = some (.slice (some ⟨b, off, none⟩) n c) ∧ wr.drew.cell? ⟨b, off + k * 7, none⟩ = some (.bool x.t) ∧ wr.drew.cell? ⟨b, off + k * 7 + 1, none⟩ = some (.int .i64 x.n) ∧ wr.drew.cell? ⟨b, off + k * 7 + 2, none⟩ = some (.int .i64 x.l) ∧ wr.drew.cell? ⟨b, off + k * 7 + 3, none⟩ = some (.int .i64 x.h) ∧ wr.drew.cell? ⟨b, off + k * 7 + 4, none⟩ = some (.int .i64 x.a) ∧ wr.drew.cell? ⟨b, off + k * 7 + 5, none⟩ = some (.int .i64 x.p) ∧ wr.drew.cell? ⟨b, off + k * 7 + 6, none⟩ = some (.int .i64 x.s) := ⟨cg, p0, p1, p2, p3, p4, p5, p6⟩
          have hstep : ∀ {wa wl : World}, (wa.cell? ⟨g, 0, none⟩ = some (.slice (some ⟨b, off, none⟩) n c) ∧ wa.cell? ⟨b, off + k * 7, none⟩ = some (.bool x.t) ∧ wa.cell? ⟨b, off + k * 7 + 1, none⟩ = some (.int .i64 x.n) ∧ wa.cell? ⟨b, off + k * 7 + 2, none⟩ = some (.int .i64 x.l) ∧ wa.cell? ⟨b, off + k * 7 + 3, none⟩ = some (.int .i64 x.h) ∧ wa.cell? ⟨b, off + k * 7 + 4, none⟩ = some (.int .i64 x.a) ∧ wa.cell? ⟨b, off + k * 7 + 5, none⟩ = some (.int .i64 x.p) ∧ wa.cell? ⟨b, off + k * 7 + 6, none⟩ = some (.int .i64 x.s)) → Below wa.heap.size wa wl → wl.cell? ⟨g, 0, none⟩ = some (.slice (some ⟨b, off, none⟩) n c) ∧ wl.cell? ⟨b, off + k * 7, none⟩ = some (.bool x.t) ∧ wl.cell? ⟨b, off + k * 7 + 1, none⟩ = some (.int .i64 x.n) ∧ wl.cell? ⟨b, off + k * 7 + 2, none⟩ = some (.int .i64 x.l) ∧ wl.cell? ⟨b, off + k * 7 + 3, none⟩ = some (.int .i64 x.h) ∧ wl.cell? ⟨b, off + k * 7 + 4, none⟩ = some (.int .i64 x.a) ∧ wl.cell? ⟨b, off + k * 7 + 5, none⟩ = some (.int .i64 x.p) ∧ wl.cell? ⟨b, off + k * 7 + 6, none⟩ = some (.int .i64 x.s) := by
            intro wa wl hs hb
            have hbb := World.block_lt_of_cell? wa _ hs.2.1
            have hbg := World.block_lt_of_cell? wa _ hs.1
            have e1 : ∀ j, wl.cell? ⟨b, j, none⟩ = wa.cell? ⟨b, j, none⟩ := fun j => hb.cell hbb
            have e2 : ∀ j, wl.cell? ⟨g, j, none⟩ = wa.cell? ⟨g, j, none⟩ := fun j => hb.cell hbg
            simp only [e1, e2]
            exact hs
          have HST : Hid _ := @hstep
          clear hx p0 p1 p2 p3 p4 p5 p6 hstep
          have HO := specOkB x.t x.n x.l x.h x.a x.p x.s
          have HD := dataB x.t x.n x.l x.h x.a x.p x.s
          cases hok : okB x.t x.n x.l x.h x.a x.p x.s
          · rw [hok] at HO
            go_wp2_with fail
            refine wp_region_held_drew (S := fun wx => wx.cell? ⟨g, 0, none⟩ = some (.slice (some ⟨b, off, none⟩) n c) ∧ wx.cell? ⟨b, off + k * 7, none⟩ = some (.bool x.t) ∧ wx.cell? ⟨b, off + k * 7 + 1, none⟩ = some (.int .i64 x.n) ∧ wx.cell? ⟨b, off + k * 7 + 2, none⟩ = some (.int .i64 x.l) ∧ wx.cell? ⟨b, off + k * 7 + 3, none⟩ = some (.int .i64 x.h) ∧ wx.cell? ⟨b, off + k * 7 + 4, none⟩ = some (.int .i64 x.a) ∧ wx.cell? ⟨b, off + k * 7 + 5, none⟩ = some (.int .i64 x.p) ∧ wx.cell? ⟨b, off + k * 7 + 6, none⟩ = some (.int .i64 x.s)) (by kernel_rfl) HS0 (fun hHeld => ?_)
            refine wpAnyH_take (i := 0) (oi := ?o1) (v := ?v1) ?i1 (by kernel_rfl) (by kernel_rfl) (by kernel_rfl) ?q1 ?y1 (hHeld) ?r1
            case i1 => exact rfl
            case q1 => exact (fun _ _ _ h => h)
            case y1 =>
              refine Or.inl ⟨by rfl, ?_⟩
              intro w hSw
              (try dsimp only at hSw)
              go_simp
              first | done | rfl
            try simp only [Act.put, List.getElem_toArray, List.getElem_cons_zero, List.getElem_cons_succ, List.setIfInBounds_toArray, List.set_cons_zero, List.set_cons_succ]
            refine wpAnyH_take (i := 1) (oi := ?o2) (v := ?v2) ?i2 (by kernel_rfl) (by kernel_rfl) (by kernel_rfl) ?q2 ?y2 (hHeld) ?r2
            case i2 => exact rfl
            case q2 => exact (fun _ _ _ h => h)
            case y2 =>
              refine Or.inl ⟨by rfl, ?_⟩
              intro w hSw
              (try dsimp only at hSw)
              go_simp
              first | done | rfl
            try simp only [Act.put, List.getElem_toArray, List.getElem_cons_zero, List.getElem_cons_succ, List.setIfInBounds_toArray, List.set_cons_zero, List.set_cons_succ]
            refine wpAnyH_take (i := 2) (oi := ?o3) (v := ?v3) ?i3 (by kernel_rfl) (by kernel_rfl) (by kernel_rfl) ?q3 ?y3 (hHeld) ?r3
            case i3 => exact rfl
            case q3 => exact (fun _ _ _ h => h)
            case y3 =>
              refine Or.inl ⟨by rfl, ?_⟩
              intro w hSw
              (try dsimp only at hSw)
              go_simp
              first | done | rfl
            try simp only [Act.put, List.getElem_toArray, List.getElem_cons_zero, List.getElem_cons_succ, List.setIfInBounds_toArray, List.set_cons_zero, List.set_cons_succ]
            refine wpAnyH_take (i := 3) (oi := ?o4) (v := ?v4) ?i4 (by kernel_rfl) (by kernel_rfl) (by kernel_rfl) ?q4 ?y4 (hHeld) ?r4
            case i4 => exact rfl
            case q4 => exact (fun _ _ _ h => h)
            case y4 =>
              refine Or.inl ⟨by rfl, ?_⟩
              intro w hSw
              (try dsimp only at hSw)
              go_simp
              first | done | rfl
            try simp only [Act.put, List.getElem_toArray, List.getElem_cons_zero, List.getElem_cons_succ, List.setIfInBounds_toArray, List.set_cons_zero, List.set_cons_succ]
            refine wpAnyH_take (i := 4) (oi := ?o5) (v := ?v5) ?i5 (by kernel_rfl) (by kernel_rfl) (by kernel_rfl) ?q5 ?y5 (hHeld) ?r5
            case i5 => exact rfl
            case q5 => exact (fun _ _ _ h => h)
            case y5 =>
              refine Or.inl ⟨by rfl, ?_⟩
              intro w hSw
              (try dsimp only at hSw)
              go_simp
              first | done | rfl
            try simp only [Act.put, List.getElem_toArray, List.getElem_cons_zero, List.getElem_cons_succ, List.setIfInBounds_toArray, List.set_cons_zero, List.set_cons_succ]
            refine wpAnyH_ready (rs := [5]) (by kernel_rfl) (by simp) ?_
            refine AllReadyH.cons (i := 5) (o := ?o6) ?i6 (fun K hK => ?_) AllReadyH.nil
            case i6 => exact rfl
            go_simp
            (with_reducible refine (HO _).mono ?_)
            rintro e wa ⟨rfl, hba⟩
            have HSa := HST.out hHeld hba
            go_wp2_with fail
            refine hK.out _ _ (HSa) (fun hHeld => ?_)
            clear hK K
            try simp only [Act.put, List.getElem_toArray, List.getElem_cons_zero, List.getElem_cons_succ, List.setIfInBounds_toArray, List.set_cons_zero, List.set_cons_succ]
            refine wpAnyH_take (i := 6) (oi := ?o7) (v := ?v7) ?i7 (by kernel_rfl) (by kernel_rfl) (by kernel_rfl) ?q7 ?y7 (hHeld) ?r7
            case i7 => exact rfl
            case q7 => exact (fun _ _ _ h => h)
            case y7 =>
              refine Or.inl ⟨by rfl, ?_⟩
              intro w hSw
              (try dsimp only at hSw)
              go_simp
              first | done | rfl
            try simp only [Act.put, List.getElem_toArray, List.getElem_cons_zero, List.getElem_cons_succ, List.setIfInBounds_toArray, List.set_cons_zero, List.set_cons_succ]
            refine wpAnyH_take (i := 7) (oi := ?o8) (v := ?v8) ?i8 (by kernel_rfl) (by kernel_rfl) (by kernel_rfl) ?q8 ?y8 (hHeld) ?r8
            case i8 => exact rfl
            case q8 => exact (fun _ _ _ h => h)
            case y8 =>
              refine Or.inl ⟨by rfl, ?_⟩
              intro w hSw
              (try dsimp only at hSw)
              go_simp
              first | done | rfl
            try simp only [Act.put, List.getElem_toArray, List.getElem_cons_zero, List.getElem_cons_succ, List.setIfInBounds_toArray, List.set_cons_zero, List.set_cons_succ]
            refine wpAnyH_take (i := 8) (oi := ?o9) (v := undef) ?i9 (by kernel_rfl) (by kernel_rfl) (by kernel_rfl) ?q9 ?y9 (hHeld) ?r9
            case i9 => exact rfl
            case q9 => exact (fun _ _ _ h => h)
            case y9 => exact Or.inr ⟨by rfl, rfl⟩
            try simp only [Act.put, List.getElem_toArray, List.getElem_cons_zero, List.getElem_cons_succ, List.setIfInBounds_toArray, List.set_cons_zero, List.set_cons_succ]
            refine wpAnyH_take (i := 9) (oi := ?o10) (v := undef) ?i10 (by kernel_rfl) (by kernel_rfl) (by kernel_rfl) ?q10 ?y10 (hHeld) ?r10
            case i10 => exact rfl
            case q10 => exact (fun _ _ _ h => h)
            case y10 => exact Or.inr ⟨by rfl, rfl⟩
            try simp only [Act.put, List.getElem_toArray, List.getElem_cons_zero, List.getElem_cons_succ, List.setIfInBounds_toArray, List.set_cons_zero, List.set_cons_succ]
            refine wpAnyH_take (i := 10) (oi := ?o11) (v := undef) ?i11 (by kernel_rfl) (by kernel_rfl) (by kernel_rfl) ?q11 ?y11 (hHeld) ?r11
            case i11 => exact rfl
            case q11 => exact (fun _ _ _ h => h)
            case y11 => exact Or.inr ⟨by rfl, rfl⟩
            try simp only [Act.put, List.getElem_toArray, List.getElem_cons_zero, List.getElem_cons_succ, List.setIfInBounds_toArray, List.set_cons_zero, List.set_cons_succ]
            refine wpAnyH_take (i := 11) (oi := ?o12) (v := undef) ?i12 (by kernel_rfl) (by kernel_rfl) (by kernel_rfl) ?q12 ?y12 (hHeld) ?r12
            case i12 => exact rfl
            case q12 => exact (fun _ _ _ h => h)
            case y12 => exact Or.inr ⟨by rfl, rfl⟩
            try simp only [Act.put, List.getElem_toArray, List.getElem_cons_zero, List.getElem_cons_succ, List.setIfInBounds_toArray, List.set_cons_zero, List.set_cons_succ]
            refine wpAnyH_take (i := 12) (oi := ?o13) (v := undef) ?i13 (by kernel_rfl) (by kernel_rfl) (by kernel_rfl) ?q13 ?y13 (hHeld) ?r13
            case i13 => exact rfl
            case q13 => exact (fun _ _ _ h => h)
            case y13 => exact Or.inr ⟨by rfl, rfl⟩
            try simp only [Act.put, List.getElem_toArray, List.getElem_cons_zero, List.getElem_cons_succ, List.setIfInBounds_toArray, List.set_cons_zero, List.set_cons_succ]
            refine wpAnyH_take (i := 13) (oi := ?o14) (v := undef) ?i14 (by kernel_rfl) (by kernel_rfl) (by kernel_rfl) ?q14 ?y14 (hHeld) ?r14
            case i14 => exact rfl
            case q14 => exact (fun _ _ _ h => h)
            case y14 => exact Or.inr ⟨by rfl, rfl⟩
            try simp only [Act.put, List.getElem_toArray, List.getElem_cons_zero, List.getElem_cons_succ, List.setIfInBounds_toArray, List.set_cons_zero, List.set_cons_succ]
            refine wpAnyH_take (i := 14) (oi := ?o15) (v := undef) ?i15 (by kernel_rfl) (by kernel_rfl) (by kernel_rfl) ?q15 ?y15 (hHeld) ?r15
            case i15 => exact rfl
            case q15 => exact (fun _ _ _ h => h)
            case y15 => exact Or.inr ⟨by rfl, rfl⟩
            try simp only [Act.put, List.getElem_toArray, List.getElem_cons_zero, List.getElem_cons_succ, List.setIfInBounds_toArray, List.set_cons_zero, List.set_cons_succ]
            refine wpAnyH_take (i := 15) (oi := ?o16) (v := undef) ?i16 (by kernel_rfl) (by kernel_rfl) (by kernel_rfl) ?q16 ?y16 (hHeld) ?r16
            case i16 => exact rfl
            case q16 => exact (fun _ _ _ h => h)
            case y16 => exact Or.inr ⟨by rfl, rfl⟩
            try simp only [Act.put, List.getElem_toArray, List.getElem_cons_zero, List.getElem_cons_succ, List.setIfInBounds_toArray, List.set_cons_zero, List.set_cons_succ]
            refine wpAnyH_take (i := 16) (oi := ?o17) (v := undef) ?i17 (by kernel_rfl) (by kernel_rfl) (by kernel_rfl) ?q17 ?y17 (hHeld) ?r17
            case i17 => exact rfl
            case q17 => exact (fun _ _ _ h => h)
            case y17 => exact Or.inr ⟨by rfl, rfl⟩
            try simp only [Act.put, List.getElem_toArray, List.getElem_cons_zero, List.getElem_cons_succ, List.setIfInBounds_toArray, List.set_cons_zero, List.set_cons_succ]
            refine wpAnyH_take (i := 17) (oi := ?o18) (v := undef) ?i18 (by kernel_rfl) (by kernel_rfl) (by kernel_rfl) ?q18 ?y18 (hHeld) ?r18
            case i18 => exact rfl
            case q18 => exact (fun _ _ _ h => h)
            case y18 => exact Or.inr ⟨by rfl, rfl⟩
            try simp only [Act.put, List.getElem_toArray, List.getElem_cons_zero, List.getElem_cons_succ, List.setIfInBounds_toArray, List.set_cons_zero, List.set_cons_succ]
            refine wpAnyH_take (i := 18) (oi := ?o19) (v := undef) ?i19 (by kernel_rfl) (by kernel_rfl) (by kernel_rfl) ?q19 ?y19 (hHeld) ?r19
            case i19 => exact rfl
            case q19 => exact (fun _ _ _ h => h)
            case y19 => exact Or.inr ⟨by rfl, rfl⟩
            try simp only [Act.put, List.getElem_toArray, List.getElem_cons_zero, List.getElem_cons_succ, List.setIfInBounds_toArray, List.set_cons_zero, List.set_cons_succ]
            refine wpAnyH_take (i := 19) (oi := ?o20) (v := undef) ?i20 (by kernel_rfl) (by kernel_rfl) (by kernel_rfl) ?q20 ?y20 (hHeld) ?r20
            case i20 => exact rfl
            case q20 => exact (fun _ _ _ h => h)
            case y20 => exact Or.inr ⟨by rfl, rfl⟩
            try simp only [Act.put, List.getElem_toArray, List.getElem_cons_zero, List.getElem_cons_succ, List.setIfInBounds_toArray, List.set_cons_zero, List.set_cons_succ]
            refine wpAnyH_take (i := 20) (oi := ?o21) (v := undef) ?i21 (by kernel_rfl) (by kernel_rfl) (by kernel_rfl) ?q21 ?y21 (hHeld) ?r21
            case i21 => exact rfl
            case q21 => exact (fun _ _ _ h => h)
            case y21 => exact Or.inr ⟨by rfl, rfl⟩
            try simp only [Act.put, List.getElem_toArray, List.getElem_cons_zero, List.getElem_cons_succ, List.setIfInBounds_toArray, List.set_cons_zero, List.set_cons_succ]
            refine wpAnyH_take (i := 21) (oi := ?o22) (v := undef) ?i22 (by kernel_rfl) (by kernel_rfl) (by kernel_rfl) ?q22 ?y22 (hHeld) ?r22
            case i22 => exact rfl
            case q22 => exact (fun _ _ _ h => h)
            case y22 => exact Or.inr ⟨by rfl, rfl⟩
            try simp only [Act.put, List.getElem_toArray, List.getElem_cons_zero, List.getElem_cons_succ, List.setIfInBounds_toArray, List.set_cons_zero, List.set_cons_succ]
            refine wpAnyH_take (i := 22) (oi := ?o23) (v := undef) ?i23 (by kernel_rfl) (by kernel_rfl) (by kernel_rfl) ?q23 ?y23 (hHeld) ?r23
            case i23 => exact rfl
            case q23 => exact (fun _ _ _ h => h)
            case y23 => exact Or.inr ⟨by rfl, rfl⟩
            try simp only [Act.put, List.getElem_toArray, List.getElem_cons_zero, List.getElem_cons_succ, List.setIfInBounds_toArray, List.set_cons_zero, List.set_cons_succ]
            refine wpAnyH_take (i := 23) (oi := ?o24) (v := undef) ?i24 (by kernel_rfl) (by kernel_rfl) (by kernel_rfl) ?q24 ?y24 (hHeld) ?r24
            case i24 => exact rfl
            case q24 => exact (fun _ _ _ h => h)
            case y24 => exact Or.inr ⟨by rfl, rfl⟩
            try simp only [Act.put, List.getElem_toArray, List.getElem_cons_zero, List.getElem_cons_succ, List.setIfInBounds_toArray, List.set_cons_zero, List.set_cons_succ]
            refine wpAnyH_take (i := 24) (oi := ?o25) (v := undef) ?i25 (by kernel_rfl) (by kernel_rfl) (by kernel_rfl) ?q25 ?y25 (hHeld) ?r25
            case i25 => exact rfl
            case q25 => exact (fun _ _ _ h => h)
            case y25 => exact Or.inr ⟨by rfl, rfl⟩
            try simp only [Act.put, List.getElem_toArray, List.getElem_cons_zero, List.getElem_cons_succ, List.setIfInBounds_toArray, List.set_cons_zero, List.set_cons_succ]
            refine wpAnyH_take (i := 25) (oi := ?o26) (v := undef) ?i26 (by kernel_rfl) (by kernel_rfl) (by kernel_rfl) ?q26 ?y26 (hHeld) ?r26
            case i26 => exact rfl
            case q26 => exact (fun _ _ _ h => h)
            case y26 => exact Or.inr ⟨by rfl, rfl⟩
            try simp only [Act.put, List.getElem_toArray, List.getElem_cons_zero, List.getElem_cons_succ, List.setIfInBounds_toArray, List.set_cons_zero, List.set_cons_succ]
            refine wpAnyH_take (i := 26) (oi := ?o27) (v := ?v27) ?i27 (by kernel_rfl) (by kernel_rfl) (by kernel_rfl) ?q27 ?y27 (hHeld) ?r27
            case i27 => exact rfl
            case q27 => exact (fun _ _ _ h => h)
            case y27 =>
              refine Or.inl ⟨by rfl, ?_⟩
              intro w hSw
              (try dsimp only at hSw)
              go_simp
              first | done | rfl
            try simp only [Act.put, List.getElem_toArray, List.getElem_cons_zero, List.getElem_cons_succ, List.setIfInBounds_toArray, List.set_cons_zero, List.set_cons_succ]
            refine wpAnyH_done (by kernel_rfl) ?_ _
            go_wp2_with fail
            go_ret
            exact ⟨rb (by rw [HM.out]; exact (memB_no HX.out (by rw [Hl.out, fitW]; simp [okW, dataW, hok])).symm), hbw.drew.trans (hba.mono hbw.size)⟩
          · rw [hok] at HO
            cases hda : (x.t && (x.s == 0))
            · rw [hda] at HD
              go_wp2_with fail
              refine wp_region_held_drew (S := fun wx => wx.cell? ⟨g, 0, none⟩ = some (.slice (some ⟨b, off, none⟩) n c) ∧ wx.cell? ⟨b, off + k * 7, none⟩ = some (.bool x.t) ∧ wx.cell? ⟨b, off + k * 7 + 1, none⟩ = some (.int .i64 x.n) ∧ wx.cell? ⟨b, off + k * 7 + 2, none⟩ = some (.int .i64 x.l) ∧ wx.cell? ⟨b, off + k * 7 + 3, none⟩ = some (.int .i64 x.h) ∧ wx.cell? ⟨b, off + k * 7 + 4, none⟩ = some (.int .i64 x.a) ∧ wx.cell? ⟨b, off + k * 7 + 5, none⟩ = some (.int .i64 x.p) ∧ wx.cell? ⟨b, off + k * 7 + 6, none⟩ = some (.int .i64 x.s)) (by kernel_rfl) HS0 (fun hHeld => ?_)
              refine wpAnyH_take (i := 0) (oi := ?o28) (v := ?v28) ?i28 (by kernel_rfl) (by kernel_rfl) (by kernel_rfl) ?q28 ?y28 (hHeld) ?r28
              case i28 => exact rfl
              case q28 => exact (fun _ _ _ h => h)
              case y28 =>
                refine Or.inl ⟨by rfl, ?_⟩
                intro w hSw
                (try dsimp only at hSw)
                go_simp
                first | done | rfl
              try simp only [Act.put, List.getElem_toArray, List.getElem_cons_zero, List.getElem_cons_succ, List.setIfInBounds_toArray, List.set_cons_zero, List.set_cons_succ]
              refine wpAnyH_take (i := 1) (oi := ?o29) (v := ?v29) ?i29 (by kernel_rfl) (by kernel_rfl) (by kernel_rfl) ?q29 ?y29 (hHeld) ?r29
              case i29 => exact rfl
              case q29 => exact (fun _ _ _ h => h)
              case y29 =>
                refine Or.inl ⟨by rfl, ?_⟩
                intro w hSw
                (try dsimp only at hSw)
                go_simp
                first | done | rfl
              try simp only [Act.put, List.getElem_toArray, List.getElem_cons_zero, List.getElem_cons_succ, List.setIfInBounds_toArray, List.set_cons_zero, List.set_cons_succ]
              refine wpAnyH_take (i := 2) (oi := ?o30) (v := ?v30) ?i30 (by kernel_rfl) (by kernel_rfl) (by kernel_rfl) ?q30 ?y30 (hHeld) ?r30
              case i30 => exact rfl
              case q30 => exact (fun _ _ _ h => h)
              case y30 =>
                refine Or.inl ⟨by rfl, ?_⟩
                intro w hSw
                (try dsimp only at hSw)
                go_simp
                first | done | rfl
              try simp only [Act.put, List.getElem_toArray, List.getElem_cons_zero, List.getElem_cons_succ, List.setIfInBounds_toArray, List.set_cons_zero, List.set_cons_succ]
              refine wpAnyH_take (i := 3) (oi := ?o31) (v := ?v31) ?i31 (by kernel_rfl) (by kernel_rfl) (by kernel_rfl) ?q31 ?y31 (hHeld) ?r31
              case i31 => exact rfl
              case q31 => exact (fun _ _ _ h => h)
              case y31 =>
                refine Or.inl ⟨by rfl, ?_⟩
                intro w hSw
                (try dsimp only at hSw)
                go_simp
                first | done | rfl
              try simp only [Act.put, List.getElem_toArray, List.getElem_cons_zero, List.getElem_cons_succ, List.setIfInBounds_toArray, List.set_cons_zero, List.set_cons_succ]
              refine wpAnyH_take (i := 4) (oi := ?o32) (v := ?v32) ?i32 (by kernel_rfl) (by kernel_rfl) (by kernel_rfl) ?q32 ?y32 (hHeld) ?r32
              case i32 => exact rfl
              case q32 => exact (fun _ _ _ h => h)
              case y32 =>
                refine Or.inl ⟨by rfl, ?_⟩
                intro w hSw
                (try dsimp only at hSw)
                go_simp
                first | done | rfl
              try simp only [Act.put, List.getElem_toArray, List.getElem_cons_zero, List.getElem_cons_succ, List.setIfInBounds_toArray, List.set_cons_zero, List.set_cons_succ]
              refine wpAnyH_ready (rs := [5]) (by kernel_rfl) (by simp) ?_
              refine AllReadyH.cons (i := 5) (o := ?o33) ?i33 (fun K hK => ?_) AllReadyH.nil
              case i33 => exact rfl
              go_simp
              (with_reducible refine (HO _).mono ?_)
              rintro e wa ⟨rfl, hba⟩
              have HSa := HST.out hHeld hba
              go_wp2_with fail
              refine hK.out _ _ (HSa) (fun hHeld => ?_)
              clear hK K
              try simp only [Act.put, List.getElem_toArray, List.getElem_cons_zero, List.getElem_cons_succ, List.setIfInBounds_toArray, List.set_cons_zero, List.set_cons_succ]
              refine wpAnyH_take (i := 6) (oi := ?o34) (v := ?v34) ?i34 (by kernel_rfl) (by kernel_rfl) (by kernel_rfl) ?q34 ?y34 (hHeld) ?r34
              case i34 => exact rfl
              case q34 => exact (fun _ _ _ h => h)
              case y34 =>
                refine Or.inl ⟨by rfl, ?_⟩
                intro w hSw
                (try dsimp only at hSw)
                go_simp
                first | done | rfl
              try simp only [Act.put, List.getElem_toArray, List.getElem_cons_zero, List.getElem_cons_succ, List.setIfInBounds_toArray, List.set_cons_zero, List.set_cons_succ]
              refine wpAnyH_take (i := 7) (oi := ?o35) (v := ?v35) ?i35 (by kernel_rfl) (by kernel_rfl) (by kernel_rfl) ?q35 ?y35 (hHeld) ?r35
              case i35 => exact rfl
              case q35 => exact (fun _ _ _ h => h)
              case y35 =>
                refine Or.inl ⟨by rfl, ?_⟩
                intro w hSw
                (try dsimp only at hSw)
                go_simp
                first | done | rfl
              try simp only [Act.put, List.getElem_toArray, List.getElem_cons_zero, List.getElem_cons_succ, List.setIfInBounds_toArray, List.set_cons_zero, List.set_cons_succ]
              refine wpAnyH_take (i := 8) (oi := ?o36) (v := ?v36) ?i36 (by kernel_rfl) (by kernel_rfl) (by kernel_rfl) ?q36 ?y36 (hHeld) ?r36
              case i36 => exact rfl
              case q36 => exact (fun _ _ _ h => h)
              case y36 =>
                refine Or.inl ⟨by rfl, ?_⟩
                intro w hSw
                (try dsimp only at hSw)
                go_simp
                first | done | rfl
              try simp only [Act.put, List.getElem_toArray, List.getElem_cons_zero, List.getElem_cons_succ, List.setIfInBounds_toArray, List.set_cons_zero, List.set_cons_succ]
              refine wpAnyH_take (i := 9) (oi := ?o37) (v := ?v37) ?i37 (by kernel_rfl) (by kernel_rfl) (by kernel_rfl) ?q37 ?y37 (hHeld) ?r37
              case i37 => exact rfl
              case q37 => exact (fun _ _ _ h => h)
              case y37 =>
                refine Or.inl ⟨by rfl, ?_⟩
                intro w hSw
                (try dsimp only at hSw)
                go_simp
                first | done | rfl
              try simp only [Act.put, List.getElem_toArray, List.getElem_cons_zero, List.getElem_cons_succ, List.setIfInBounds_toArray, List.set_cons_zero, List.set_cons_succ]
              refine wpAnyH_take (i := 10) (oi := ?o38) (v := ?v38) ?i38 (by kernel_rfl) (by kernel_rfl) (by kernel_rfl) ?q38 ?y38 (hHeld) ?r38
              case i38 => exact rfl
              case q38 => exact (fun _ _ _ h => h)
              case y38 =>
                refine Or.inl ⟨by rfl, ?_⟩
                intro w hSw
                (try dsimp only at hSw)
                go_simp
                first | done | rfl
              try simp only [Act.put, List.getElem_toArray, List.getElem_cons_zero, List.getElem_cons_succ, List.setIfInBounds_toArray, List.set_cons_zero, List.set_cons_succ]
              refine wpAnyH_take (i := 11) (oi := ?o39) (v := ?v39) ?i39 (by kernel_rfl) (by kernel_rfl) (by kernel_rfl) ?q39 ?y39 (hHeld) ?r39
              case i39 => exact rfl
              case q39 => exact (fun _ _ _ h => h)
              case y39 =>
                refine Or.inl ⟨by rfl, ?_⟩
                intro w hSw
                (try dsimp only at hSw)
                go_simp
                first | done | rfl
              try simp only [Act.put, List.getElem_toArray, List.getElem_cons_zero, List.getElem_cons_succ, List.setIfInBounds_toArray, List.set_cons_zero, List.set_cons_succ]
              refine wpAnyH_take (i := 12) (oi := ?o40) (v := ?v40) ?i40 (by kernel_rfl) (by kernel_rfl) (by kernel_rfl) ?q40 ?y40 (hHeld) ?r40
              case i40 => exact rfl
              case q40 => exact (fun _ _ _ h => h)
              case y40 =>
                refine Or.inl ⟨by rfl, ?_⟩
                intro w hSw
                (try dsimp only at hSw)
                go_simp
                first | done | rfl
              try simp only [Act.put, List.getElem_toArray, List.getElem_cons_zero, List.getElem_cons_succ, List.setIfInBounds_toArray, List.set_cons_zero, List.set_cons_succ]
              refine wpAnyH_ready (rs := [13]) (by kernel_rfl) (by simp) ?_
              refine AllReadyH.cons (i := 13) (o := ?o41) ?i41 (fun K hK => ?_) AllReadyH.nil
              case i41 => exact rfl
              go_simp
              (with_reducible refine (HD _).mono ?_)
              rintro e wb ⟨rfl, hbb⟩
              have HSb := HST.out hHeld hbb
              go_wp2_with fail
              refine hK.out _ _ (HSb) (fun hHeld => ?_)
              clear hK K
              try simp only [Act.put, List.getElem_toArray, List.getElem_cons_zero, List.getElem_cons_succ, List.setIfInBounds_toArray, List.set_cons_zero, List.set_cons_succ]
              refine wpAnyH_take (i := 14) (oi := ?o42) (v := ?v42) ?i42 (by kernel_rfl) (by kernel_rfl) (by kernel_rfl) ?q42 ?y42 (hHeld) ?r42
              case i42 => exact rfl
              case q42 => exact (fun _ _ _ h => h)
              case y42 =>
                refine Or.inl ⟨by rfl, ?_⟩
                intro w hSw
                (try dsimp only at hSw)
                go_simp
                first | done | rfl
              try simp only [Act.put, List.getElem_toArray, List.getElem_cons_zero, List.getElem_cons_succ, List.setIfInBounds_toArray, List.set_cons_zero, List.set_cons_succ]
              refine wpAnyH_take (i := 15) (oi := ?o43) (v := undef) ?i43 (by kernel_rfl) (by kernel_rfl) (by kernel_rfl) ?q43 ?y43 (hHeld) ?r43
              case i43 => exact rfl
              case q43 => exact (fun _ _ _ h => h)
              case y43 => exact Or.inr ⟨by rfl, rfl⟩
              try simp only [Act.put, List.getElem_toArray, List.getElem_cons_zero, List.getElem_cons_succ, List.setIfInBounds_toArray, List.set_cons_zero, List.set_cons_succ]
              refine wpAnyH_take (i := 16) (oi := ?o44) (v := undef) ?i44 (by kernel_rfl) (by kernel_rfl) (by kernel_rfl) ?q44 ?y44 (hHeld) ?r44
              case i44 => exact rfl
              case q44 => exact (fun _ _ _ h => h)
              case y44 => exact Or.inr ⟨by rfl, rfl⟩
              try simp only [Act.put, List.getElem_toArray, List.getElem_cons_zero, List.getElem_cons_succ, List.setIfInBounds_toArray, List.set_cons_zero, List.set_cons_succ]
              refine wpAnyH_take (i := 17) (oi := ?o45) (v := undef) ?i45 (by kernel_rfl) (by kernel_rfl) (by kernel_rfl) ?q45 ?y45 (hHeld) ?r45
              case i45 => exact rfl
              case q45 => exact (fun _ _ _ h => h)
              case y45 => exact Or.inr ⟨by rfl, rfl⟩
              try simp only [Act.put, List.getElem_toArray, List.getElem_cons_zero, List.getElem_cons_succ, List.setIfInBounds_toArray, List.set_cons_zero, List.set_cons_succ]
              refine wpAnyH_take (i := 18) (oi := ?o46) (v := undef) ?i46 (by kernel_rfl) (by kernel_rfl) (by kernel_rfl) ?q46 ?y46 (hHeld) ?r46
              case i46 => exact rfl
              case q46 => exact (fun _ _ _ h => h)
              case y46 => exact Or.inr ⟨by rfl, rfl⟩
              try simp only [Act.put, List.getElem_toArray, List.getElem_cons_zero, List.getElem_cons_succ, List.setIfInBounds_toArray, List.set_cons_zero, List.set_cons_succ]
              refine wpAnyH_take (i := 19) (oi := ?o47) (v := undef) ?i47 (by kernel_rfl) (by kernel_rfl) (by kernel_rfl) ?q47 ?y47 (hHeld) ?r47
              case i47 => exact rfl
              case q47 => exact (fun _ _ _ h => h)
              case y47 => exact Or.inr ⟨by rfl, rfl⟩
              try simp only [Act.put, List.getElem_toArray, List.getElem_cons_zero, List.getElem_cons_succ, List.setIfInBounds_toArray, List.set_cons_zero, List.set_cons_succ]
              refine wpAnyH_take (i := 20) (oi := ?o48) (v := undef) ?i48 (by kernel_rfl) (by kernel_rfl) (by kernel_rfl) ?q48 ?y48 (hHeld) ?r48
              case i48 => exact rfl
              case q48 => exact (fun _ _ _ h => h)
              case y48 => exact Or.inr ⟨by rfl, rfl⟩
              try simp only [Act.put, List.getElem_toArray, List.getElem_cons_zero, List.getElem_cons_succ, List.setIfInBounds_toArray, List.set_cons_zero, List.set_cons_succ]
              refine wpAnyH_take (i := 21) (oi := ?o49) (v := undef) ?i49 (by kernel_rfl) (by kernel_rfl) (by kernel_rfl) ?q49 ?y49 (hHeld) ?r49
              case i49 => exact rfl
              case q49 => exact (fun _ _ _ h => h)
              case y49 => exact Or.inr ⟨by rfl, rfl⟩
              try simp only [Act.put, List.getElem_toArray, List.getElem_cons_zero, List.getElem_cons_succ, List.setIfInBounds_toArray, List.set_cons_zero, List.set_cons_succ]
              refine wpAnyH_take (i := 22) (oi := ?o50) (v := undef) ?i50 (by kernel_rfl) (by kernel_rfl) (by kernel_rfl) ?q50 ?y50 (hHeld) ?r50
              case i50 => exact rfl
              case q50 => exact (fun _ _ _ h => h)
              case y50 => exact Or.inr ⟨by rfl, rfl⟩
              try simp only [Act.put, List.getElem_toArray, List.getElem_cons_zero, List.getElem_cons_succ, List.setIfInBounds_toArray, List.set_cons_zero, List.set_cons_succ]
              refine wpAnyH_take (i := 23) (oi := ?o51) (v := undef) ?i51 (by kernel_rfl) (by kernel_rfl) (by kernel_rfl) ?q51 ?y51 (hHeld) ?r51
              case i51 => exact rfl
              case q51 => exact (fun _ _ _ h => h)
              case y51 => exact Or.inr ⟨by rfl, rfl⟩
              try simp only [Act.put, List.getElem_toArray, List.getElem_cons_zero, List.getElem_cons_succ, List.setIfInBounds_toArray, List.set_cons_zero, List.set_cons_succ]
              refine wpAnyH_take (i := 24) (oi := ?o52) (v := undef) ?i52 (by kernel_rfl) (by kernel_rfl) (by kernel_rfl) ?q52 ?y52 (hHeld) ?r52
              case i52 => exact rfl
              case q52 => exact (fun _ _ _ h => h)
              case y52 => exact Or.inr ⟨by rfl, rfl⟩
              try simp only [Act.put, List.getElem_toArray, List.getElem_cons_zero, List.getElem_cons_succ, List.setIfInBounds_toArray, List.set_cons_zero, List.set_cons_succ]
              refine wpAnyH_take (i := 25) (oi := ?o53) (v := ?v53) ?i53 (by kernel_rfl) (by kernel_rfl) (by kernel_rfl) ?q53 ?y53 (hHeld) ?r53
              case i53 => exact rfl
              case q53 => exact (fun _ _ _ h => h)
              case y53 =>
                refine Or.inl ⟨by rfl, ?_⟩
                intro w hSw
                (try dsimp only at hSw)
                go_simp
                first | done | rfl
              try simp only [Act.put, List.getElem_toArray, List.getElem_cons_zero, List.getElem_cons_succ, List.setIfInBounds_toArray, List.set_cons_zero, List.set_cons_succ]
              refine wpAnyH_take (i := 26) (oi := ?o54) (v := ?v54) ?i54 (by kernel_rfl) (by kernel_rfl) (by kernel_rfl) ?q54 ?y54 (hHeld) ?r54
              case i54 => exact rfl
              case q54 => exact (fun _ _ _ h => h)
              case y54 =>
                refine Or.inl ⟨by rfl, ?_⟩
                intro w hSw
                (try dsimp only at hSw)
                go_simp
                first | done | rfl
              try simp only [Act.put, List.getElem_toArray, List.getElem_cons_zero, List.getElem_cons_succ, List.setIfInBounds_toArray, List.set_cons_zero, List.set_cons_succ]
              refine wpAnyH_done (by kernel_rfl) ?_ _
              have hb0 : Below w0.heap.size w0 wb := (hbr.drew.trans (hba.mono hbr.size)).trans (hbb.mono (Nat.le_trans hbr.size hba.size))
              have hfx : fitW n x = true := by rw [fitW]; simp [okW, dataW, hok, hda]
              go_wp2_with fail
              go_roundw
              case rel => exact ⟨k + 1, by omega, by go_num, hb0, fit_next HX.out hfx hfit.out⟩
              case measure => simp [intOf]; omega
            · rw [hda] at HD
              by_cases hh : (n : Int) < x.h
              ·
                go_wp2_with fail
                refine wp_region_held_drew (S := fun wx => wx.cell? ⟨g, 0, none⟩ = some (.slice (some ⟨b, off, none⟩) n c) ∧ wx.cell? ⟨b, off + k * 7, none⟩ = some (.bool x.t) ∧ wx.cell? ⟨b, off + k * 7 + 1, none⟩ = some (.int .i64 x.n) ∧ wx.cell? ⟨b, off + k * 7 + 2, none⟩ = some (.int .i64 x.l) ∧ wx.cell? ⟨b, off + k * 7 + 3, none⟩ = some (.int .i64 x.h) ∧ wx.cell? ⟨b, off + k * 7 + 4, none⟩ = some (.int .i64 x.a) ∧ wx.cell? ⟨b, off + k * 7 + 5, none⟩ = some (.int .i64 x.p) ∧ wx.cell? ⟨b, off + k * 7 + 6, none⟩ = some (.int .i64 x.s)) (by kernel_rfl) HS0 (fun hHeld => ?_)
                refine wpAnyH_take (i := 0) (oi := ?o55) (v := ?v55) ?i55 (by kernel_rfl) (by kernel_rfl) (by kernel_rfl) ?q55 ?y55 (hHeld) ?r55
                case i55 => exact rfl
                case q55 => exact (fun _ _ _ h => h)
                case y55 =>
                  refine Or.inl ⟨by rfl, ?_⟩
                  intro w hSw
                  (try dsimp only at hSw)
                  go_simp
                  first | done | rfl
                try simp only [Act.put, List.getElem_toArray, List.getElem_cons_zero, List.getElem_cons_succ, List.setIfInBounds_toArray, List.set_cons_zero, List.set_cons_succ]
                refine wpAnyH_take (i := 1) (oi := ?o56) (v := ?v56) ?i56 (by kernel_rfl) (by kernel_rfl) (by kernel_rfl) ?q56 ?y56 (hHeld) ?r56
                case i56 => exact rfl
                case q56 => exact (fun _ _ _ h => h)
                case y56 =>
                  refine Or.inl ⟨by rfl, ?_⟩
                  intro w hSw
                  (try dsimp only at hSw)
                  go_simp
                  first | done | rfl
                try simp only [Act.put, List.getElem_toArray, List.getElem_cons_zero, List.getElem_cons_succ, List.setIfInBounds_toArray, List.set_cons_zero, List.set_cons_succ]
                refine wpAnyH_take (i := 2) (oi := ?o57) (v := ?v57) ?i57 (by kernel_rfl) (by kernel_rfl) (by kernel_rfl) ?q57 ?y57 (hHeld) ?r57
                case i57 => exact rfl
                case q57 => exact (fun _ _ _ h => h)
                case y57 =>
                  refine Or.inl ⟨by rfl, ?_⟩
                  intro w hSw
                  (try dsimp only at hSw)
                  go_simp
                  first | done | rfl
                try simp only [Act.put, List.getElem_toArray, List.getElem_cons_zero, List.getElem_cons_succ, List.setIfInBounds_toArray, List.set_cons_zero, List.set_cons_succ]
                refine wpAnyH_take (i := 3) (oi := ?o58) (v := ?v58) ?i58 (by kernel_rfl) (by kernel_rfl) (by kernel_rfl) ?q58 ?y58 (hHeld) ?r58
                case i58 => exact rfl
                case q58 => exact (fun _ _ _ h => h)
                case y58 =>
                  refine Or.inl ⟨by rfl, ?_⟩
                  intro w hSw
                  (try dsimp only at hSw)
                  go_simp
                  first | done | rfl
                try simp only [Act.put, List.getElem_toArray, List.getElem_cons_zero, List.getElem_cons_succ, List.setIfInBounds_toArray, List.set_cons_zero, List.set_cons_succ]
                refine wpAnyH_take (i := 4) (oi := ?o59) (v := ?v59) ?i59 (by kernel_rfl) (by kernel_rfl) (by kernel_rfl) ?q59 ?y59 (hHeld) ?r59
                case i59 => exact rfl
                case q59 => exact (fun _ _ _ h => h)
                case y59 =>
                  refine Or.inl ⟨by rfl, ?_⟩
                  intro w hSw
                  (try dsimp only at hSw)
                  go_simp
                  first | done | rfl
                try simp only [Act.put, List.getElem_toArray, List.getElem_cons_zero, List.getElem_cons_succ, List.setIfInBounds_toArray, List.set_cons_zero, List.set_cons_succ]
                refine wpAnyH_ready (rs := [5]) (by kernel_rfl) (by simp) ?_
                refine AllReadyH.cons (i := 5) (o := ?o60) ?i60 (fun K hK => ?_) AllReadyH.nil
                case i60 => exact rfl
                go_simp
                (with_reducible refine (HO _).mono ?_)
                rintro e wa ⟨rfl, hba⟩
                have HSa := HST.out hHeld hba
                go_wp2_with fail
                refine hK.out _ _ (HSa) (fun hHeld => ?_)
                clear hK K
                try simp only [Act.put, List.getElem_toArray, List.getElem_cons_zero, List.getElem_cons_succ, List.setIfInBounds_toArray, List.set_cons_zero, List.set_cons_succ]
                refine wpAnyH_take (i := 6) (oi := ?o61) (v := ?v61) ?i61 (by kernel_rfl) (by kernel_rfl) (by kernel_rfl) ?q61 ?y61 (hHeld) ?r61
                case i61 => exact rfl
                case q61 => exact (fun _ _ _ h => h)
                case y61 =>
                  refine Or.inl ⟨by rfl, ?_⟩
                  intro w hSw
                  (try dsimp only at hSw)
                  go_simp
                  first | done | rfl
                try simp only [Act.put, List.getElem_toArray, List.getElem_cons_zero, List.getElem_cons_succ, List.setIfInBounds_toArray, List.set_cons_zero, List.set_cons_succ]
                refine wpAnyH_take (i := 7) (oi := ?o62) (v := ?v62) ?i62 (by kernel_rfl) (by kernel_rfl) (by kernel_rfl) ?q62 ?y62 (hHeld) ?r62
                case i62 => exact rfl
                case q62 => exact (fun _ _ _ h => h)
                case y62 =>
                  refine Or.inl ⟨by rfl, ?_⟩
                  intro w hSw
                  (try dsimp only at hSw)
                  go_simp
                  first | done | rfl
                try simp only [Act.put, List.getElem_toArray, List.getElem_cons_zero, List.getElem_cons_succ, List.setIfInBounds_toArray, List.set_cons_zero, List.set_cons_succ]
                refine wpAnyH_take (i := 8) (oi := ?o63) (v := ?v63) ?i63 (by kernel_rfl) (by kernel_rfl) (by kernel_rfl) ?q63 ?y63 (hHeld) ?r63
                case i63 => exact rfl
                case q63 => exact (fun _ _ _ h => h)
                case y63 =>
                  refine Or.inl ⟨by rfl, ?_⟩
                  intro w hSw
                  (try dsimp only at hSw)
                  go_simp
                  first | done | rfl
                try simp only [Act.put, List.getElem_toArray, List.getElem_cons_zero, List.getElem_cons_succ, List.setIfInBounds_toArray, List.set_cons_zero, List.set_cons_succ]
                refine wpAnyH_take (i := 9) (oi := ?o64) (v := ?v64) ?i64 (by kernel_rfl) (by kernel_rfl) (by kernel_rfl) ?q64 ?y64 (hHeld) ?r64
                case i64 => exact rfl
                case q64 => exact (fun _ _ _ h => h)
                case y64 =>
                  refine Or.inl ⟨by rfl, ?_⟩
                  intro w hSw
                  (try dsimp only at hSw)
                  go_simp
                  first | done | rfl
                try simp only [Act.put, List.getElem_toArray, List.getElem_cons_zero, List.getElem_cons_succ, List.setIfInBounds_toArray, List.set_cons_zero, List.set_cons_succ]
                refine wpAnyH_take (i := 10) (oi := ?o65) (v := ?v65) ?i65 (by kernel_rfl) (by kernel_rfl) (by kernel_rfl) ?q65 ?y65 (hHeld) ?r65
                case i65 => exact rfl
                case q65 => exact (fun _ _ _ h => h)
                case y65 =>
                  refine Or.inl ⟨by rfl, ?_⟩
                  intro w hSw
                  (try dsimp only at hSw)
                  go_simp
                  first | done | rfl
                try simp only [Act.put, List.getElem_toArray, List.getElem_cons_zero, List.getElem_cons_succ, List.setIfInBounds_toArray, List.set_cons_zero, List.set_cons_succ]
                refine wpAnyH_take (i := 11) (oi := ?o66) (v := ?v66) ?i66 (by kernel_rfl) (by kernel_rfl) (by kernel_rfl) ?q66 ?y66 (hHeld) ?r66
                case i66 => exact rfl
                case q66 => exact (fun _ _ _ h => h)
                case y66 =>
                  refine Or.inl ⟨by rfl, ?_⟩
                  intro w hSw
                  (try dsimp only at hSw)
                  go_simp
                  first | done | rfl
                try simp only [Act.put, List.getElem_toArray, List.getElem_cons_zero, List.getElem_cons_succ, List.setIfInBounds_toArray, List.set_cons_zero, List.set_cons_succ]
                refine wpAnyH_take (i := 12) (oi := ?o67) (v := ?v67) ?i67 (by kernel_rfl) (by kernel_rfl) (by kernel_rfl) ?q67 ?y67 (hHeld) ?r67
                case i67 => exact rfl
                case q67 => exact (fun _ _ _ h => h)
                case y67 =>
                  refine Or.inl ⟨by rfl, ?_⟩
                  intro w hSw
                  (try dsimp only at hSw)
                  go_simp
                  first | done | rfl
                try simp only [Act.put, List.getElem_toArray, List.getElem_cons_zero, List.getElem_cons_succ, List.setIfInBounds_toArray, List.set_cons_zero, List.set_cons_succ]
                refine wpAnyH_ready (rs := [13]) (by kernel_rfl) (by simp) ?_
                refine AllReadyH.cons (i := 13) (o := ?o68) ?i68 (fun K hK => ?_) AllReadyH.nil
                case i68 => exact rfl
                go_simp
                (with_reducible refine (HD _).mono ?_)
                rintro e wb ⟨rfl, hbb⟩
                have HSb := HST.out hHeld hbb
                go_wp2_with fail
                refine hK.out _ _ (HSb) (fun hHeld => ?_)
                clear hK K
                try simp only [Act.put, List.getElem_toArray, List.getElem_cons_zero, List.getElem_cons_succ, List.setIfInBounds_toArray, List.set_cons_zero, List.set_cons_succ]
                refine wpAnyH_take (i := 14) (oi := ?o69) (v := ?v69) ?i69 (by kernel_rfl) (by kernel_rfl) (by kernel_rfl) ?q69 ?y69 (hHeld) ?r69
                case i69 => exact rfl
                case q69 => exact (fun _ _ _ h => h)
                case y69 =>
                  refine Or.inl ⟨by rfl, ?_⟩
                  intro w hSw
                  (try dsimp only at hSw)
                  go_simp
                  first | done | rfl
                try simp only [Act.put, List.getElem_toArray, List.getElem_cons_zero, List.getElem_cons_succ, List.setIfInBounds_toArray, List.set_cons_zero, List.set_cons_succ]
                refine wpAnyH_take (i := 15) (oi := ?o70) (v := ?v70) ?i70 (by kernel_rfl) (by kernel_rfl) (by kernel_rfl) ?q70 ?y70 (hHeld) ?r70
                case i70 => exact rfl
                case q70 => exact (fun _ _ _ h => h)
                case y70 =>
                  refine Or.inl ⟨by rfl, ?_⟩
                  intro w hSw
                  (try dsimp only at hSw)
                  go_simp
                  first | done | rfl
                try simp only [Act.put, List.getElem_toArray, List.getElem_cons_zero, List.getElem_cons_succ, List.setIfInBounds_toArray, List.set_cons_zero, List.set_cons_succ]
                refine wpAnyH_take (i := 16) (oi := ?o71) (v := ?v71) ?i71 (by kernel_rfl) (by kernel_rfl) (by kernel_rfl) ?q71 ?y71 (hHeld) ?r71
                case i71 => exact rfl
                case q71 => exact (fun _ _ _ h => h)
                case y71 =>
                  refine Or.inl ⟨by rfl, ?_⟩
                  intro w hSw
                  (try dsimp only at hSw)
                  go_simp
                  first | done | rfl
                try simp only [Act.put, List.getElem_toArray, List.getElem_cons_zero, List.getElem_cons_succ, List.setIfInBounds_toArray, List.set_cons_zero, List.set_cons_succ]
                refine wpAnyH_take (i := 17) (oi := ?o72) (v := ?v72) ?i72 (by kernel_rfl) (by kernel_rfl) (by kernel_rfl) ?q72 ?y72 (hHeld) ?r72
                case i72 => exact rfl
                case q72 => exact (fun _ _ _ h => h)
                case y72 =>
                  refine Or.inl ⟨by rfl, ?_⟩
                  intro w hSw
                  (try dsimp only at hSw)
                  go_simp
                  first | done | rfl
                try simp only [Act.put, List.getElem_toArray, List.getElem_cons_zero, List.getElem_cons_succ, List.setIfInBounds_toArray, List.set_cons_zero, List.set_cons_succ]
                refine wpAnyH_take (i := 18) (oi := ?o73) (v := ?v73) ?i73 (by kernel_rfl) (by kernel_rfl) (by kernel_rfl) ?q73 ?y73 (hHeld) ?r73
                case i73 => exact rfl
                case q73 => exact (fun _ _ _ h => h)
                case y73 =>
                  refine Or.inl ⟨by rfl, ?_⟩
                  intro w hSw
                  (try dsimp only at hSw)
                  go_simp
                  first | done | rfl
                try simp only [Act.put, List.getElem_toArray, List.getElem_cons_zero, List.getElem_cons_succ, List.setIfInBounds_toArray, List.set_cons_zero, List.set_cons_succ]
                refine wpAnyH_take (i := 19) (oi := ?o74) (v := ?v74) ?i74 (by kernel_rfl) (by kernel_rfl) (by kernel_rfl) ?q74 ?y74 (hHeld) ?r74
                case i74 => exact rfl
                case q74 => exact (fun _ _ _ h => h)
                case y74 =>
                  refine Or.inl ⟨by rfl, ?_⟩
                  intro w hSw
                  (try dsimp only at hSw)
                  go_simp
                  first | done | rfl
                try simp only [Act.put, List.getElem_toArray, List.getElem_cons_zero, List.getElem_cons_succ, List.setIfInBounds_toArray, List.set_cons_zero, List.set_cons_succ]
                refine wpAnyH_take (i := 20) (oi := ?o75) (v := ?v75) ?i75 (by kernel_rfl) (by kernel_rfl) (by kernel_rfl) ?q75 ?y75 (hHeld) ?r75
                case i75 => exact rfl
                case q75 => exact (fun _ _ _ h => h)
                case y75 =>
                  refine Or.inl ⟨by rfl, ?_⟩
                  intro w hSw
                  (try dsimp only at hSw)
                  go_simp
                  first | done | rfl
                try simp only [Act.put, List.getElem_toArray, List.getElem_cons_zero, List.getElem_cons_succ, List.setIfInBounds_toArray, List.set_cons_zero, List.set_cons_succ]
                refine wpAnyH_take (i := 21) (oi := ?o76) (v := ?v76) ?i76 (by kernel_rfl) (by kernel_rfl) (by kernel_rfl) ?q76 ?y76 (hHeld) ?r76
                case i76 => exact rfl
                case q76 => exact (fun _ _ _ h => h)
                case y76 =>
                  refine Or.inl ⟨by rfl, ?_⟩
                  intro w hSw
                  (try dsimp only at hSw)
                  go_simp
                  first | done | rfl
                try simp only [Act.put, List.getElem_toArray, List.getElem_cons_zero, List.getElem_cons_succ, List.setIfInBounds_toArray, List.set_cons_zero, List.set_cons_succ]
                refine wpAnyH_take (i := 22) (oi := ?o77) (v := ?v77) ?i77 (by kernel_rfl) (by kernel_rfl) (by kernel_rfl) ?q77 ?y77 (hHeld) ?r77
                case i77 => exact rfl
                case q77 => exact (fun _ _ _ h => h)
                case y77 =>
                  refine Or.inl ⟨by rfl, ?_⟩
                  intro w hSw
                  (try dsimp only at hSw)
                  go_simp
                  first | done | rfl
                try simp only [Act.put, List.getElem_toArray, List.getElem_cons_zero, List.getElem_cons_succ, List.setIfInBounds_toArray, List.set_cons_zero, List.set_cons_succ]
                refine wpAnyH_take (i := 23) (oi := ?o78) (v := ?v78) ?i78 (by kernel_rfl) (by kernel_rfl) (by kernel_rfl) ?q78 ?y78 (hHeld) ?r78
                case i78 => exact rfl
                case q78 => exact (fun _ _ _ h => h)
                case y78 =>
                  refine Or.inl ⟨by rfl, ?_⟩
                  intro w hSw
                  (try dsimp only at hSw)
                  go_simp
                  first | done | rfl
                try simp only [Act.put, List.getElem_toArray, List.getElem_cons_zero, List.getElem_cons_succ, List.setIfInBounds_toArray, List.set_cons_zero, List.set_cons_succ]
                refine wpAnyH_take (i := 24) (oi := ?o79) (v := ?v79) ?i79 (by kernel_rfl) (by kernel_rfl) (by kernel_rfl) ?q79 ?y79 (hHeld) ?r79
                case i79 => exact rfl
                case q79 => exact (fun _ _ _ h => h)
                case y79 =>
                  refine Or.inl ⟨by rfl, ?_⟩
                  intro w hSw
                  (try dsimp only at hSw)
                  go_simp
                  first | done | rfl
                try simp only [Act.put, List.getElem_toArray, List.getElem_cons_zero, List.getElem_cons_succ, List.setIfInBounds_toArray, List.set_cons_zero, List.set_cons_succ]
                refine wpAnyH_take (i := 25) (oi := ?o80) (v := ?v80) ?i80 (by kernel_rfl) (by kernel_rfl) (by kernel_rfl) ?q80 ?y80 (hHeld) ?r80
                case i80 => exact rfl
                case q80 => exact (fun _ _ _ h => h)
                case y80 =>
                  refine Or.inl ⟨by rfl, ?_⟩
                  intro w hSw
                  (try dsimp only at hSw)
                  go_simp
                  first | done | rfl
                try simp only [Act.put, List.getElem_toArray, List.getElem_cons_zero, List.getElem_cons_succ, List.setIfInBounds_toArray, List.set_cons_zero, List.set_cons_succ]
                refine wpAnyH_take (i := 26) (oi := ?o81) (v := ?v81) ?i81 (by kernel_rfl) (by kernel_rfl) (by kernel_rfl) ?q81 ?y81 (hHeld) ?r81
                case i81 => exact rfl
                case q81 => exact (fun _ _ _ h => h)
                case y81 =>
                  refine Or.inl ⟨by rfl, ?_⟩
                  intro w hSw
                  (try dsimp only at hSw)
                  go_simp
                  first | done | rfl
                try simp only [Act.put, List.getElem_toArray, List.getElem_cons_zero, List.getElem_cons_succ, List.setIfInBounds_toArray, List.set_cons_zero, List.set_cons_succ]
                refine wpAnyH_done (by kernel_rfl) ?_ _
                go_wp2_with fail
                go_ret
                exact ⟨rb (by rw [HM.out]; exact (memB_no HX.out (by rw [Hl.out, fitW]; simp [okW, dataW, hok, hda, hh])).symm), (hbw.drew.trans (hba.mono hbw.size)).trans (hbb.mono (Nat.le_trans hbw.size hba.size))⟩
              ·
                go_wp2_with fail
                refine wp_region_held_drew (S := fun wx => wx.cell? ⟨g, 0, none⟩ = some (.slice (some ⟨b, off, none⟩) n c) ∧ wx.cell? ⟨b, off + k * 7, none⟩ = some (.bool x.t) ∧ wx.cell? ⟨b, off + k * 7 + 1, none⟩ = some (.int .i64 x.n) ∧ wx.cell? ⟨b, off + k * 7 + 2, none⟩ = some (.int .i64 x.l) ∧ wx.cell? ⟨b, off + k * 7 + 3, none⟩ = some (.int .i64 x.h) ∧ wx.cell? ⟨b, off + k * 7 + 4, none⟩ = some (.int .i64 x.a) ∧ wx.cell? ⟨b, off + k * 7 + 5, none⟩ = some (.int .i64 x.p) ∧ wx.cell? ⟨b, off + k * 7 + 6, none⟩ = some (.int .i64 x.s)) (by kernel_rfl) HS0 (fun hHeld => ?_)
                refine wpAnyH_take (i := 0) (oi := ?o82) (v := ?v82) ?i82 (by kernel_rfl) (by kernel_rfl) (by kernel_rfl) ?q82 ?y82 (hHeld) ?r82
                case i82 => exact rfl
                case q82 => exact (fun _ _ _ h => h)
                case y82 =>
                  refine Or.inl ⟨by rfl, ?_⟩
                  intro w hSw
                  (try dsimp only at hSw)
                  go_simp
                  first | done | rfl
                try simp only [Act.put, List.getElem_toArray, List.getElem_cons_zero, List.getElem_cons_succ, List.setIfInBounds_toArray, List.set_cons_zero, List.set_cons_succ]
                refine wpAnyH_take (i := 1) (oi := ?o83) (v := ?v83) ?i83 (by kernel_rfl) (by kernel_rfl) (by kernel_rfl) ?q83 ?y83 (hHeld) ?r83
                case i83 => exact rfl
                case q83 => exact (fun _ _ _ h => h)
                case y83 =>
                  refine Or.inl ⟨by rfl, ?_⟩
                  intro w hSw
                  (try dsimp only at hSw)
                  go_simp
                  first | done | rfl
                try simp only [Act.put, List.getElem_toArray, List.getElem_cons_zero, List.getElem_cons_succ, List.setIfInBounds_toArray, List.set_cons_zero, List.set_cons_succ]
                refine wpAnyH_take (i := 2) (oi := ?o84) (v := ?v84) ?i84 (by kernel_rfl) (by kernel_rfl) (by kernel_rfl) ?q84 ?y84 (hHeld) ?r84
                case i84 => exact rfl
                case q84 => exact (fun _ _ _ h => h)
                case y84 =>
                  refine Or.inl ⟨by rfl, ?_⟩
                  intro w hSw
                  (try dsimp only at hSw)
                  go_simp
                  first | done | rfl
                try simp only [Act.put, List.getElem_toArray, List.getElem_cons_zero, List.getElem_cons_succ, List.setIfInBounds_toArray, List.set_cons_zero, List.set_cons_succ]
                refine wpAnyH_take (i := 3) (oi := ?o85) (v := ?v85) ?i85 (by kernel_rfl) (by kernel_rfl) (by kernel_rfl) ?q85 ?y85 (hHeld) ?r85
                case i85 => exact rfl
                case q85 => exact (fun _ _ _ h => h)
                case y85 =>
                  refine Or.inl ⟨by rfl, ?_⟩
                  intro w hSw
                  (try dsimp only at hSw)
                  go_simp
                  first | done | rfl
                try simp only [Act.put, List.getElem_toArray, List.getElem_cons_zero, List.getElem_cons_succ, List.setIfInBounds_toArray, List.set_cons_zero, List.set_cons_succ]
                refine wpAnyH_take (i := 4) (oi := ?o86) (v := ?v86) ?i86 (by kernel_rfl) (by kernel_rfl) (by kernel_rfl) ?q86 ?y86 (hHeld) ?r86
                case i86 => exact rfl
                case q86 => exact (fun _ _ _ h => h)
                case y86 =>
                  refine Or.inl ⟨by rfl, ?_⟩
                  intro w hSw
                  (try dsimp only at hSw)
                  go_simp
                  first | done | rfl
                try simp only [Act.put, List.getElem_toArray, List.getElem_cons_zero, List.getElem_cons_succ, List.setIfInBounds_toArray, List.set_cons_zero, List.set_cons_succ]
                refine wpAnyH_ready (rs := [5]) (by kernel_rfl) (by simp) ?_
                refine AllReadyH.cons (i := 5) (o := ?o87) ?i87 (fun K hK => ?_) AllReadyH.nil
                case i87 => exact rfl
                go_simp
                (with_reducible refine (HO _).mono ?_)
                rintro e wa ⟨rfl, hba⟩
                have HSa := HST.out hHeld hba
                go_wp2_with fail
                refine hK.out _ _ (HSa) (fun hHeld => ?_)
                clear hK K
                try simp only [Act.put, List.getElem_toArray, List.getElem_cons_zero, List.getElem_cons_succ, List.setIfInBounds_toArray, List.set_cons_zero, List.set_cons_succ]
                refine wpAnyH_take (i := 6) (oi := ?o88) (v := ?v88) ?i88 (by kernel_rfl) (by kernel_rfl) (by kernel_rfl) ?q88 ?y88 (hHeld) ?r88
                case i88 => exact rfl
                case q88 => exact (fun _ _ _ h => h)
                case y88 =>
                  refine Or.inl ⟨by rfl, ?_⟩
                  intro w hSw
                  (try dsimp only at hSw)
                  go_simp
                  first | done | rfl
                try simp only [Act.put, List.getElem_toArray, List.getElem_cons_zero, List.getElem_cons_succ, List.setIfInBounds_toArray, List.set_cons_zero, List.set_cons_succ]
                refine wpAnyH_take (i := 7) (oi := ?o89) (v := ?v89) ?i89 (by kernel_rfl) (by kernel_rfl) (by kernel_rfl) ?q89 ?y89 (hHeld) ?r89
                case i89 => exact rfl
                case q89 => exact (fun _ _ _ h => h)
                case y89 =>
                  refine Or.inl ⟨by rfl, ?_⟩
                  intro w hSw
                  (try dsimp only at hSw)
                  go_simp
                  first | done | rfl
                try simp only [Act.put, List.getElem_toArray, List.getElem_cons_zero, List.getElem_cons_succ, List.setIfInBounds_toArray, List.set_cons_zero, List.set_cons_succ]
                refine wpAnyH_take (i := 8) (oi := ?o90) (v := ?v90) ?i90 (by kernel_rfl) (by kernel_rfl) (by kernel_rfl) ?q90 ?y90 (hHeld) ?r90
                case i90 => exact rfl
                case q90 => exact (fun _ _ _ h => h)
                case y90 =>
                  refine Or.inl ⟨by rfl, ?_⟩
                  intro w hSw
                  (try dsimp only at hSw)
                  go_simp
                  first | done | rfl
                try simp only [Act.put, List.getElem_toArray, List.getElem_cons_zero, List.getElem_cons_succ, List.setIfInBounds_toArray, List.set_cons_zero, List.set_cons_succ]
                refine wpAnyH_take (i := 9) (oi := ?o91) (v := ?v91) ?i91 (by kernel_rfl) (by kernel_rfl) (by kernel_rfl) ?q91 ?y91 (hHeld) ?r91
                case i91 => exact rfl
                case q91 => exact (fun _ _ _ h => h)
                case y91 =>
                  refine Or.inl ⟨by rfl, ?_⟩
                  intro w hSw
                  (try dsimp only at hSw)
                  go_simp
                  first | done | rfl
                try simp only [Act.put, List.getElem_toArray, List.getElem_cons_zero, List.getElem_cons_succ, List.setIfInBounds_toArray, List.set_cons_zero, List.set_cons_succ]
                refine wpAnyH_take (i := 10) (oi := ?o92) (v := ?v92) ?i92 (by kernel_rfl) (by kernel_rfl) (by kernel_rfl) ?q92 ?y92 (hHeld) ?r92
                case i92 => exact rfl
                case q92 => exact (fun _ _ _ h => h)
                case y92 =>
                  refine Or.inl ⟨by rfl, ?_⟩
                  intro w hSw
                  (try dsimp only at hSw)
                  go_simp
                  first | done | rfl
                try simp only [Act.put, List.getElem_toArray, List.getElem_cons_zero, List.getElem_cons_succ, List.setIfInBounds_toArray, List.set_cons_zero, List.set_cons_succ]
                refine wpAnyH_take (i := 11) (oi := ?o93) (v := ?v93) ?i93 (by kernel_rfl) (by kernel_rfl) (by kernel_rfl) ?q93 ?y93 (hHeld) ?r93
                case i93 => exact rfl
                case q93 => exact (fun _ _ _ h => h)
                case y93 =>
                  refine Or.inl ⟨by rfl, ?_⟩
                  intro w hSw
                  (try dsimp only at hSw)
                  go_simp
                  first | done | rfl
                try simp only [Act.put, List.getElem_toArray, List.getElem_cons_zero, List.getElem_cons_succ, List.setIfInBounds_toArray, List.set_cons_zero, List.set_cons_succ]
                refine wpAnyH_take (i := 12) (oi := ?o94) (v := ?v94) ?i94 (by kernel_rfl) (by kernel_rfl) (by kernel_rfl) ?q94 ?y94 (hHeld) ?r94
                case i94 => exact rfl
                case q94 => exact (fun _ _ _ h => h)
                case y94 =>
                  refine Or.inl ⟨by rfl, ?_⟩
                  intro w hSw
                  (try dsimp only at hSw)
                  go_simp
                  first | done | rfl
                try simp only [Act.put, List.getElem_toArray, List.getElem_cons_zero, List.getElem_cons_succ, List.setIfInBounds_toArray, List.set_cons_zero, List.set_cons_succ]
                refine wpAnyH_ready (rs := [13]) (by kernel_rfl) (by simp) ?_
                refine AllReadyH.cons (i := 13) (o := ?o95) ?i95 (fun K hK => ?_) AllReadyH.nil
                case i95 => exact rfl
                go_simp
                (with_reducible refine (HD _).mono ?_)
                rintro e wb ⟨rfl, hbb⟩
                have HSb := HST.out hHeld hbb
                go_wp2_with fail
                refine hK.out _ _ (HSb) (fun hHeld => ?_)
                clear hK K
                try simp only [Act.put, List.getElem_toArray, List.getElem_cons_zero, List.getElem_cons_succ, List.setIfInBounds_toArray, List.set_cons_zero, List.set_cons_succ]
                refine wpAnyH_take (i := 14) (oi := ?o96) (v := ?v96) ?i96 (by kernel_rfl) (by kernel_rfl) (by kernel_rfl) ?q96 ?y96 (hHeld) ?r96
                case i96 => exact rfl
                case q96 => exact (fun _ _ _ h => h)
                case y96 =>
                  refine Or.inl ⟨by rfl, ?_⟩
                  intro w hSw
                  (try dsimp only at hSw)
                  go_simp
                  first | done | rfl
                try simp only [Act.put, List.getElem_toArray, List.getElem_cons_zero, List.getElem_cons_succ, List.setIfInBounds_toArray, List.set_cons_zero, List.set_cons_succ]
                refine wpAnyH_take (i := 15) (oi := ?o97) (v := ?v97) ?i97 (by kernel_rfl) (by kernel_rfl) (by kernel_rfl) ?q97 ?y97 (hHeld) ?r97
                case i97 => exact rfl
                case q97 => exact (fun _ _ _ h => h)
                case y97 =>
                  refine Or.inl ⟨by rfl, ?_⟩
                  intro w hSw
                  (try dsimp only at hSw)
                  go_simp
                  first | done | rfl
                try simp only [Act.put, List.getElem_toArray, List.getElem_cons_zero, List.getElem_cons_succ, List.setIfInBounds_toArray, List.set_cons_zero, List.set_cons_succ]
                refine wpAnyH_take (i := 16) (oi := ?o98) (v := ?v98) ?i98 (by kernel_rfl) (by kernel_rfl) (by kernel_rfl) ?q98 ?y98 (hHeld) ?r98
                case i98 => exact rfl
                case q98 => exact (fun _ _ _ h => h)
                case y98 =>
                  refine Or.inl ⟨by rfl, ?_⟩
                  intro w hSw
                  (try dsimp only at hSw)
                  go_simp
                  first | done | rfl
                try simp only [Act.put, List.getElem_toArray, List.getElem_cons_zero, List.getElem_cons_succ, List.setIfInBounds_toArray, List.set_cons_zero, List.set_cons_succ]
                refine wpAnyH_take (i := 17) (oi := ?o99) (v := ?v99) ?i99 (by kernel_rfl) (by kernel_rfl) (by kernel_rfl) ?q99 ?y99 (hHeld) ?r99
                case i99 => exact rfl
                case q99 => exact (fun _ _ _ h => h)
                case y99 =>
                  refine Or.inl ⟨by rfl, ?_⟩
                  intro w hSw
                  (try dsimp only at hSw)
                  go_simp
                  first | done | rfl
                try simp only [Act.put, List.getElem_toArray, List.getElem_cons_zero, List.getElem_cons_succ, List.setIfInBounds_toArray, List.set_cons_zero, List.set_cons_succ]
                refine wpAnyH_take (i := 18) (oi := ?o100) (v := ?v100) ?i100 (by kernel_rfl) (by kernel_rfl) (by kernel_rfl) ?q100 ?y100 (hHeld) ?r100
                case i100 => exact rfl
                case q100 => exact (fun _ _ _ h => h)
                case y100 =>
                  refine Or.inl ⟨by rfl, ?_⟩
                  intro w hSw
                  (try dsimp only at hSw)
                  go_simp
                  first | done | rfl
                try simp only [Act.put, List.getElem_toArray, List.getElem_cons_zero, List.getElem_cons_succ, List.setIfInBounds_toArray, List.set_cons_zero, List.set_cons_succ]
                refine wpAnyH_take (i := 19) (oi := ?o101) (v := ?v101) ?i101 (by kernel_rfl) (by kernel_rfl) (by kernel_rfl) ?q101 ?y101 (hHeld) ?r101
                case i101 => exact rfl
                case q101 => exact (fun _ _ _ h => h)
                case y101 =>
                  refine Or.inl ⟨by rfl, ?_⟩
                  intro w hSw
                  (try dsimp only at hSw)
                  go_simp
                  first | done | rfl
                try simp only [Act.put, List.getElem_toArray, List.getElem_cons_zero, List.getElem_cons_succ, List.setIfInBounds_toArray, List.set_cons_zero, List.set_cons_succ]
                refine wpAnyH_take (i := 20) (oi := ?o102) (v := ?v102) ?i102 (by kernel_rfl) (by kernel_rfl) (by kernel_rfl) ?q102 ?y102 (hHeld) ?r102
                case i102 => exact rfl
                case q102 => exact (fun _ _ _ h => h)
                case y102 =>
                  refine Or.inl ⟨by rfl, ?_⟩
                  intro w hSw
                  (try dsimp only at hSw)
                  go_simp
                  first | done | rfl
                try simp only [Act.put, List.getElem_toArray, List.getElem_cons_zero, List.getElem_cons_succ, List.setIfInBounds_toArray, List.set_cons_zero, List.set_cons_succ]
                refine wpAnyH_take (i := 21) (oi := ?o103) (v := ?v103) ?i103 (by kernel_rfl) (by kernel_rfl) (by kernel_rfl) ?q103 ?y103 (hHeld) ?r103
                case i103 => exact rfl
                case q103 => exact (fun _ _ _ h => h)
                case y103 =>
                  refine Or.inl ⟨by rfl, ?_⟩
                  intro w hSw
                  (try dsimp only at hSw)
                  go_simp
                  first | done | rfl
                try simp only [Act.put, List.getElem_toArray, List.getElem_cons_zero, List.getElem_cons_succ, List.setIfInBounds_toArray, List.set_cons_zero, List.set_cons_succ]
                refine wpAnyH_take (i := 22) (oi := ?o104) (v := ?v104) ?i104 (by kernel_rfl) (by kernel_rfl) (by kernel_rfl) ?q104 ?y104 (hHeld) ?r104
                case i104 => exact rfl
                case q104 => exact (fun _ _ _ h => h)
                case y104 =>
                  refine Or.inl ⟨by rfl, ?_⟩
                  intro w hSw
                  (try dsimp only at hSw)
                  go_simp
                  first | done | rfl
                try simp only [Act.put, List.getElem_toArray, List.getElem_cons_zero, List.getElem_cons_succ, List.setIfInBounds_toArray, List.set_cons_zero, List.set_cons_succ]
                refine wpAnyH_take (i := 23) (oi := ?o105) (v := ?v105) ?i105 (by kernel_rfl) (by kernel_rfl) (by kernel_rfl) ?q105 ?y105 (hHeld) ?r105
                case i105 => exact rfl
                case q105 => exact (fun _ _ _ h => h)
                case y105 =>
                  refine Or.inl ⟨by rfl, ?_⟩
                  intro w hSw
                  (try dsimp only at hSw)
                  go_simp
                  first | done | rfl
                try simp only [Act.put, List.getElem_toArray, List.getElem_cons_zero, List.getElem_cons_succ, List.setIfInBounds_toArray, List.set_cons_zero, List.set_cons_succ]
                refine wpAnyH_take (i := 24) (oi := ?o106) (v := ?v106) ?i106 (by kernel_rfl) (by kernel_rfl) (by kernel_rfl) ?q106 ?y106 (hHeld) ?r106
                case i106 => exact rfl
                case q106 => exact (fun _ _ _ h => h)
                case y106 =>
                  refine Or.inl ⟨by rfl, ?_⟩
                  intro w hSw
                  (try dsimp only at hSw)
                  go_simp
                  first | done | rfl
                try simp only [Act.put, List.getElem_toArray, List.getElem_cons_zero, List.getElem_cons_succ, List.setIfInBounds_toArray, List.set_cons_zero, List.set_cons_succ]
                refine wpAnyH_take (i := 25) (oi := ?o107) (v := ?v107) ?i107 (by kernel_rfl) (by kernel_rfl) (by kernel_rfl) ?q107 ?y107 (hHeld) ?r107
                case i107 => exact rfl
                case q107 => exact (fun _ _ _ h => h)
                case y107 =>
                  refine Or.inl ⟨by rfl, ?_⟩
                  intro w hSw
                  (try dsimp only at hSw)
                  go_simp
                  first | done | rfl
                try simp only [Act.put, List.getElem_toArray, List.getElem_cons_zero, List.getElem_cons_succ, List.setIfInBounds_toArray, List.set_cons_zero, List.set_cons_succ]
                refine wpAnyH_take (i := 26) (oi := ?o108) (v := ?v108) ?i108 (by kernel_rfl) (by kernel_rfl) (by kernel_rfl) ?q108 ?y108 (hHeld) ?r108
                case i108 => exact rfl
                case q108 => exact (fun _ _ _ h => h)
                case y108 =>
                  refine Or.inl ⟨by rfl, ?_⟩
                  intro w hSw
                  (try dsimp only at hSw)
                  go_simp
                  first | done | rfl
                try simp only [Act.put, List.getElem_toArray, List.getElem_cons_zero, List.getElem_cons_succ, List.setIfInBounds_toArray, List.set_cons_zero, List.set_cons_succ]
                refine wpAnyH_done (by kernel_rfl) ?_ _
                have hb0 : Below w0.heap.size w0 wb := (hbr.drew.trans (hba.mono hbr.size)).trans (hbb.mono (Nat.le_trans hbr.size hba.size))
                have hfx : fitW n x = true := by rw [fitW]; simp [okW, dataW, hok, hda, hh]
                go_wp2_with fail
                go_roundw
                case rel => exact ⟨k + 1, by omega, by go_num, hb0, fit_next HX.out hfx hfit.out⟩
                case measure => simp [intOf]; omega
        · go_wp2_with fail
          go_ret
          have hkn : k = n := by omega
          subst hkn
          exact ⟨rb (by rw [HM.out]; exact (memB_yes Hl.out (by omega) hfit.out).symm), hbw⟩
end Go.Proofs.YtkiaglpgfgoaiaaDoor

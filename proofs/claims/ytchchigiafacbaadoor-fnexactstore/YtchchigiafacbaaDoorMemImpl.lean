/- What the program tells of a memory: as the specification. -/
import Derived.Test.YtchchigiafacbaaDoorMemSpec
namespace Go.Proofs.YtchchigiafacbaaDoor
open Go.RowKit
set_option linter.unusedVariables false
set_option linter.unusedSimpArgs false

theorem fit_iff (n : Nat) (x : Wd) : fitW n x = (okW x && !(decide ((n : Int) < x.h))) := by
  cases hok : okW x
  · simp [fitW, hok]
  · cases hd : dataW x
    · have hz : x.h = 0 := by
        have hw : wayB x.t x.n x.l x.h x.a x.p x.s = false := by
          rw [← way_iff, show okB x.t x.n x.l x.h x.a x.p x.s = true from hok, show (x.t && (x.s == 0)) = false from hd]; rfl
        have h := hok
        rw [okW, okB, hw, Bool.or_false, Bool.or_eq_true] at h
        rcases h with h | h
        · simp [isIntB] at h; exact h.1.2.2.1
        · simp [entryB] at h; exact h.1.2.2.2
      have : ¬ ((n : Int) < x.h) := by omega
      simp [fitW, hok, hd, this]
    · simp [fitW, hok, hd]

set_option maxRecDepth 100000 in
set_option maxHeartbeats 4000000 in
theorem isOkM (g : Nat) (a : Option Addr) (n c : Nat) (l : List Wd) (w : World) (hg0 : w.heap[g]? = some (.cells #[.slice a n c] 33 (0, 0))) (h : WRow w a n l) (h64 : ∀ x ∈ l, In64 x.s) (hn : n ≤ 1048576) :
    Calls Tryd.prog 34 #[.pointer (some ⟨g, 0, none⟩)] w fun e w' => e = .returned (.bool (memB l)) ∧ Below w.heap.size w w' := by
  have hl := h.1
  obtain ⟨cg, _⟩ := one_facts hg0
  by_cases hbig : 4000 < n
  · have hR : memB l = false := by simp [memB, hl]; omega
    rw [hR]
    clear hR h hl h64
    go_enter Tryd.func34, Tryd.ntmps34
    go_wp2_with fail
    go_ret
    exact ⟨rfl, (by repeat (first | exact Below.refl _ _ | assumption | (refine below_drewN ?_ _) | apply Below.drew | (refine Below.alloc ?_ ?_ _) | (refine Below.setCell ?_ ?_ _) | omega | (simp; omega) | simp))⟩
  · rcases Nat.eq_zero_or_pos n with h0 | hpos
    · subst h0
      have hR : memB l = true := by have : l = [] := List.length_eq_zero_iff.1 hl; subst this; rfl
      rw [hR]
      clear hR h hl hbig h64
      go_enter Tryd.func34, Tryd.ntmps34
      go_wp2_with fail
      refine wp_loop_rounds 1 ?_
      rw [rounds_succ]
      go_wp2_with fail
      go_ret
      exact ⟨rfl, (by repeat (first | exact Below.refl _ _ | assumption | (refine below_drewN ?_ _) | apply Below.drew | (refine Below.alloc ?_ ?_ _) | (refine Below.setCell ?_ ?_ _) | omega | (simp; omega) | simp))⟩
    · obtain ⟨b, off, rfl, hcc⟩ := h.2 hpos
      have HR : Hid (WRow w (some ⟨b, off, none⟩) n l) := h
      have Hl : Hid (l.length = n) := hl
      have H64 : Hid (∀ x ∈ l, In64 x.s) := h64
      obtain ⟨r, hr⟩ : ∃ r, r = memB l := ⟨_, rfl⟩
      rw [← hr]
      have HM : Hid _ := hr
      have hgb : g < w.heap.size := (Array.getElem?_eq_some_iff.1 hg0).1
      clear h hl hcc hr h64
      go_enter Tryd.func34, Tryd.ntmps34
      go_wp2_with fail
      clear cg
      go_loopw [16] (fun i wr => ∃ k : Nat, k ≤ n ∧ i = .int .i64 k ∧ Below w.heap.size w wr ∧ Hid (∀ j, j < k → ∀ x, l[j]? = some x → fitW n x = true)) (fun i _ => n - (intOf i).toNat)
      case atStart => exact ⟨0, Nat.zero_le _, rfl, Below.refl _ _, fun j hj => absurd hj (by omega)⟩
      case round =>
        obtain ⟨k, hk, rfl, hbr, hfit⟩ := hrel
        have hgr := (hbr.block g hgb).trans hg0
        obtain ⟨cg, _⟩ := one_facts hgr
        have hgr' : g < wr.heap.size := Nat.lt_of_lt_of_le hgb hbr.size
        by_cases hlt : k < n
        · obtain ⟨x, hx, p0, p1, p2, p3, p4, p5, p6⟩ := WRow.el (WRow.below (show WRow w (some ⟨b, off, none⟩) n l from HR.out) hbr) hlt
          have HX : Hid _ := hx
          have HO := implOkM x.t x.n x.l x.h x.a x.p x.s (H64.out x (List.mem_of_getElem? hx))
          clear hx
          go_wp2_with fail
          clear p0 p1 p2 p3 p4 p5 p6
          obtain ⟨wA, hA⟩ : ∃ wA, wA = wr.alloc (.cells #[.bool x.t, .int .i64 x.n, .int .i64 x.l, .int .i64 x.h, .int .i64 x.a, .int .i64 x.p, .int .i64 x.s] 26) := ⟨_, rfl⟩
          rw [← hA]
          have hbA : Below w.heap.size w wA := by rw [hA]; exact hbr.alloc hbr.size _
          have cgA : wA.cell? ⟨g, 0, none⟩ = some (.slice (some ⟨b, off, none⟩) n c) := by rw [hA, cell_alloc_old _ _ (by exact hgr')]; exact cg
          have cx_wA0 : wA.cell? ⟨wr.heap.size, 0, none⟩ = some (.bool (x.t)) := by rw [hA]; simp [go_sem]
          have cx_wA1 : wA.cell? ⟨wr.heap.size, 1, none⟩ = some (.int .i64 (x.n)) := by rw [hA]; simp [go_sem]
          have cx_wA2 : wA.cell? ⟨wr.heap.size, 2, none⟩ = some (.int .i64 (x.l)) := by rw [hA]; simp [go_sem]
          have cx_wA3 : wA.cell? ⟨wr.heap.size, 3, none⟩ = some (.int .i64 (x.h)) := by rw [hA]; simp [go_sem]
          have cx_wA4 : wA.cell? ⟨wr.heap.size, 4, none⟩ = some (.int .i64 (x.a)) := by rw [hA]; simp [go_sem]
          have cx_wA5 : wA.cell? ⟨wr.heap.size, 5, none⟩ = some (.int .i64 (x.p)) := by rw [hA]; simp [go_sem]
          have cx_wA6 : wA.cell? ⟨wr.heap.size, 6, none⟩ = some (.int .i64 (x.s)) := by rw [hA]; simp [go_sem]
          have hgx : wr.heap.size < wA.heap.size := by rw [hA]; simp
          have hgA : g < wA.heap.size := Nat.lt_trans hgr' hgx
          clear hA cg hgr hgr'
          generalize wr.heap.size = gx at *
          have HS0 : wA.drew.cell? ⟨g, 0, none⟩ = some (.slice (some ⟨b, off, none⟩) n c) ∧ wA.drew.cell? ⟨gx, 0, none⟩ = some (.bool x.t) ∧ wA.drew.cell? ⟨gx, 1, none⟩ = some (.int .i64 x.n) ∧ wA.drew.cell? ⟨gx, 2, none⟩ = some (.int .i64 x.l) ∧ wA.drew.cell? ⟨gx, 3, none⟩ = some (.int .i64 x.h) ∧ wA.drew.cell? ⟨gx, 4, none⟩ = some (.int .i64 x.a) ∧ wA.drew.cell? ⟨gx, 5, none⟩ = some (.int .i64 x.p) ∧ wA.drew.cell? ⟨gx, 6, none⟩ = some (.int .i64 x.s) := ⟨cgA, cx_wA0, cx_wA1, cx_wA2, cx_wA3, cx_wA4, cx_wA5, cx_wA6⟩
          have hstep : ∀ {wl : World}, Below wA.drew.heap.size wA.drew wl → wl.cell? ⟨g, 0, none⟩ = some (.slice (some ⟨b, off, none⟩) n c) ∧ wl.cell? ⟨gx, 0, none⟩ = some (.bool x.t) ∧ wl.cell? ⟨gx, 1, none⟩ = some (.int .i64 x.n) ∧ wl.cell? ⟨gx, 2, none⟩ = some (.int .i64 x.l) ∧ wl.cell? ⟨gx, 3, none⟩ = some (.int .i64 x.h) ∧ wl.cell? ⟨gx, 4, none⟩ = some (.int .i64 x.a) ∧ wl.cell? ⟨gx, 5, none⟩ = some (.int .i64 x.p) ∧ wl.cell? ⟨gx, 6, none⟩ = some (.int .i64 x.s) := by
            intro wl hb
            have e1 : ∀ j, wl.cell? ⟨gx, j, none⟩ = wA.drew.cell? ⟨gx, j, none⟩ := fun j => hb.cell hgx
            have e2 : ∀ j, wl.cell? ⟨g, j, none⟩ = wA.drew.cell? ⟨g, j, none⟩ := fun j => hb.cell hgA
            simp only [e1, e2]
            exact HS0
          have HST : Hid _ := @hstep
          clear hstep cgA cx_wA0 cx_wA1 cx_wA2 cx_wA3 cx_wA4 cx_wA5 cx_wA6
          cases hok : okB x.t x.n x.l x.h x.a x.p x.s
          · rw [hok] at HO
            refine wp_region_held_drew (S := fun wx => wx.cell? ⟨g, 0, none⟩ = some (.slice (some ⟨b, off, none⟩) n c) ∧ wx.cell? ⟨gx, 0, none⟩ = some (.bool x.t) ∧ wx.cell? ⟨gx, 1, none⟩ = some (.int .i64 x.n) ∧ wx.cell? ⟨gx, 2, none⟩ = some (.int .i64 x.l) ∧ wx.cell? ⟨gx, 3, none⟩ = some (.int .i64 x.h) ∧ wx.cell? ⟨gx, 4, none⟩ = some (.int .i64 x.a) ∧ wx.cell? ⟨gx, 5, none⟩ = some (.int .i64 x.p) ∧ wx.cell? ⟨gx, 6, none⟩ = some (.int .i64 x.s)) (by kernel_rfl) HS0 (fun hHeld => ?_)
            refine wpAnyH_take (i := 0) (oi := ?o1) (v := ?v1) ?i1 (by kernel_rfl) (by kernel_rfl) (by kernel_rfl) ?q1 ?y1 (hHeld) ?r1
            case i1 => exact rfl
            case q1 => exact (fun _ _ _ h => h)
            case y1 =>
              refine Or.inl ⟨by rfl, ?_⟩
              intro w hSw
              (try dsimp only at hSw)
              go_simp
              first | done | rfl
            try simp only [Act.put, List.getElem_toArray, List.getElem_cons_zero, List.getElem_cons_succ, List.setIfInBounds_toArray, List.set_cons_zero, List.set_cons_succ]
            refine wpAnyH_ready (rs := [1]) (by kernel_rfl) (by simp) ?_
            refine AllReadyH.cons (i := 1) (o := ?o2) ?i2 (fun K hK => ?_) AllReadyH.nil
            case i2 => exact rfl
            go_simp
            (with_reducible refine (HO _).mono ?_)
            rintro e wa ⟨rfl, hba⟩
            have HSa := HST.out hba
            go_wp2_with fail
            refine hK.out _ _ (HSa) (fun hHeld => ?_)
            clear hK K
            try simp only [Act.put, List.getElem_toArray, List.getElem_cons_zero, List.getElem_cons_succ, List.setIfInBounds_toArray, List.set_cons_zero, List.set_cons_succ]
            refine wpAnyH_take (i := 2) (oi := ?o3) (v := ?v3) ?i3 (by kernel_rfl) (by kernel_rfl) (by kernel_rfl) ?q3 ?y3 (hHeld) ?r3
            case i3 => exact rfl
            case q3 => exact (fun _ _ _ h => h)
            case y3 =>
              refine Or.inl ⟨by rfl, ?_⟩
              intro w hSw
              (try dsimp only at hSw)
              go_simp
              first | done | rfl
            try simp only [Act.put, List.getElem_toArray, List.getElem_cons_zero, List.getElem_cons_succ, List.setIfInBounds_toArray, List.set_cons_zero, List.set_cons_succ]
            refine wpAnyH_take (i := 3) (oi := ?o4) (v := ?v4) ?i4 (by kernel_rfl) (by kernel_rfl) (by kernel_rfl) ?q4 ?y4 (hHeld) ?r4
            case i4 => exact rfl
            case q4 => exact (fun _ _ _ h => h)
            case y4 =>
              refine Or.inl ⟨by rfl, ?_⟩
              intro w hSw
              (try dsimp only at hSw)
              go_simp
              first | done | rfl
            try simp only [Act.put, List.getElem_toArray, List.getElem_cons_zero, List.getElem_cons_succ, List.setIfInBounds_toArray, List.set_cons_zero, List.set_cons_succ]
            refine wpAnyH_take (i := 4) (oi := ?o5) (v := undef) ?i5 (by kernel_rfl) (by kernel_rfl) (by kernel_rfl) ?q5 ?y5 (hHeld) ?r5
            case i5 => exact rfl
            case q5 => exact (fun _ _ _ h => h)
            case y5 => exact Or.inr ⟨by rfl, rfl⟩
            try simp only [Act.put, List.getElem_toArray, List.getElem_cons_zero, List.getElem_cons_succ, List.setIfInBounds_toArray, List.set_cons_zero, List.set_cons_succ]
            refine wpAnyH_take (i := 5) (oi := ?o6) (v := undef) ?i6 (by kernel_rfl) (by kernel_rfl) (by kernel_rfl) ?q6 ?y6 (hHeld) ?r6
            case i6 => exact rfl
            case q6 => exact (fun _ _ _ h => h)
            case y6 => exact Or.inr ⟨by rfl, rfl⟩
            try simp only [Act.put, List.getElem_toArray, List.getElem_cons_zero, List.getElem_cons_succ, List.setIfInBounds_toArray, List.set_cons_zero, List.set_cons_succ]
            refine wpAnyH_take (i := 6) (oi := ?o7) (v := undef) ?i7 (by kernel_rfl) (by kernel_rfl) (by kernel_rfl) ?q7 ?y7 (hHeld) ?r7
            case i7 => exact rfl
            case q7 => exact (fun _ _ _ h => h)
            case y7 => exact Or.inr ⟨by rfl, rfl⟩
            try simp only [Act.put, List.getElem_toArray, List.getElem_cons_zero, List.getElem_cons_succ, List.setIfInBounds_toArray, List.set_cons_zero, List.set_cons_succ]
            refine wpAnyH_take (i := 7) (oi := ?o8) (v := undef) ?i8 (by kernel_rfl) (by kernel_rfl) (by kernel_rfl) ?q8 ?y8 (hHeld) ?r8
            case i8 => exact rfl
            case q8 => exact (fun _ _ _ h => h)
            case y8 => exact Or.inr ⟨by rfl, rfl⟩
            try simp only [Act.put, List.getElem_toArray, List.getElem_cons_zero, List.getElem_cons_succ, List.setIfInBounds_toArray, List.set_cons_zero, List.set_cons_succ]
            refine wpAnyH_take (i := 8) (oi := ?o9) (v := undef) ?i9 (by kernel_rfl) (by kernel_rfl) (by kernel_rfl) ?q9 ?y9 (hHeld) ?r9
            case i9 => exact rfl
            case q9 => exact (fun _ _ _ h => h)
            case y9 => exact Or.inr ⟨by rfl, rfl⟩
            try simp only [Act.put, List.getElem_toArray, List.getElem_cons_zero, List.getElem_cons_succ, List.setIfInBounds_toArray, List.set_cons_zero, List.set_cons_succ]
            refine wpAnyH_take (i := 9) (oi := ?o10) (v := undef) ?i10 (by kernel_rfl) (by kernel_rfl) (by kernel_rfl) ?q10 ?y10 (hHeld) ?r10
            case i10 => exact rfl
            case q10 => exact (fun _ _ _ h => h)
            case y10 => exact Or.inr ⟨by rfl, rfl⟩
            try simp only [Act.put, List.getElem_toArray, List.getElem_cons_zero, List.getElem_cons_succ, List.setIfInBounds_toArray, List.set_cons_zero, List.set_cons_succ]
            refine wpAnyH_take (i := 10) (oi := ?o11) (v := undef) ?i11 (by kernel_rfl) (by kernel_rfl) (by kernel_rfl) ?q11 ?y11 (hHeld) ?r11
            case i11 => exact rfl
            case q11 => exact (fun _ _ _ h => h)
            case y11 => exact Or.inr ⟨by rfl, rfl⟩
            try simp only [Act.put, List.getElem_toArray, List.getElem_cons_zero, List.getElem_cons_succ, List.setIfInBounds_toArray, List.set_cons_zero, List.set_cons_succ]
            refine wpAnyH_take (i := 11) (oi := ?o12) (v := undef) ?i12 (by kernel_rfl) (by kernel_rfl) (by kernel_rfl) ?q12 ?y12 (hHeld) ?r12
            case i12 => exact rfl
            case q12 => exact (fun _ _ _ h => h)
            case y12 => exact Or.inr ⟨by rfl, rfl⟩
            try simp only [Act.put, List.getElem_toArray, List.getElem_cons_zero, List.getElem_cons_succ, List.setIfInBounds_toArray, List.set_cons_zero, List.set_cons_succ]
            refine wpAnyH_take (i := 12) (oi := ?o13) (v := ?v13) ?i13 (by kernel_rfl) (by kernel_rfl) (by kernel_rfl) ?q13 ?y13 (hHeld) ?r13
            case i13 => exact rfl
            case q13 => exact (fun _ _ _ h => h)
            case y13 =>
              refine Or.inl ⟨by rfl, ?_⟩
              intro w hSw
              (try dsimp only at hSw)
              go_simp
              first | done | rfl
            try simp only [Act.put, List.getElem_toArray, List.getElem_cons_zero, List.getElem_cons_succ, List.setIfInBounds_toArray, List.set_cons_zero, List.set_cons_succ]
            refine wpAnyH_done (by kernel_rfl) ?_ _
            go_wp2_with fail
            go_ret
            exact ⟨rb (by rw [HM.out]; exact (memB_no HX.out (by rw [Hl.out, fit_iff]; simp [okW, hok])).symm), hbA.drew.trans (hba.mono hbA.size)⟩
          · rw [hok] at HO
            by_cases hh : (n : Int) < x.h
            · refine wp_region_held_drew (S := fun wx => wx.cell? ⟨g, 0, none⟩ = some (.slice (some ⟨b, off, none⟩) n c) ∧ wx.cell? ⟨gx, 0, none⟩ = some (.bool x.t) ∧ wx.cell? ⟨gx, 1, none⟩ = some (.int .i64 x.n) ∧ wx.cell? ⟨gx, 2, none⟩ = some (.int .i64 x.l) ∧ wx.cell? ⟨gx, 3, none⟩ = some (.int .i64 x.h) ∧ wx.cell? ⟨gx, 4, none⟩ = some (.int .i64 x.a) ∧ wx.cell? ⟨gx, 5, none⟩ = some (.int .i64 x.p) ∧ wx.cell? ⟨gx, 6, none⟩ = some (.int .i64 x.s)) (by kernel_rfl) HS0 (fun hHeld => ?_)
              refine wpAnyH_take (i := 0) (oi := ?o14) (v := ?v14) ?i14 (by kernel_rfl) (by kernel_rfl) (by kernel_rfl) ?q14 ?y14 (hHeld) ?r14
              case i14 => exact rfl
              case q14 => exact (fun _ _ _ h => h)
              case y14 =>
                refine Or.inl ⟨by rfl, ?_⟩
                intro w hSw
                (try dsimp only at hSw)
                go_simp
                first | done | rfl
              try simp only [Act.put, List.getElem_toArray, List.getElem_cons_zero, List.getElem_cons_succ, List.setIfInBounds_toArray, List.set_cons_zero, List.set_cons_succ]
              refine wpAnyH_ready (rs := [1]) (by kernel_rfl) (by simp) ?_
              refine AllReadyH.cons (i := 1) (o := ?o15) ?i15 (fun K hK => ?_) AllReadyH.nil
              case i15 => exact rfl
              go_simp
              (with_reducible refine (HO _).mono ?_)
              rintro e wa ⟨rfl, hba⟩
              have HSa := HST.out hba
              go_wp2_with fail
              refine hK.out _ _ (HSa) (fun hHeld => ?_)
              clear hK K
              try simp only [Act.put, List.getElem_toArray, List.getElem_cons_zero, List.getElem_cons_succ, List.setIfInBounds_toArray, List.set_cons_zero, List.set_cons_succ]
              refine wpAnyH_take (i := 2) (oi := ?o16) (v := ?v16) ?i16 (by kernel_rfl) (by kernel_rfl) (by kernel_rfl) ?q16 ?y16 (hHeld) ?r16
              case i16 => exact rfl
              case q16 => exact (fun _ _ _ h => h)
              case y16 =>
                refine Or.inl ⟨by rfl, ?_⟩
                intro w hSw
                (try dsimp only at hSw)
                go_simp
                first | done | rfl
              try simp only [Act.put, List.getElem_toArray, List.getElem_cons_zero, List.getElem_cons_succ, List.setIfInBounds_toArray, List.set_cons_zero, List.set_cons_succ]
              refine wpAnyH_take (i := 3) (oi := ?o17) (v := ?v17) ?i17 (by kernel_rfl) (by kernel_rfl) (by kernel_rfl) ?q17 ?y17 (hHeld) ?r17
              case i17 => exact rfl
              case q17 => exact (fun _ _ _ h => h)
              case y17 =>
                refine Or.inl ⟨by rfl, ?_⟩
                intro w hSw
                (try dsimp only at hSw)
                go_simp
                first | done | rfl
              try simp only [Act.put, List.getElem_toArray, List.getElem_cons_zero, List.getElem_cons_succ, List.setIfInBounds_toArray, List.set_cons_zero, List.set_cons_succ]
              refine wpAnyH_take (i := 4) (oi := ?o18) (v := ?v18) ?i18 (by kernel_rfl) (by kernel_rfl) (by kernel_rfl) ?q18 ?y18 (hHeld) ?r18
              case i18 => exact rfl
              case q18 => exact (fun _ _ _ h => h)
              case y18 =>
                refine Or.inl ⟨by rfl, ?_⟩
                intro w hSw
                (try dsimp only at hSw)
                go_simp
                first | done | rfl
              try simp only [Act.put, List.getElem_toArray, List.getElem_cons_zero, List.getElem_cons_succ, List.setIfInBounds_toArray, List.set_cons_zero, List.set_cons_succ]
              refine wpAnyH_take (i := 5) (oi := ?o19) (v := ?v19) ?i19 (by kernel_rfl) (by kernel_rfl) (by kernel_rfl) ?q19 ?y19 (hHeld) ?r19
              case i19 => exact rfl
              case q19 => exact (fun _ _ _ h => h)
              case y19 =>
                refine Or.inl ⟨by rfl, ?_⟩
                intro w hSw
                (try dsimp only at hSw)
                go_simp
                first | done | rfl
              try simp only [Act.put, List.getElem_toArray, List.getElem_cons_zero, List.getElem_cons_succ, List.setIfInBounds_toArray, List.set_cons_zero, List.set_cons_succ]
              refine wpAnyH_take (i := 6) (oi := ?o20) (v := ?v20) ?i20 (by kernel_rfl) (by kernel_rfl) (by kernel_rfl) ?q20 ?y20 (hHeld) ?r20
              case i20 => exact rfl
              case q20 => exact (fun _ _ _ h => h)
              case y20 =>
                refine Or.inl ⟨by rfl, ?_⟩
                intro w hSw
                (try dsimp only at hSw)
                go_simp
                first | done | rfl
              try simp only [Act.put, List.getElem_toArray, List.getElem_cons_zero, List.getElem_cons_succ, List.setIfInBounds_toArray, List.set_cons_zero, List.set_cons_succ]
              refine wpAnyH_take (i := 7) (oi := ?o21) (v := ?v21) ?i21 (by kernel_rfl) (by kernel_rfl) (by kernel_rfl) ?q21 ?y21 (hHeld) ?r21
              case i21 => exact rfl
              case q21 => exact (fun _ _ _ h => h)
              case y21 =>
                refine Or.inl ⟨by rfl, ?_⟩
                intro w hSw
                (try dsimp only at hSw)
                go_simp
                first | done | rfl
              try simp only [Act.put, List.getElem_toArray, List.getElem_cons_zero, List.getElem_cons_succ, List.setIfInBounds_toArray, List.set_cons_zero, List.set_cons_succ]
              refine wpAnyH_take (i := 8) (oi := ?o22) (v := ?v22) ?i22 (by kernel_rfl) (by kernel_rfl) (by kernel_rfl) ?q22 ?y22 (hHeld) ?r22
              case i22 => exact rfl
              case q22 => exact (fun _ _ _ h => h)
              case y22 =>
                refine Or.inl ⟨by rfl, ?_⟩
                intro w hSw
                (try dsimp only at hSw)
                go_simp
                first | done | rfl
              try simp only [Act.put, List.getElem_toArray, List.getElem_cons_zero, List.getElem_cons_succ, List.setIfInBounds_toArray, List.set_cons_zero, List.set_cons_succ]
              refine wpAnyH_take (i := 9) (oi := ?o23) (v := ?v23) ?i23 (by kernel_rfl) (by kernel_rfl) (by kernel_rfl) ?q23 ?y23 (hHeld) ?r23
              case i23 => exact rfl
              case q23 => exact (fun _ _ _ h => h)
              case y23 =>
                refine Or.inl ⟨by rfl, ?_⟩
                intro w hSw
                (try dsimp only at hSw)
                go_simp
                first | done | rfl
              try simp only [Act.put, List.getElem_toArray, List.getElem_cons_zero, List.getElem_cons_succ, List.setIfInBounds_toArray, List.set_cons_zero, List.set_cons_succ]
              refine wpAnyH_take (i := 10) (oi := ?o24) (v := ?v24) ?i24 (by kernel_rfl) (by kernel_rfl) (by kernel_rfl) ?q24 ?y24 (hHeld) ?r24
              case i24 => exact rfl
              case q24 => exact (fun _ _ _ h => h)
              case y24 =>
                refine Or.inl ⟨by rfl, ?_⟩
                intro w hSw
                (try dsimp only at hSw)
                go_simp
                first | done | rfl
              try simp only [Act.put, List.getElem_toArray, List.getElem_cons_zero, List.getElem_cons_succ, List.setIfInBounds_toArray, List.set_cons_zero, List.set_cons_succ]
              refine wpAnyH_take (i := 11) (oi := ?o25) (v := ?v25) ?i25 (by kernel_rfl) (by kernel_rfl) (by kernel_rfl) ?q25 ?y25 (hHeld) ?r25
              case i25 => exact rfl
              case q25 => exact (fun _ _ _ h => h)
              case y25 =>
                refine Or.inl ⟨by rfl, ?_⟩
                intro w hSw
                (try dsimp only at hSw)
                go_simp
                first | done | rfl
              try simp only [Act.put, List.getElem_toArray, List.getElem_cons_zero, List.getElem_cons_succ, List.setIfInBounds_toArray, List.set_cons_zero, List.set_cons_succ]
              refine wpAnyH_take (i := 12) (oi := ?o26) (v := ?v26) ?i26 (by kernel_rfl) (by kernel_rfl) (by kernel_rfl) ?q26 ?y26 (hHeld) ?r26
              case i26 => exact rfl
              case q26 => exact (fun _ _ _ h => h)
              case y26 =>
                refine Or.inl ⟨by rfl, ?_⟩
                intro w hSw
                (try dsimp only at hSw)
                go_simp
                first | done | rfl
              try simp only [Act.put, List.getElem_toArray, List.getElem_cons_zero, List.getElem_cons_succ, List.setIfInBounds_toArray, List.set_cons_zero, List.set_cons_succ]
              refine wpAnyH_done (by kernel_rfl) ?_ _
              go_wp2_with fail
              go_ret
              exact ⟨rb (by rw [HM.out]; exact (memB_no HX.out (by rw [Hl.out, fit_iff]; simp [okW, hok, hh])).symm), hbA.drew.trans (hba.mono hbA.size)⟩
            · refine wp_region_held_drew (S := fun wx => wx.cell? ⟨g, 0, none⟩ = some (.slice (some ⟨b, off, none⟩) n c) ∧ wx.cell? ⟨gx, 0, none⟩ = some (.bool x.t) ∧ wx.cell? ⟨gx, 1, none⟩ = some (.int .i64 x.n) ∧ wx.cell? ⟨gx, 2, none⟩ = some (.int .i64 x.l) ∧ wx.cell? ⟨gx, 3, none⟩ = some (.int .i64 x.h) ∧ wx.cell? ⟨gx, 4, none⟩ = some (.int .i64 x.a) ∧ wx.cell? ⟨gx, 5, none⟩ = some (.int .i64 x.p) ∧ wx.cell? ⟨gx, 6, none⟩ = some (.int .i64 x.s)) (by kernel_rfl) HS0 (fun hHeld => ?_)
              refine wpAnyH_take (i := 0) (oi := ?o27) (v := ?v27) ?i27 (by kernel_rfl) (by kernel_rfl) (by kernel_rfl) ?q27 ?y27 (hHeld) ?r27
              case i27 => exact rfl
              case q27 => exact (fun _ _ _ h => h)
              case y27 =>
                refine Or.inl ⟨by rfl, ?_⟩
                intro w hSw
                (try dsimp only at hSw)
                go_simp
                first | done | rfl
              try simp only [Act.put, List.getElem_toArray, List.getElem_cons_zero, List.getElem_cons_succ, List.setIfInBounds_toArray, List.set_cons_zero, List.set_cons_succ]
              refine wpAnyH_ready (rs := [1]) (by kernel_rfl) (by simp) ?_
              refine AllReadyH.cons (i := 1) (o := ?o28) ?i28 (fun K hK => ?_) AllReadyH.nil
              case i28 => exact rfl
              go_simp
              (with_reducible refine (HO _).mono ?_)
              rintro e wa ⟨rfl, hba⟩
              have HSa := HST.out hba
              go_wp2_with fail
              refine hK.out _ _ (HSa) (fun hHeld => ?_)
              clear hK K
              try simp only [Act.put, List.getElem_toArray, List.getElem_cons_zero, List.getElem_cons_succ, List.setIfInBounds_toArray, List.set_cons_zero, List.set_cons_succ]
              refine wpAnyH_take (i := 2) (oi := ?o29) (v := ?v29) ?i29 (by kernel_rfl) (by kernel_rfl) (by kernel_rfl) ?q29 ?y29 (hHeld) ?r29
              case i29 => exact rfl
              case q29 => exact (fun _ _ _ h => h)
              case y29 =>
                refine Or.inl ⟨by rfl, ?_⟩
                intro w hSw
                (try dsimp only at hSw)
                go_simp
                first | done | rfl
              try simp only [Act.put, List.getElem_toArray, List.getElem_cons_zero, List.getElem_cons_succ, List.setIfInBounds_toArray, List.set_cons_zero, List.set_cons_succ]
              refine wpAnyH_take (i := 3) (oi := ?o30) (v := ?v30) ?i30 (by kernel_rfl) (by kernel_rfl) (by kernel_rfl) ?q30 ?y30 (hHeld) ?r30
              case i30 => exact rfl
              case q30 => exact (fun _ _ _ h => h)
              case y30 =>
                refine Or.inl ⟨by rfl, ?_⟩
                intro w hSw
                (try dsimp only at hSw)
                go_simp
                first | done | rfl
              try simp only [Act.put, List.getElem_toArray, List.getElem_cons_zero, List.getElem_cons_succ, List.setIfInBounds_toArray, List.set_cons_zero, List.set_cons_succ]
              refine wpAnyH_take (i := 4) (oi := ?o31) (v := ?v31) ?i31 (by kernel_rfl) (by kernel_rfl) (by kernel_rfl) ?q31 ?y31 (hHeld) ?r31
              case i31 => exact rfl
              case q31 => exact (fun _ _ _ h => h)
              case y31 =>
                refine Or.inl ⟨by rfl, ?_⟩
                intro w hSw
                (try dsimp only at hSw)
                go_simp
                first | done | rfl
              try simp only [Act.put, List.getElem_toArray, List.getElem_cons_zero, List.getElem_cons_succ, List.setIfInBounds_toArray, List.set_cons_zero, List.set_cons_succ]
              refine wpAnyH_take (i := 5) (oi := ?o32) (v := ?v32) ?i32 (by kernel_rfl) (by kernel_rfl) (by kernel_rfl) ?q32 ?y32 (hHeld) ?r32
              case i32 => exact rfl
              case q32 => exact (fun _ _ _ h => h)
              case y32 =>
                refine Or.inl ⟨by rfl, ?_⟩
                intro w hSw
                (try dsimp only at hSw)
                go_simp
                first | done | rfl
              try simp only [Act.put, List.getElem_toArray, List.getElem_cons_zero, List.getElem_cons_succ, List.setIfInBounds_toArray, List.set_cons_zero, List.set_cons_succ]
              refine wpAnyH_take (i := 6) (oi := ?o33) (v := ?v33) ?i33 (by kernel_rfl) (by kernel_rfl) (by kernel_rfl) ?q33 ?y33 (hHeld) ?r33
              case i33 => exact rfl
              case q33 => exact (fun _ _ _ h => h)
              case y33 =>
                refine Or.inl ⟨by rfl, ?_⟩
                intro w hSw
                (try dsimp only at hSw)
                go_simp
                first | done | rfl
              try simp only [Act.put, List.getElem_toArray, List.getElem_cons_zero, List.getElem_cons_succ, List.setIfInBounds_toArray, List.set_cons_zero, List.set_cons_succ]
              refine wpAnyH_take (i := 7) (oi := ?o34) (v := ?v34) ?i34 (by kernel_rfl) (by kernel_rfl) (by kernel_rfl) ?q34 ?y34 (hHeld) ?r34
              case i34 => exact rfl
              case q34 => exact (fun _ _ _ h => h)
              case y34 =>
                refine Or.inl ⟨by rfl, ?_⟩
                intro w hSw
                (try dsimp only at hSw)
                go_simp
                first | done | rfl
              try simp only [Act.put, List.getElem_toArray, List.getElem_cons_zero, List.getElem_cons_succ, List.setIfInBounds_toArray, List.set_cons_zero, List.set_cons_succ]
              refine wpAnyH_take (i := 8) (oi := ?o35) (v := ?v35) ?i35 (by kernel_rfl) (by kernel_rfl) (by kernel_rfl) ?q35 ?y35 (hHeld) ?r35
              case i35 => exact rfl
              case q35 => exact (fun _ _ _ h => h)
              case y35 =>
                refine Or.inl ⟨by rfl, ?_⟩
                intro w hSw
                (try dsimp only at hSw)
                go_simp
                first | done | rfl
              try simp only [Act.put, List.getElem_toArray, List.getElem_cons_zero, List.getElem_cons_succ, List.setIfInBounds_toArray, List.set_cons_zero, List.set_cons_succ]
              refine wpAnyH_take (i := 9) (oi := ?o36) (v := ?v36) ?i36 (by kernel_rfl) (by kernel_rfl) (by kernel_rfl) ?q36 ?y36 (hHeld) ?r36
              case i36 => exact rfl
              case q36 => exact (fun _ _ _ h => h)
              case y36 =>
                refine Or.inl ⟨by rfl, ?_⟩
                intro w hSw
                (try dsimp only at hSw)
                go_simp
                first | done | rfl
              try simp only [Act.put, List.getElem_toArray, List.getElem_cons_zero, List.getElem_cons_succ, List.setIfInBounds_toArray, List.set_cons_zero, List.set_cons_succ]
              refine wpAnyH_take (i := 10) (oi := ?o37) (v := ?v37) ?i37 (by kernel_rfl) (by kernel_rfl) (by kernel_rfl) ?q37 ?y37 (hHeld) ?r37
              case i37 => exact rfl
              case q37 => exact (fun _ _ _ h => h)
              case y37 =>
                refine Or.inl ⟨by rfl, ?_⟩
                intro w hSw
                (try dsimp only at hSw)
                go_simp
                first | done | rfl
              try simp only [Act.put, List.getElem_toArray, List.getElem_cons_zero, List.getElem_cons_succ, List.setIfInBounds_toArray, List.set_cons_zero, List.set_cons_succ]
              refine wpAnyH_take (i := 11) (oi := ?o38) (v := ?v38) ?i38 (by kernel_rfl) (by kernel_rfl) (by kernel_rfl) ?q38 ?y38 (hHeld) ?r38
              case i38 => exact rfl
              case q38 => exact (fun _ _ _ h => h)
              case y38 =>
                refine Or.inl ⟨by rfl, ?_⟩
                intro w hSw
                (try dsimp only at hSw)
                go_simp
                first | done | rfl
              try simp only [Act.put, List.getElem_toArray, List.getElem_cons_zero, List.getElem_cons_succ, List.setIfInBounds_toArray, List.set_cons_zero, List.set_cons_succ]
              refine wpAnyH_take (i := 12) (oi := ?o39) (v := ?v39) ?i39 (by kernel_rfl) (by kernel_rfl) (by kernel_rfl) ?q39 ?y39 (hHeld) ?r39
              case i39 => exact rfl
              case q39 => exact (fun _ _ _ h => h)
              case y39 =>
                refine Or.inl ⟨by rfl, ?_⟩
                intro w hSw
                (try dsimp only at hSw)
                go_simp
                first | done | rfl
              try simp only [Act.put, List.getElem_toArray, List.getElem_cons_zero, List.getElem_cons_succ, List.setIfInBounds_toArray, List.set_cons_zero, List.set_cons_succ]
              refine wpAnyH_done (by kernel_rfl) ?_ _
              have hb0 : Below w.heap.size w wa := hbA.drew.trans (hba.mono hbA.size)
              have hfx : fitW n x = true := by rw [fit_iff]; simp [okW, hok, hh]
              go_wp2_with fail
              go_roundw
              case rel => exact ⟨k + 1, by omega, by go_num, hb0, fit_next HX.out hfx hfit.out⟩
              case measure => simp [intOf]; omega
        · go_wp2_with fail
          go_ret
          have hkn : k = n := by omega
          subst hkn
          exact ⟨rb (by rw [HM.out]; exact (memB_yes Hl.out (by omega) hfit.out).symm), hbr⟩

end Go.Proofs.YtchchigiafacbaaDoor

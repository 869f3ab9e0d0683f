/- What the program tells of a memory: as the specification. -/
import Derived.Test.YtjojildjnafgiaaMemSpec
namespace Go.Proofs.Ytjojildjnafgiaa
open Go.RowKit
set_option linter.unusedVariables false
set_option linter.unusedSimpArgs false

theorem fit_iff (n : Nat) (x : Wd) : fitW n x = (okW x && !(decide ((n : Int) < x.h))) := by
  cases hok : okW x
  · simp [fitW, hok]
  · cases hd : dataW x
    · have hz : x.h = 0 := by
        have hw : wayB x.t x.n x.l x.h x.a x.p x.s = false := by
          rw [← way_iff, show okB x.t x.n x.l x.h x.a x.p x.s = true from hok, show (x.t && (x.s == 0)) = false from hd]; rfl
        have h := hok
        rw [okW, okB, hw, Bool.or_false, Bool.or_eq_true] at h
        rcases h with h | h
        · simp [isIntB] at h; exact h.1.2.2.1
        · simp [entryB] at h; exact h.1.2.2.2
      have : ¬ ((n : Int) < x.h) := by omega
      simp [fitW, hok, hd, this]
    · simp [fitW, hok, hd]

set_option maxRecDepth 100000 in
set_option maxHeartbeats 4000000 in
theorem isOkM (g : Nat) (a : Option Addr) (n c : Nat) (l : List Wd) (w : World) (hg0 : w.heap[g]? = some (.cells #[.slice a n c] 25 (0, 0))) (h : WRow w a n l) (h64 : ∀ x ∈ l, In64 x.s) (hn : n ≤ 1048576) :
    Calls Try.prog 7 #[.pointer (some ⟨g, 0, none⟩)] w fun e w' => e = .returned (.bool (memB l)) ∧ Below w.heap.size w w' := by
  have hl := h.1
  obtain ⟨cg, _⟩ := one_facts hg0
  by_cases hbig : 4000 < n
  · have hR : memB l = false := by simp [memB, hl]; omega
    rw [hR]
    clear hR h hl h64
    go_enter Try.func7, Try.ntmps7
    go_wp2_with fail
    go_ret
    exact ⟨rfl, (by repeat (first | exact Below.refl _ _ | assumption | (refine below_drewN ?_ _) | apply Below.drew | (refine Below.alloc ?_ ?_ _) | (refine Below.setCell ?_ ?_ _) | omega | (simp; omega) | simp))⟩
  · rcases Nat.eq_zero_or_pos n with h0 | hpos
    · subst h0
      have hR : memB l = true := by have : l = [] := List.length_eq_zero_iff.1 hl; subst this; rfl
      rw [hR]
      clear hR h hl hbig h64
      go_enter Try.func7, Try.ntmps7
      go_wp2_with fail
      refine wp_loop_rounds 1 ?_
      rw [rounds_succ]
      go_wp2_with fail
      go_ret
      exact ⟨rfl, (by repeat (first | exact Below.refl _ _ | assumption | (refine below_drewN ?_ _) | apply Below.drew | (refine Below.alloc ?_ ?_ _) | (refine Below.setCell ?_ ?_ _) | omega | (simp; omega) | simp))⟩
    · obtain ⟨b, off, rfl, hcc⟩ := h.2 hpos
      have HR : Hid (WRow w (some ⟨b, off, none⟩) n l) := h
      have Hl : Hid (l.length = n) := hl
      have H64 : Hid (∀ x ∈ l, In64 x.s) := h64
      obtain ⟨r, hr⟩ : ∃ r, r = memB l := ⟨_, rfl⟩
      rw [← hr]
      have HM : Hid _ := hr
      have hgb : g < w.heap.size := (Array.getElem?_eq_some_iff.1 hg0).1
      clear h hl hcc hr h64
      go_enter Try.func7, Try.ntmps7
      go_wp2_with fail
      clear cg
      go_loopw [16] (fun i wr => ∃ k : Nat, k ≤ n ∧ i = .int .i64 k ∧ Below w.heap.size w wr ∧ Hid (∀ j, j < k → ∀ x, l[j]? = some x → fitW n x = true)) (fun i _ => n - (intOf i).toNat)
      case atStart => exact ⟨0, Nat.zero_le _, rfl, Below.refl _ _, fun j hj => absurd hj (by omega)⟩
      case round =>
        obtain ⟨k, hk, rfl, hbr, hfit⟩ := hrel
        have hgr := (hbr.block g hgb).trans hg0
        obtain ⟨cg, _⟩ := one_facts hgr
        have hgr' : g < wr.heap.size := Nat.lt_of_lt_of_le hgb hbr.size
        by_cases hlt : k < n
        · obtain ⟨x, hx, p0, p1, p2, p3, p4, p5, p6⟩ := WRow.el (WRow.below (show WRow w (some ⟨b, off, none⟩) n l from HR.out) hbr) hlt
          have HX : Hid _ := hx
          have HO := implOkM x.t x.n x.l x.h x.a x.p x.s (H64.out x (List.mem_of_getElem? hx))
          clear hx
          go_wp2_with fail
          clear p0 p1 p2 p3 p4 p5 p6
          obtain ⟨wA, hA⟩ : ∃ wA, wA = wr.alloc (.cells #[.bool x.t, .int .i64 x.n, .int .i64 x.l, .int .i64 x.h, .int .i64 x.a, .int .i64 x.p, .int .i64 x.s] 29) := ⟨_, rfl⟩
          rw [← hA]
          have hbA : Below w.heap.size w wA := by rw [hA]; exact hbr.alloc hbr.size _
          have cgA : wA.cell? ⟨g, 0, none⟩ = some (.slice (some ⟨b, off, none⟩) n c) := by rw [hA, cell_alloc_old _ _ (by exact hgr')]; exact cg
          have cx_wA0 : wA.cell? ⟨wr.heap.size, 0, none⟩ = some (.bool (x.t)) := by rw [hA]; simp [go_sem]
          have cx_wA1 : wA.cell? ⟨wr.heap.size, 1, none⟩ = some (.int .i64 (x.n)) := by rw [hA]; simp [go_sem]
          have cx_wA2 : wA.cell? ⟨wr.heap.size, 2, none⟩ = some (.int .i64 (x.l)) := by rw [hA]; simp [go_sem]
          have cx_wA3 : wA.cell? ⟨wr.heap.size, 3, none⟩ = some (.int .i64 (x.h)) := by rw [hA]; simp [go_sem]
          have cx_wA4 : wA.cell? ⟨wr.heap.size, 4, none⟩ = some (.int .i64 (x.a)) := by rw [hA]; simp [go_sem]
          have cx_wA5 : wA.cell? ⟨wr.heap.size, 5, none⟩ = some (.int .i64 (x.p)) := by rw [hA]; simp [go_sem]
          have cx_wA6 : wA.cell? ⟨wr.heap.size, 6, none⟩ = some (.int .i64 (x.s)) := by rw [hA]; simp [go_sem]
          have hgx : wr.heap.size < wA.heap.size := by rw [hA]; simp
          have hgA : g < wA.heap.size := Nat.lt_trans hgr' hgx
          clear hA cg hgr hgr'
          generalize wr.heap.size = gx at *
          have HS0 : wA.drew.cell? ⟨g, 0, none⟩ = some (.slice (some ⟨b, off, none⟩) n c) ∧ wA.drew.cell? ⟨gx, 0, none⟩ = some (.bool x.t) ∧ wA.drew.cell? ⟨gx, 1, none⟩ = some (.int .i64 x.n) ∧ wA.drew.cell? ⟨gx, 2, none⟩ = some (.int .i64 x.l) ∧ wA.drew.cell? ⟨gx, 3, none⟩ = some (.int .i64 x.h) ∧ wA.drew.cell? ⟨gx, 4, none⟩ = some (.int .i64 x.a) ∧ wA.drew.cell? ⟨gx, 5, none⟩ = some (.int .i64 x.p) ∧ wA.drew.cell? ⟨gx, 6, none⟩ = some (.int .i64 x.s) := ⟨cgA, cx_wA0, cx_wA1, cx_wA2, cx_wA3, cx_wA4, cx_wA5, cx_wA6⟩
          have hstep : ∀ {wl : World}, Below wA.drew.heap.size wA.drew wl → wl.cell? ⟨g, 0, none⟩ = some (.slice (some ⟨b, off, none⟩) n c) ∧ wl.cell? ⟨gx, 0, none⟩ = some (.bool x.t) ∧ wl.cell? ⟨gx, 1, none⟩ = some (.int .i64 x.n) ∧ wl.cell? ⟨gx, 2, none⟩ = some (.int .i64 x.l) ∧ wl.cell? ⟨gx, 3, none⟩ = some (.int .i64 x.h) ∧ wl.cell? ⟨gx, 4, none⟩ = some (.int .i64 x.a) ∧ wl.cell? ⟨gx, 5, none⟩ = some (.int .i64 x.p) ∧ wl.cell? ⟨gx, 6, none⟩ = some (.int .i64 x.s) := by
            intro wl hb
            have e1 : ∀ j, wl.cell? ⟨gx, j, none⟩ = wA.drew.cell? ⟨gx, j, none⟩ := fun j => hb.cell hgx
            have e2 : ∀ j, wl.cell? ⟨g, j, none⟩ = wA.drew.cell? ⟨g, j, none⟩ := fun j => hb.cell hgA
            simp only [e1, e2]
            exact HS0
          have HST : Hid _ := @hstep
          clear hstep cgA cx_wA0 cx_wA1 cx_wA2 cx_wA3 cx_wA4 cx_wA5 cx_wA6
          cases hok : okB x.t x.n x.l x.h x.a x.p x.s
          · rw [hok] at HO
            refine wp_region_held_drew (S := fun wx => wx.cell? ⟨g, 0, none⟩ = some (.slice (some ⟨b, off, none⟩) n c) ∧ wx.cell? ⟨gx, 0, none⟩ = some (.bool x.t) ∧ wx.cell? ⟨gx, 1, none⟩ = some (.int .i64 x.n) ∧ wx.cell? ⟨gx, 2, none⟩ = some (.int .i64 x.l) ∧ wx.cell? ⟨gx, 3, none⟩ = some (.int .i64 x.h) ∧ wx.cell? ⟨gx, 4, none⟩ = some (.int .i64 x.a) ∧ wx.cell? ⟨gx, 5, none⟩ = some (.int .i64 x.p) ∧ wx.cell? ⟨gx, 6, none⟩ = some (.int .i64 x.s)) (by kernel_rfl) HS0 (fun hHeld => ?_)
            refine wpAnyH_take (i := 0) (oi := ?o501) (v := ?v501) ?i501 (by kernel_rfl) (by kernel_rfl) (by kernel_rfl) ?q501 ?y501 (hHeld) ?r501
            case i501 => exact rfl
            case q501 => exact (fun _ _ _ h => h)
            case y501 =>
              refine Or.inl ⟨by rfl, ?_⟩
              intro w hSw
              (try dsimp only at hSw)
              go_simp
              first | done | rfl
            try simp only [Act.put, List.getElem_toArray, List.getElem_cons_zero, List.getElem_cons_succ, List.setIfInBounds_toArray, List.set_cons_zero, List.set_cons_succ]
            refine wpAnyH_ready (rs := [1]) (by kernel_rfl) (by simp) ?_
            refine AllReadyH.cons (i := 1) (o := ?o502) ?i502 (fun K hK => ?_) AllReadyH.nil
            case i502 => exact rfl
            go_simp
            (with_reducible refine (HO _).mono ?_)
            rintro e wa ⟨rfl, hba⟩
            have HSa := HST.out hba
            go_wp2_with fail
            refine hK.out _ _ (HSa) (fun hHeld => ?_)
            clear hK K
            try simp only [Act.put, List.getElem_toArray, List.getElem_cons_zero, List.getElem_cons_succ, List.setIfInBounds_toArray, List.set_cons_zero, List.set_cons_succ]
            refine wpAnyH_take (i := 2) (oi := ?o503) (v := ?v503) ?i503 (by kernel_rfl) (by kernel_rfl) (by kernel_rfl) ?q503 ?y503 (hHeld) ?r503
            case i503 => exact rfl
            case q503 => exact (fun _ _ _ h => h)
            case y503 =>
              refine Or.inl ⟨by rfl, ?_⟩
              intro w hSw
              (try dsimp only at hSw)
              go_simp
              first | done | rfl
            try simp only [Act.put, List.getElem_toArray, List.getElem_cons_zero, List.getElem_cons_succ, List.setIfInBounds_toArray, List.set_cons_zero, List.set_cons_succ]
            refine wpAnyH_take (i := 3) (oi := ?o504) (v := ?v504) ?i504 (by kernel_rfl) (by kernel_rfl) (by kernel_rfl) ?q504 ?y504 (hHeld) ?r504
            case i504 => exact rfl
            case q504 => exact (fun _ _ _ h => h)
            case y504 =>
              refine Or.inl ⟨by rfl, ?_⟩
              intro w hSw
              (try dsimp only at hSw)
              go_simp
              first | done | rfl
            try simp only [Act.put, List.getElem_toArray, List.getElem_cons_zero, List.getElem_cons_succ, List.setIfInBounds_toArray, List.set_cons_zero, List.set_cons_succ]
            refine wpAnyH_take (i := 4) (oi := ?o505) (v := undef) ?i505 (by kernel_rfl) (by kernel_rfl) (by kernel_rfl) ?q505 ?y505 (hHeld) ?r505
            case i505 => exact rfl
            case q505 => exact (fun _ _ _ h => h)
            case y505 => exact Or.inr ⟨by rfl, rfl⟩
            try simp only [Act.put, List.getElem_toArray, List.getElem_cons_zero, List.getElem_cons_succ, List.setIfInBounds_toArray, List.set_cons_zero, List.set_cons_succ]
            refine wpAnyH_take (i := 5) (oi := ?o506) (v := undef) ?i506 (by kernel_rfl) (by kernel_rfl) (by kernel_rfl) ?q506 ?y506 (hHeld) ?r506
            case i506 => exact rfl
            case q506 => exact (fun _ _ _ h => h)
            case y506 => exact Or.inr ⟨by rfl, rfl⟩
            try simp only [Act.put, List.getElem_toArray, List.getElem_cons_zero, List.getElem_cons_succ, List.setIfInBounds_toArray, List.set_cons_zero, List.set_cons_succ]
            refine wpAnyH_take (i := 6) (oi := ?o507) (v := undef) ?i507 (by kernel_rfl) (by kernel_rfl) (by kernel_rfl) ?q507 ?y507 (hHeld) ?r507
            case i507 => exact rfl
            case q507 => exact (fun _ _ _ h => h)
            case y507 => exact Or.inr ⟨by rfl, rfl⟩
            try simp only [Act.put, List.getElem_toArray, List.getElem_cons_zero, List.getElem_cons_succ, List.setIfInBounds_toArray, List.set_cons_zero, List.set_cons_succ]
            refine wpAnyH_take (i := 7) (oi := ?o508) (v := undef) ?i508 (by kernel_rfl) (by kernel_rfl) (by kernel_rfl) ?q508 ?y508 (hHeld) ?r508
            case i508 => exact rfl
            case q508 => exact (fun _ _ _ h => h)
            case y508 => exact Or.inr ⟨by rfl, rfl⟩
            try simp only [Act.put, List.getElem_toArray, List.getElem_cons_zero, List.getElem_cons_succ, List.setIfInBounds_toArray, List.set_cons_zero, List.set_cons_succ]
            refine wpAnyH_take (i := 8) (oi := ?o509) (v := undef) ?i509 (by kernel_rfl) (by kernel_rfl) (by kernel_rfl) ?q509 ?y509 (hHeld) ?r509
            case i509 => exact rfl
            case q509 => exact (fun _ _ _ h => h)
            case y509 => exact Or.inr ⟨by rfl, rfl⟩
            try simp only [Act.put, List.getElem_toArray, List.getElem_cons_zero, List.getElem_cons_succ, List.setIfInBounds_toArray, List.set_cons_zero, List.set_cons_succ]
            refine wpAnyH_take (i := 9) (oi := ?o510) (v := undef) ?i510 (by kernel_rfl) (by kernel_rfl) (by kernel_rfl) ?q510 ?y510 (hHeld) ?r510
            case i510 => exact rfl
            case q510 => exact (fun _ _ _ h => h)
            case y510 => exact Or.inr ⟨by rfl, rfl⟩
            try simp only [Act.put, List.getElem_toArray, List.getElem_cons_zero, List.getElem_cons_succ, List.setIfInBounds_toArray, List.set_cons_zero, List.set_cons_succ]
            refine wpAnyH_take (i := 10) (oi := ?o511) (v := undef) ?i511 (by kernel_rfl) (by kernel_rfl) (by kernel_rfl) ?q511 ?y511 (hHeld) ?r511
            case i511 => exact rfl
            case q511 => exact (fun _ _ _ h => h)
            case y511 => exact Or.inr ⟨by rfl, rfl⟩
            try simp only [Act.put, List.getElem_toArray, List.getElem_cons_zero, List.getElem_cons_succ, List.setIfInBounds_toArray, List.set_cons_zero, List.set_cons_succ]
            refine wpAnyH_take (i := 11) (oi := ?o512) (v := undef) ?i512 (by kernel_rfl) (by kernel_rfl) (by kernel_rfl) ?q512 ?y512 (hHeld) ?r512
            case i512 => exact rfl
            case q512 => exact (fun _ _ _ h => h)
            case y512 => exact Or.inr ⟨by rfl, rfl⟩
            try simp only [Act.put, List.getElem_toArray, List.getElem_cons_zero, List.getElem_cons_succ, List.setIfInBounds_toArray, List.set_cons_zero, List.set_cons_succ]
            refine wpAnyH_take (i := 12) (oi := ?o513) (v := ?v513) ?i513 (by kernel_rfl) (by kernel_rfl) (by kernel_rfl) ?q513 ?y513 (hHeld) ?r513
            case i513 => exact rfl
            case q513 => exact (fun _ _ _ h => h)
            case y513 =>
              refine Or.inl ⟨by rfl, ?_⟩
              intro w hSw
              (try dsimp only at hSw)
              go_simp
              first | done | rfl
            try simp only [Act.put, List.getElem_toArray, List.getElem_cons_zero, List.getElem_cons_succ, List.setIfInBounds_toArray, List.set_cons_zero, List.set_cons_succ]
            refine wpAnyH_done (by kernel_rfl) ?_ _
            go_wp2_with fail
            go_ret
            exact ⟨rb (by rw [HM.out]; exact (memB_no HX.out (by rw [Hl.out, fit_iff]; simp [okW, hok])).symm), hbA.drew.trans (hba.mono hbA.size)⟩
          · rw [hok] at HO
            by_cases hh : (n : Int) < x.h
            · refine wp_region_held_drew (S := fun wx => wx.cell? ⟨g, 0, none⟩ = some (.slice (some ⟨b, off, none⟩) n c) ∧ wx.cell? ⟨gx, 0, none⟩ = some (.bool x.t) ∧ wx.cell? ⟨gx, 1, none⟩ = some (.int .i64 x.n) ∧ wx.cell? ⟨gx, 2, none⟩ = some (.int .i64 x.l) ∧ wx.cell? ⟨gx, 3, none⟩ = some (.int .i64 x.h) ∧ wx.cell? ⟨gx, 4, none⟩ = some (.int .i64 x.a) ∧ wx.cell? ⟨gx, 5, none⟩ = some (.int .i64 x.p) ∧ wx.cell? ⟨gx, 6, none⟩ = some (.int .i64 x.s)) (by kernel_rfl) HS0 (fun hHeld => ?_)
              refine wpAnyH_take (i := 0) (oi := ?o514) (v := ?v514) ?i514 (by kernel_rfl) (by kernel_rfl) (by kernel_rfl) ?q514 ?y514 (hHeld) ?r514
              case i514 => exact rfl
              case q514 => exact (fun _ _ _ h => h)
              case y514 =>
                refine Or.inl ⟨by rfl, ?_⟩
                intro w hSw
                (try dsimp only at hSw)
                go_simp
                first | done | rfl
              try simp only [Act.put, List.getElem_toArray, List.getElem_cons_zero, List.getElem_cons_succ, List.setIfInBounds_toArray, List.set_cons_zero, List.set_cons_succ]
              refine wpAnyH_ready (rs := [1]) (by kernel_rfl) (by simp) ?_
              refine AllReadyH.cons (i := 1) (o := ?o515) ?i515 (fun K hK => ?_) AllReadyH.nil
              case i515 => exact rfl
              go_simp
              (with_reducible refine (HO _).mono ?_)
              rintro e wa ⟨rfl, hba⟩
              have HSa := HST.out hba
              go_wp2_with fail
              refine hK.out _ _ (HSa) (fun hHeld => ?_)
              clear hK K
              try simp only [Act.put, List.getElem_toArray, List.getElem_cons_zero, List.getElem_cons_succ, List.setIfInBounds_toArray, List.set_cons_zero, List.set_cons_succ]
              refine wpAnyH_take (i := 2) (oi := ?o516) (v := ?v516) ?i516 (by kernel_rfl) (by kernel_rfl) (by kernel_rfl) ?q516 ?y516 (hHeld) ?r516
              case i516 => exact rfl
              case q516 => exact (fun _ _ _ h => h)
              case y516 =>
                refine Or.inl ⟨by rfl, ?_⟩
                intro w hSw
                (try dsimp only at hSw)
                go_simp
                first | done | rfl
              try simp only [Act.put, List.getElem_toArray, List.getElem_cons_zero, List.getElem_cons_succ, List.setIfInBounds_toArray, List.set_cons_zero, List.set_cons_succ]
              refine wpAnyH_take (i := 3) (oi := ?o517) (v := ?v517) ?i517 (by kernel_rfl) (by kernel_rfl) (by kernel_rfl) ?q517 ?y517 (hHeld) ?r517
              case i517 => exact rfl
              case q517 => exact (fun _ _ _ h => h)
              case y517 =>
                refine Or.inl ⟨by rfl, ?_⟩
                intro w hSw
                (try dsimp only at hSw)
                go_simp
                first | done | rfl
              try simp only [Act.put, List.getElem_toArray, List.getElem_cons_zero, List.getElem_cons_succ, List.setIfInBounds_toArray, List.set_cons_zero, List.set_cons_succ]
              refine wpAnyH_take (i := 4) (oi := ?o518) (v := ?v518) ?i518 (by kernel_rfl) (by kernel_rfl) (by kernel_rfl) ?q518 ?y518 (hHeld) ?r518
              case i518 => exact rfl
              case q518 => exact (fun _ _ _ h => h)
              case y518 =>
                refine Or.inl ⟨by rfl, ?_⟩
                intro w hSw
                (try dsimp only at hSw)
                go_simp
                first | done | rfl
              try simp only [Act.put, List.getElem_toArray, List.getElem_cons_zero, List.getElem_cons_succ, List.setIfInBounds_toArray, List.set_cons_zero, List.set_cons_succ]
              refine wpAnyH_take (i := 5) (oi := ?o519) (v := ?v519) ?i519 (by kernel_rfl) (by kernel_rfl) (by kernel_rfl) ?q519 ?y519 (hHeld) ?r519
              case i519 => exact rfl
              case q519 => exact (fun _ _ _ h => h)
              case y519 =>
                refine Or.inl ⟨by rfl, ?_⟩
                intro w hSw
                (try dsimp only at hSw)
                go_simp
                first | done | rfl
              try simp only [Act.put, List.getElem_toArray, List.getElem_cons_zero, List.getElem_cons_succ, List.setIfInBounds_toArray, List.set_cons_zero, List.set_cons_succ]
              refine wpAnyH_take (i := 6) (oi := ?o520) (v := ?v520) ?i520 (by kernel_rfl) (by kernel_rfl) (by kernel_rfl) ?q520 ?y520 (hHeld) ?r520
              case i520 => exact rfl
              case q520 => exact (fun _ _ _ h => h)
              case y520 =>
                refine Or.inl ⟨by rfl, ?_⟩
                intro w hSw
                (try dsimp only at hSw)
                go_simp
                first | done | rfl
              try simp only [Act.put, List.getElem_toArray, List.getElem_cons_zero, List.getElem_cons_succ, List.setIfInBounds_toArray, List.set_cons_zero, List.set_cons_succ]
              refine wpAnyH_take (i := 7) (oi := ?o521) (v := ?v521) ?i521 (by kernel_rfl) (by kernel_rfl) (by kernel_rfl) ?q521 ?y521 (hHeld) ?r521
              case i521 => exact rfl
              case q521 => exact (fun _ _ _ h => h)
              case y521 =>
                refine Or.inl ⟨by rfl, ?_⟩
                intro w hSw
                (try dsimp only at hSw)
                go_simp
                first | done | rfl
              try simp only [Act.put, List.getElem_toArray, List.getElem_cons_zero, List.getElem_cons_succ, List.setIfInBounds_toArray, List.set_cons_zero, List.set_cons_succ]
              refine wpAnyH_take (i := 8) (oi := ?o522) (v := ?v522) ?i522 (by kernel_rfl) (by kernel_rfl) (by kernel_rfl) ?q522 ?y522 (hHeld) ?r522
              case i522 => exact rfl
              case q522 => exact (fun _ _ _ h => h)
              case y522 =>
                refine Or.inl ⟨by rfl, ?_⟩
                intro w hSw
                (try dsimp only at hSw)
                go_simp
                first | done | rfl
              try simp only [Act.put, List.getElem_toArray, List.getElem_cons_zero, List.getElem_cons_succ, List.setIfInBounds_toArray, List.set_cons_zero, List.set_cons_succ]
              refine wpAnyH_take (i := 9) (oi := ?o523) (v := ?v523) ?i523 (by kernel_rfl) (by kernel_rfl) (by kernel_rfl) ?q523 ?y523 (hHeld) ?r523
              case i523 => exact rfl
              case q523 => exact (fun _ _ _ h => h)
              case y523 =>
                refine Or.inl ⟨by rfl, ?_⟩
                intro w hSw
                (try dsimp only at hSw)
                go_simp
                first | done | rfl
              try simp only [Act.put, List.getElem_toArray, List.getElem_cons_zero, List.getElem_cons_succ, List.setIfInBounds_toArray, List.set_cons_zero, List.set_cons_succ]
              refine wpAnyH_take (i := 10) (oi := ?o524) (v := ?v524) ?i524 (by kernel_rfl) (by kernel_rfl) (by kernel_rfl) ?q524 ?y524 (hHeld) ?r524
              case i524 => exact rfl
              case q524 => exact (fun _ _ _ h => h)
              case y524 =>
                refine Or.inl ⟨by rfl, ?_⟩
                intro w hSw
                (try dsimp only at hSw)
                go_simp
                first | done | rfl
              try simp only [Act.put, List.getElem_toArray, List.getElem_cons_zero, List.getElem_cons_succ, List.setIfInBounds_toArray, List.set_cons_zero, List.set_cons_succ]
              refine wpAnyH_take (i := 11) (oi := ?o525) (v := ?v525) ?i525 (by kernel_rfl) (by kernel_rfl) (by kernel_rfl) ?q525 ?y525 (hHeld) ?r525
              case i525 => exact rfl
              case q525 => exact (fun _ _ _ h => h)
              case y525 =>
                refine Or.inl ⟨by rfl, ?_⟩
                intro w hSw
                (try dsimp only at hSw)
                go_simp
                first | done | rfl
              try simp only [Act.put, List.getElem_toArray, List.getElem_cons_zero, List.getElem_cons_succ, List.setIfInBounds_toArray, List.set_cons_zero, List.set_cons_succ]
              refine wpAnyH_take (i := 12) (oi := ?o526) (v := ?v526) ?i526 (by kernel_rfl) (by kernel_rfl) (by kernel_rfl) ?q526 ?y526 (hHeld) ?r526
              case i526 => exact rfl
              case q526 => exact (fun _ _ _ h => h)
              case y526 =>
                refine Or.inl ⟨by rfl, ?_⟩
                intro w hSw
                (try dsimp only at hSw)
                go_simp
                first | done | rfl
              try simp only [Act.put, List.getElem_toArray, List.getElem_cons_zero, List.getElem_cons_succ, List.setIfInBounds_toArray, List.set_cons_zero, List.set_cons_succ]
              refine wpAnyH_done (by kernel_rfl) ?_ _
              go_wp2_with fail
              go_ret
              exact ⟨rb (by rw [HM.out]; exact (memB_no HX.out (by rw [Hl.out, fit_iff]; simp [okW, hok, hh])).symm), hbA.drew.trans (hba.mono hbA.size)⟩
            · refine wp_region_held_drew (S := fun wx => wx.cell? ⟨g, 0, none⟩ = some (.slice (some ⟨b, off, none⟩) n c) ∧ wx.cell? ⟨gx, 0, none⟩ = some (.bool x.t) ∧ wx.cell? ⟨gx, 1, none⟩ = some (.int .i64 x.n) ∧ wx.cell? ⟨gx, 2, none⟩ = some (.int .i64 x.l) ∧ wx.cell? ⟨gx, 3, none⟩ = some (.int .i64 x.h) ∧ wx.cell? ⟨gx, 4, none⟩ = some (.int .i64 x.a) ∧ wx.cell? ⟨gx, 5, none⟩ = some (.int .i64 x.p) ∧ wx.cell? ⟨gx, 6, none⟩ = some (.int .i64 x.s)) (by kernel_rfl) HS0 (fun hHeld => ?_)
              refine wpAnyH_take (i := 0) (oi := ?o527) (v := ?v527) ?i527 (by kernel_rfl) (by kernel_rfl) (by kernel_rfl) ?q527 ?y527 (hHeld) ?r527
              case i527 => exact rfl
              case q527 => exact (fun _ _ _ h => h)
              case y527 =>
                refine Or.inl ⟨by rfl, ?_⟩
                intro w hSw
                (try dsimp only at hSw)
                go_simp
                first | done | rfl
              try simp only [Act.put, List.getElem_toArray, List.getElem_cons_zero, List.getElem_cons_succ, List.setIfInBounds_toArray, List.set_cons_zero, List.set_cons_succ]
              refine wpAnyH_ready (rs := [1]) (by kernel_rfl) (by simp) ?_
              refine AllReadyH.cons (i := 1) (o := ?o528) ?i528 (fun K hK => ?_) AllReadyH.nil
              case i528 => exact rfl
              go_simp
              (with_reducible refine (HO _).mono ?_)
              rintro e wa ⟨rfl, hba⟩
              have HSa := HST.out hba
              go_wp2_with fail
              refine hK.out _ _ (HSa) (fun hHeld => ?_)
              clear hK K
              try simp only [Act.put, List.getElem_toArray, List.getElem_cons_zero, List.getElem_cons_succ, List.setIfInBounds_toArray, List.set_cons_zero, List.set_cons_succ]
              refine wpAnyH_take (i := 2) (oi := ?o529) (v := ?v529) ?i529 (by kernel_rfl) (by kernel_rfl) (by kernel_rfl) ?q529 ?y529 (hHeld) ?r529
              case i529 => exact rfl
              case q529 => exact (fun _ _ _ h => h)
              case y529 =>
                refine Or.inl ⟨by rfl, ?_⟩
                intro w hSw
                (try dsimp only at hSw)
                go_simp
                first | done | rfl
              try simp only [Act.put, List.getElem_toArray, List.getElem_cons_zero, List.getElem_cons_succ, List.setIfInBounds_toArray, List.set_cons_zero, List.set_cons_succ]
              refine wpAnyH_take (i := 3) (oi := ?o530) (v := ?v530) ?i530 (by kernel_rfl) (by kernel_rfl) (by kernel_rfl) ?q530 ?y530 (hHeld) ?r530
              case i530 => exact rfl
              case q530 => exact (fun _ _ _ h => h)
              case y530 =>
                refine Or.inl ⟨by rfl, ?_⟩
                intro w hSw
                (try dsimp only at hSw)
                go_simp
                first | done | rfl
              try simp only [Act.put, List.getElem_toArray, List.getElem_cons_zero, List.getElem_cons_succ, List.setIfInBounds_toArray, List.set_cons_zero, List.set_cons_succ]
              refine wpAnyH_take (i := 4) (oi := ?o531) (v := ?v531) ?i531 (by kernel_rfl) (by kernel_rfl) (by kernel_rfl) ?q531 ?y531 (hHeld) ?r531
              case i531 => exact rfl
              case q531 => exact (fun _ _ _ h => h)
              case y531 =>
                refine Or.inl ⟨by rfl, ?_⟩
                intro w hSw
                (try dsimp only at hSw)
                go_simp
                first | done | rfl
              try simp only [Act.put, List.getElem_toArray, List.getElem_cons_zero, List.getElem_cons_succ, List.setIfInBounds_toArray, List.set_cons_zero, List.set_cons_succ]
              refine wpAnyH_take (i := 5) (oi := ?o532) (v := ?v532) ?i532 (by kernel_rfl) (by kernel_rfl) (by kernel_rfl) ?q532 ?y532 (hHeld) ?r532
              case i532 => exact rfl
              case q532 => exact (fun _ _ _ h => h)
              case y532 =>
                refine Or.inl ⟨by rfl, ?_⟩
                intro w hSw
                (try dsimp only at hSw)
                go_simp
                first | done | rfl
              try simp only [Act.put, List.getElem_toArray, List.getElem_cons_zero, List.getElem_cons_succ, List.setIfInBounds_toArray, List.set_cons_zero, List.set_cons_succ]
              refine wpAnyH_take (i := 6) (oi := ?o533) (v := ?v533) ?i533 (by kernel_rfl) (by kernel_rfl) (by kernel_rfl) ?q533 ?y533 (hHeld) ?r533
              case i533 => exact rfl
              case q533 => exact (fun _ _ _ h => h)
              case y533 =>
                refine Or.inl ⟨by rfl, ?_⟩
                intro w hSw
                (try dsimp only at hSw)
                go_simp
                first | done | rfl
              try simp only [Act.put, List.getElem_toArray, List.getElem_cons_zero, List.getElem_cons_succ, List.setIfInBounds_toArray, List.set_cons_zero, List.set_cons_succ]
              refine wpAnyH_take (i := 7) (oi := ?o534) (v := ?v534) ?i534 (by kernel_rfl) (by kernel_rfl) (by kernel_rfl) ?q534 ?y534 (hHeld) ?r534
              case i534 => exact rfl
              case q534 => exact (fun _ _ _ h => h)
              case y534 =>
                refine Or.inl ⟨by rfl, ?_⟩
                intro w hSw
                (try dsimp only at hSw)
                go_simp
                first | done | rfl
              try simp only [Act.put, List.getElem_toArray, List.getElem_cons_zero, List.getElem_cons_succ, List.setIfInBounds_toArray, List.set_cons_zero, List.set_cons_succ]
              refine wpAnyH_take (i := 8) (oi := ?o535) (v := ?v535) ?i535 (by kernel_rfl) (by kernel_rfl) (by kernel_rfl) ?q535 ?y535 (hHeld) ?r535
              case i535 => exact rfl
              case q535 => exact (fun _ _ _ h => h)
              case y535 =>
                refine Or.inl ⟨by rfl, ?_⟩
                intro w hSw
                (try dsimp only at hSw)
                go_simp
                first | done | rfl
              try simp only [Act.put, List.getElem_toArray, List.getElem_cons_zero, List.getElem_cons_succ, List.setIfInBounds_toArray, List.set_cons_zero, List.set_cons_succ]
              refine wpAnyH_take (i := 9) (oi := ?o536) (v := ?v536) ?i536 (by kernel_rfl) (by kernel_rfl) (by kernel_rfl) ?q536 ?y536 (hHeld) ?r536
              case i536 => exact rfl
              case q536 => exact (fun _ _ _ h => h)
              case y536 =>
                refine Or.inl ⟨by rfl, ?_⟩
                intro w hSw
                (try dsimp only at hSw)
                go_simp
                first | done | rfl
              try simp only [Act.put, List.getElem_toArray, List.getElem_cons_zero, List.getElem_cons_succ, List.setIfInBounds_toArray, List.set_cons_zero, List.set_cons_succ]
              refine wpAnyH_take (i := 10) (oi := ?o537) (v := ?v537) ?i537 (by kernel_rfl) (by kernel_rfl) (by kernel_rfl) ?q537 ?y537 (hHeld) ?r537
              case i537 => exact rfl
              case q537 => exact (fun _ _ _ h => h)
              case y537 =>
                refine Or.inl ⟨by rfl, ?_⟩
                intro w hSw
                (try dsimp only at hSw)
                go_simp
                first | done | rfl
              try simp only [Act.put, List.getElem_toArray, List.getElem_cons_zero, List.getElem_cons_succ, List.setIfInBounds_toArray, List.set_cons_zero, List.set_cons_succ]
              refine wpAnyH_take (i := 11) (oi := ?o538) (v := ?v538) ?i538 (by kernel_rfl) (by kernel_rfl) (by kernel_rfl) ?q538 ?y538 (hHeld) ?r538
              case i538 => exact rfl
              case q538 => exact (fun _ _ _ h => h)
              case y538 =>
                refine Or.inl ⟨by rfl, ?_⟩
                intro w hSw
                (try dsimp only at hSw)
                go_simp
                first | done | rfl
              try simp only [Act.put, List.getElem_toArray, List.getElem_cons_zero, List.getElem_cons_succ, List.setIfInBounds_toArray, List.set_cons_zero, List.set_cons_succ]
              refine wpAnyH_take (i := 12) (oi := ?o539) (v := ?v539) ?i539 (by kernel_rfl) (by kernel_rfl) (by kernel_rfl) ?q539 ?y539 (hHeld) ?r539
              case i539 => exact rfl
              case q539 => exact (fun _ _ _ h => h)
              case y539 =>
                refine Or.inl ⟨by rfl, ?_⟩
                intro w hSw
                (try dsimp only at hSw)
                go_simp
                first | done | rfl
              try simp only [Act.put, List.getElem_toArray, List.getElem_cons_zero, List.getElem_cons_succ, List.setIfInBounds_toArray, List.set_cons_zero, List.set_cons_succ]
              refine wpAnyH_done (by kernel_rfl) ?_ _
              have hb0 : Below w.heap.size w wa := hbA.drew.trans (hba.mono hbA.size)
              have hfx : fitW n x = true := by rw [fit_iff]; simp [okW, hok, hh]
              go_wp2_with fail
              go_roundw
              case rel => exact ⟨k + 1, by omega, by go_num, hb0, fit_next HX.out hfx hfit.out⟩
              case measure => simp [intOf]; omega
        · go_wp2_with fail
          go_ret
          have hkn : k = n := by omega
          subst hkn
          exact ⟨rb (by rw [HM.out]; exact (memB_yes Hl.out (by omega) hfit.out).symm), hbr⟩

set_option maxRecDepth 100000 in
set_option maxHeartbeats 4000000 in
theorem implMemM (a : Option Addr) (n c : Nat) (l : List Wd) (w : World) (h : WRow w a n l) (h64 : ∀ x ∈ l, In64 x.s) (hn : n ≤ 1048576) :
    Calls Try.prog 6 #[.agg #[.slice a n c]] w fun e w' => e = .returned (.bool (memB l)) ∧ Below w.heap.size w w' := by
  have hB : Below w.heap.size w (w.alloc (.cells #[.slice a n c] 25)) := (by repeat (first | exact Below.refl _ _ | assumption | (refine below_drewN ?_ _) | apply Below.drew | (refine Below.alloc ?_ ?_ _) | (refine Below.setCell ?_ ?_ _) | omega | (simp; omega) | simp))
  have H := isOkM w.heap.size a n c l (w.alloc (.cells #[.slice a n c] 25)) (heap_alloc_new w _) (h.below hB) h64 hn
  clear h
  generalize memB l = r at *
  go_enter Try.func6, Try.ntmps6
  go_wp2_with fail
  refine H.mono ?_
  rintro e w1 ⟨rfl, hb1⟩
  have hB1 : Below w.heap.size w w1 := hB.trans (hb1.mono (by simp))
  clear H hB hb1
  go_wp2_with fail
  go_ret
  exact ⟨rfl, hB1⟩
end Go.Proofs.Ytjojildjnafgiaa

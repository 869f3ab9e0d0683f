/- The law of Load returns true at every memory, word and int, and writes nothing that was there. -/
import Derived.Test.YtchchigiafacbaaDoorMemLoad2
import Derived.Test.YtchchigiafacbaaDoorMemOkLaw
import Derived.Deep.Cut
import Derived.Deep.CutRange
namespace Go.Proofs.YtchchigiafacbaaDoor
open Go.RowKit
set_option linter.unusedVariables false
set_option linter.unusedSimpArgs false

theorem WB.lt {w : World} {g : Nat} {l : List Wd} (h : WB w g l) : g < w.heap.size := (Array.getElem?_eq_some_iff.1 h).1
theorem WB.drew {w : World} {g : Nat} {l : List Wd} (h : WB w g l) : WB w.drew g l := heap_drew h

set_option maxRecDepth 100000 in
set_option maxHeartbeats 8000000 in
theorem load_walk (w : World) (p t b : Addr) (hs : Sents w p t b) (a : Option Addr) (n c : Nat) (l : List Wd) (hnc : n ≤ c) (hcm : c ≤ maxLen) (h : WRow w a n l) (hf : ∀ x ∈ l, FitsW x) (xt : Bool) (xn xl xh xa xp xs : Int) {Q1 Q2 : Prop} (_ : Q1) (by_ : Int) (_ : Q2) :
    Calls Tryd.prog 5 #[.agg #[.slice a n c], .agg #[.bool xt, .int .i64 xn, .int .i64 xl, .int .i64 xh, .int .i64 xa, .int .i64 xp, .int .i64 xs], .int .i64 by_] w fun e w' => e = .returned (.bool true) ∧ Below w.heap.size w w' := by
  have hn0 : n ≤ 9223372036854775807 := by unfold maxLen at hcm; omega
  have Hsz := fun w => szM a n c 1048576 w rfl hn0
  have h64 : ∀ x ∈ l, In64 x.s := fun x hx => in64W (hf x hx).2.2.2.2.2
  have Hh : Hid (WRow w a n l) := h
  have Hl : Hid (l.length = n) := h.1
  have HS : Hid (Sents w p t b) := hs
  clear hcm hf hnc h hs
  by_cases hn : n ≤ 1048576
  · simp only [if_pos hn] at Hsz
    have H1 := fun g w h => specLoadM (some ⟨g, 0, none⟩) n n l xt xn xl xh xa xp xs by_ w h hn
    have H2 := fun g w h hs => implLoadM (some ⟨g, 0, none⟩) n n l xt xn xl xh xa xp xs by_ p t b w h h64 hs hn
    generalize fullT l xt xn xl xh xa xp xs by_ = tr at H1 H2
    generalize fullV l xt xn xl xh xa xp xs by_ = u at H1 H2
    clear h64
    go_enter Tryd.func5, Tryd.ntmps5
    go_wp2_with fail
    refine (Hsz _).mono ?_
    rintro e w1 ⟨rfl, o1, rfl⟩
    obtain ⟨w1, e1⟩ : ∃ w1, w1 = ((w.alloc (.cells #[.slice a n c] 46)).alloc (.cells #[.bool xt, .int .i64 xn, .int .i64 xl, .int .i64 xh, .int .i64 xa, .int .i64 xp, .int .i64 xs] 47)).alloc o1 := ⟨_, rfl⟩
    have hb1 : Below w.heap.size w w1 := by rw [e1]; exact (((Below.refl _ _).alloc (Nat.le_refl _) _).alloc (by simp) _).alloc (by simp; omega) _
    have hs1 : w.heap.size + 2 < w1.heap.size := by rw [e1]; simp
    have cm1 : w1.cell? ⟨w.heap.size, 0, none⟩ = some (.slice a n c) := by rw [e1, cell_alloc_old _ _ (by simp; omega), cell_alloc_old _ _ (by simp)]; simp [go_sem]
    have cx1 : w1.cell? ⟨w.heap.size + 1, 0, none⟩ = some (.bool xt) ∧ w1.cell? ⟨w.heap.size + 1, 1, none⟩ = some (.int .i64 xn) ∧ w1.cell? ⟨w.heap.size + 1, 2, none⟩ = some (.int .i64 xl) ∧ w1.cell? ⟨w.heap.size + 1, 3, none⟩ = some (.int .i64 xh) ∧ w1.cell? ⟨w.heap.size + 1, 4, none⟩ = some (.int .i64 xa) ∧ w1.cell? ⟨w.heap.size + 1, 5, none⟩ = some (.int .i64 xp) ∧ w1.cell? ⟨w.heap.size + 1, 6, none⟩ = some (.int .i64 xs) := by
      have hx := heap_alloc_new (w.alloc (.cells #[.slice a n c] 46)) (.cells #[.bool xt, .int .i64 xn, .int .i64 xl, .int .i64 xh, .int .i64 xa, .int .i64 xp, .int .i64 xs] 47)
      have hsz1 : (w.alloc (.cells #[.slice a n c] 46)).heap.size = w.heap.size + 1 := by simp
      rw [hsz1] at hx
      have hx1 : w1.heap[w.heap.size + 1]? = some (.cells #[.bool xt, .int .i64 xn, .int .i64 xl, .int .i64 xh, .int .i64 xa, .int .i64 xp, .int .i64 xs] 47 (0, 0)) := by rw [e1, old_block (by simp)]; exact hx
      exact ⟨by rw [cell_of_row w1 _ 0 _ _ (0, 0) hx1]; rfl, by rw [cell_of_row w1 _ 1 _ _ (0, 0) hx1]; rfl, by rw [cell_of_row w1 _ 2 _ _ (0, 0) hx1]; rfl, by rw [cell_of_row w1 _ 3 _ _ (0, 0) hx1]; rfl, by rw [cell_of_row w1 _ 4 _ _ (0, 0) hx1]; rfl, by rw [cell_of_row w1 _ 5 _ _ (0, 0) hx1]; rfl, by rw [cell_of_row w1 _ 6 _ _ (0, 0) hx1]; rfl⟩
    rw [← e1]
    clear e1 Hsz
    have Hb1 : Hid (Below w.heap.size w w1) := hb1
    have HW1 : Hid (∀ {wx : World}, Below w1.heap.size w1 wx → WRow wx a n l) := fun hb => Hh.out.below (Hb1.out.trans (hb.mono Hb1.out.size))
    have hlt : ¬ ((1048576 : Int) - (n : Int) < 0) := by omega
    generalize hgm : w.heap.size = gm at *
    have Hg : Hid (w.heap.size = gm) := hgm
    clear hgm hb1
    go_upto_region 5 with fail
    have HC1 : Hid (w1.cell? ⟨gm, 0, none⟩ = some (.slice a n c) ∧ w1.cell? ⟨gm + 1, 0, none⟩ = some (.bool xt) ∧ w1.cell? ⟨gm + 1, 1, none⟩ = some (.int .i64 xn) ∧ w1.cell? ⟨gm + 1, 2, none⟩ = some (.int .i64 xl) ∧ w1.cell? ⟨gm + 1, 3, none⟩ = some (.int .i64 xh) ∧ w1.cell? ⟨gm + 1, 4, none⟩ = some (.int .i64 xa) ∧ w1.cell? ⟨gm + 1, 5, none⟩ = some (.int .i64 xp) ∧ w1.cell? ⟨gm + 1, 6, none⟩ = some (.int .i64 xs)) := ⟨cm1, cx1⟩
    clear cm1 cx1 hlt
    go_cut [8, 9] from 13 to 50 (fun s8 s9 wc => ∃ gA, s8 = .pointer (some ⟨gA, 0, none⟩) ∧ s9 = .int .i64 tr ∧ wc.heap[gA]? = some (.cells #[.bool u.t, .int .i64 u.n, .int .i64 u.l, .int .i64 u.h, .int .i64 u.a, .int .i64 u.p, .int .i64 u.s] 26 (0, 0)) ∧ Below w1.heap.size w1 wc ∧ w1.heap.size ≤ gA)
    case first =>
      have HK5 : Hid (∀ {wx : World}, Below w1.heap.size w1 wx → wx.cell? ⟨gm, 0, none⟩ = some (.slice a n c) ∧ wx.cell? ⟨gm + 1, 0, none⟩ = some (.bool xt) ∧ wx.cell? ⟨gm + 1, 1, none⟩ = some (.int .i64 xn) ∧ wx.cell? ⟨gm + 1, 2, none⟩ = some (.int .i64 xl) ∧ wx.cell? ⟨gm + 1, 3, none⟩ = some (.int .i64 xh) ∧ wx.cell? ⟨gm + 1, 4, none⟩ = some (.int .i64 xa) ∧ wx.cell? ⟨gm + 1, 5, none⟩ = some (.int .i64 xp) ∧ wx.cell? ⟨gm + 1, 6, none⟩ = some (.int .i64 xs)) := by
        intro wx hb
        have e1 : ∀ j, wx.cell? ⟨gm, j, none⟩ = w1.cell? ⟨gm, j, none⟩ := fun j => hb.cell (show gm < w1.heap.size by omega)
        have e2 : ∀ j, wx.cell? ⟨gm + 1, j, none⟩ = w1.cell? ⟨gm + 1, j, none⟩ := fun j => hb.cell (show gm + 1 < w1.heap.size by omega)
        simp only [e1, e2]
        exact HC1.out
      refine wp_region_held_drew (S := fun wx => wx.cell? ⟨gm, 0, none⟩ = some (.slice a n c) ∧ wx.cell? ⟨gm + 1, 0, none⟩ = some (.bool xt) ∧ wx.cell? ⟨gm + 1, 1, none⟩ = some (.int .i64 xn) ∧ wx.cell? ⟨gm + 1, 2, none⟩ = some (.int .i64 xl) ∧ wx.cell? ⟨gm + 1, 3, none⟩ = some (.int .i64 xh) ∧ wx.cell? ⟨gm + 1, 4, none⟩ = some (.int .i64 xa) ∧ wx.cell? ⟨gm + 1, 5, none⟩ = some (.int .i64 xp) ∧ wx.cell? ⟨gm + 1, 6, none⟩ = some (.int .i64 xs)) (by kernel_rfl) (HK5.out (Below.refl _ _).drew) (fun hHeld => ?_)
      have hB0 : Below w1.heap.size w1 w1.drew := (Below.refl _ _).drew
      generalize w1.drew = wS at hB0 hHeld ⊢
      refine wpAnyH_take (i := 0) (oi := ?o1) (v := ?v1) ?i1 (by kernel_rfl) (by kernel_rfl) (by kernel_rfl) ?q1 ?y1 (hHeld) ?r1
      case i1 => exact rfl
      case q1 => exact (fun _ _ _ h => h)
      case y1 =>
        refine Or.inl ⟨by rfl, ?_⟩
        intro w hSw
        (try dsimp only at hSw)
        go_simp
        first | done | rfl
      try simp only [Act.put, List.getElem_toArray, List.getElem_cons_zero, List.getElem_cons_succ, List.setIfInBounds_toArray, List.set_cons_zero, List.set_cons_succ]
      refine wpAnyH_take (i := 2) (oi := ?o2) (v := ?v2) ?i2 (by kernel_rfl) (by kernel_rfl) (by kernel_rfl) ?q2 ?y2 (hHeld) ?r2
      case i2 => exact rfl
      case q2 => exact (fun _ _ _ h => h)
      case y2 =>
        refine Or.inl ⟨by rfl, ?_⟩
        intro w hSw
        (try dsimp only at hSw)
        go_simp
        first | done | rfl
      try simp only [Act.put, List.getElem_toArray, List.getElem_cons_zero, List.getElem_cons_succ, List.setIfInBounds_toArray, List.set_cons_zero, List.set_cons_succ]
      refine wpAnyH_take (i := 4) (oi := ?o3) (v := ?v3) ?i3 (by kernel_rfl) (by kernel_rfl) (by kernel_rfl) ?q3 ?y3 (hHeld) ?r3
      case i3 => exact rfl
      case q3 => exact (fun _ _ _ h => h)
      case y3 =>
        refine Or.inl ⟨by rfl, ?_⟩
        intro w hSw
        (try dsimp only at hSw)
        go_simp
        first | done | rfl
      try simp only [Act.put, List.getElem_toArray, List.getElem_cons_zero, List.getElem_cons_succ, List.setIfInBounds_toArray, List.set_cons_zero, List.set_cons_succ]
      refine wpAnyH_ready (rs := [1, 9]) (by kernel_rfl) (by simp) ?_
      refine AllReadyH.cons (i := 1) (o := ?o4) ?i4 ?g4 (AllReadyH.cons (i := 9) (o := ?o5) ?i5 ?g5 AllReadyH.nil)
      case i4 => exact rfl
      case i5 => exact rfl
      case g4 =>
        intro K hK
        go_simp
        (with_reducible refine (toM a n c l wS (HW1.out hB0) hn).mono ?_)
        rintro e v1 ⟨g, rfl, hgg, hW, hb_v1⟩
        have hB_v1 := hB0.trans (hb_v1.mono hB0.size)
        have hS_v1 := HK5.out hB_v1
        go_wp2_with fail
        refine hK.out _ _ (hS_v1) (fun hHeld => ?_)
        clear hK K
        try simp only [Act.put, List.getElem_toArray, List.getElem_cons_zero, List.getElem_cons_succ, List.setIfInBounds_toArray, List.set_cons_zero, List.set_cons_succ]
        refine wpAnyH_ready (rs := [3, 9]) (by kernel_rfl) (by simp) ?_
        refine AllReadyH.cons (i := 3) (o := ?o6) ?i6 ?g6 (AllReadyH.cons (i := 9) (o := ?o7) ?i7 ?g7 AllReadyH.nil)
        case i6 => exact rfl
        case i7 => exact rfl
        case g6 =>
          intro K hK
          go_simp
          (with_reducible refine (toWordM xt xn xl xh xa xp xs v1).mono ?_)
          rintro e v2 ⟨rfl, hb_v2⟩
          have hB_v2 := hB_v1.trans (hb_v2.mono hB_v1.size)
          replace hW := hW.below hb_v2 (Array.getElem?_eq_some_iff.1 hW).1
          have hS_v2 := HK5.out hB_v2
          go_wp2_with fail
          refine hK.out _ _ (hS_v2) (fun hHeld => ?_)
          clear hK K
          try simp only [Act.put, List.getElem_toArray, List.getElem_cons_zero, List.getElem_cons_succ, List.setIfInBounds_toArray, List.set_cons_zero, List.set_cons_succ]
          refine wpAnyH_ready (rs := [5, 9]) (by kernel_rfl) (by simp) ?_
          refine AllReadyH.cons (i := 5) (o := ?o8) ?i8 ?g8 (AllReadyH.cons (i := 9) (o := ?o9) ?i9 ?g9 AllReadyH.nil)
          case i8 => exact rfl
          case i9 => exact rfl
          case g8 =>
            intro K hK
            go_simp
            (with_reducible refine (H1 g v2 (hW.row Hl.out)).mono ?_)
            rintro e v3 ⟨rfl, hb_v3⟩
            have hB_v3 := hB_v2.trans (hb_v3.mono hB_v2.size)
            replace hW := hW.below hb_v3 (Array.getElem?_eq_some_iff.1 hW).1
            have hS_v3 := HK5.out hB_v3
            go_wp2_with fail
            refine hK.out _ _ (hS_v3) (fun hHeld => ?_)
            clear hK K
            try simp only [Act.put, List.getElem_toArray, List.getElem_cons_zero, List.getElem_cons_succ, List.setIfInBounds_toArray, List.set_cons_zero, List.set_cons_succ]
            refine wpAnyH_take (i := 6) (oi := ?o10) (v := ?v10) ?i10 (by kernel_rfl) (by kernel_rfl) (by kernel_rfl) ?q10 ?y10 (hHeld) ?r10
            case i10 => exact rfl
            case q10 => exact (fun _ _ _ h => h)
            case y10 =>
              refine Or.inl ⟨by rfl, ?_⟩
              intro w hSw
              (try dsimp only at hSw)
              go_simp
              first | done | rfl
            try simp only [Act.put, List.getElem_toArray, List.getElem_cons_zero, List.getElem_cons_succ, List.setIfInBounds_toArray, List.set_cons_zero, List.set_cons_succ]
            refine wpAnyH_take (i := 7) (oi := ?o11) (v := ?v11) ?i11 (by kernel_rfl) (by kernel_rfl) (by kernel_rfl) ?q11 ?y11 (hHeld) ?r11
            case i11 => exact rfl
            case q11 => exact (fun _ _ _ h => h)
            case y11 =>
              refine Or.inl ⟨by rfl, ?_⟩
              intro w hSw
              (try dsimp only at hSw)
              go_simp
              first | done | rfl
            try simp only [Act.put, List.getElem_toArray, List.getElem_cons_zero, List.getElem_cons_succ, List.setIfInBounds_toArray, List.set_cons_zero, List.set_cons_succ]
            refine wpAnyH_take (i := 8) (oi := ?o12) (v := ?v12) ?i12 (by kernel_rfl) (by kernel_rfl) (by kernel_rfl) ?q12 ?y12 (hHeld) ?r12
            case i12 => exact rfl
            case q12 => exact (fun _ _ _ h => h)
            case y12 =>
              refine Or.inl ⟨by rfl, ?_⟩
              intro w hSw
              (try dsimp only at hSw)
              go_simp
              first | done | rfl
            try simp only [Act.put, List.getElem_toArray, List.getElem_cons_zero, List.getElem_cons_succ, List.setIfInBounds_toArray, List.set_cons_zero, List.set_cons_succ]
            refine wpAnyH_ready (rs := [9]) (by kernel_rfl) (by simp) ?_
            refine AllReadyH.cons (i := 9) (o := ?o13) ?i13 ?g13 AllReadyH.nil
            case i13 => exact rfl
            case g13 =>
              intro K hK
              go_simp
              obtain ⟨v4, e_v4⟩ : ∃ x, x = v3.alloc (.cells #[.bool false, .int .i64 0, .int .i64 0, .int .i64 0, .int .i64 0, .int .i64 0, .int .i64 0] 26) := ⟨_, rfl⟩
              rw [← e_v4]
              have hb_v4 : Below v3.heap.size v3 v4 := by rw [e_v4]; exact (Below.refl _ _).alloc (Nat.le_refl _) _
              have hA := heap_alloc_new v3 (.cells #[.bool false, .int .i64 0, .int .i64 0, .int .i64 0, .int .i64 0, .int .i64 0, .int .i64 0] 26)
              rw [← e_v4] at hA
              have hA_ge : w1.heap.size ≤ v3.heap.size := hB_v3.size
              have hB_v4 := hB_v3.trans (hb_v4.mono hB_v3.size)
              clear e_v4
              replace hW := hW.below hb_v4 (Array.getElem?_eq_some_iff.1 hW).1
              have hS_v4 := HK5.out hB_v4
              refine hK.out _ _ (hS_v4) (fun hHeld => ?_)
              clear hK K
              try simp only [Act.put, List.getElem_toArray, List.getElem_cons_zero, List.getElem_cons_succ, List.setIfInBounds_toArray, List.set_cons_zero, List.set_cons_succ]
              obtain ⟨r0, r1, r2, r3, r4, r5, r6, f0, f1, f2, f3, f4, f5, f6⟩ := row_facts hA
              have hBW := put7_below hB_v4 hA_ge (.bool u.t) (.int .i64 u.n) (.int .i64 u.l) (.int .i64 u.h) (.int .i64 u.a) (.int .i64 u.p) (.int .i64 u.s)
              have hbW := put7_block (.bool u.t) (.int .i64 u.n) (.int .i64 u.l) (.int .i64 u.h) (.int .i64 u.a) (.int .i64 u.p) (.int .i64 u.s) hA
              have HbW : Hid _ := hbW
              have HBW : Hid _ := hBW
              have HSW : Hid _ := HK5.out hBW
              clear hbW hBW
              refine wpAnyH_ready (rs := [10]) (by kernel_rfl) (by simp) ?_
              refine AllReadyH.cons (i := 10) (o := ?o14) ?i14 (fun K hK => ?_) AllReadyH.nil
              case i14 => exact rfl
              go_simp
              refine hK.out _ _ (HSW.out) (fun hHeld => ?_)
              clear hK K
              try simp only [Act.put, List.getElem_toArray, List.getElem_cons_zero, List.getElem_cons_succ, List.setIfInBounds_toArray, List.set_cons_zero, List.set_cons_succ]
              refine wpAnyH_take (i := 11) (oi := ?o15) (v := ?v15) ?i15 (by kernel_rfl) (by kernel_rfl) (by kernel_rfl) ?q15 ?y15 (hHeld) ?r15
              case i15 => exact rfl
              case q15 => exact (fun _ _ _ h => h)
              case y15 =>
                refine Or.inl ⟨by rfl, ?_⟩
                intro w hSw
                (try dsimp only at hSw)
                go_simp
                first | done | rfl
              try simp only [Act.put, List.getElem_toArray, List.getElem_cons_zero, List.getElem_cons_succ, List.setIfInBounds_toArray, List.set_cons_zero, List.set_cons_succ]
              refine wpAnyH_done (by kernel_rfl) ?_ _
              go_wp2_with fail
              go_meet
              case rel => exact ⟨_, rfl, rfl, HbW.out, HBW.out, hA_ge⟩
          case g9 =>
            intro K hK
            go_simp
            obtain ⟨v5, e_v5⟩ : ∃ x, x = v2.alloc (.cells #[.bool false, .int .i64 0, .int .i64 0, .int .i64 0, .int .i64 0, .int .i64 0, .int .i64 0] 26) := ⟨_, rfl⟩
            rw [← e_v5]
            have hb_v5 : Below v2.heap.size v2 v5 := by rw [e_v5]; exact (Below.refl _ _).alloc (Nat.le_refl _) _
            have hA := heap_alloc_new v2 (.cells #[.bool false, .int .i64 0, .int .i64 0, .int .i64 0, .int .i64 0, .int .i64 0, .int .i64 0] 26)
            rw [← e_v5] at hA
            have hA_ge : w1.heap.size ≤ v2.heap.size := hB_v2.size
            have hB_v5 := hB_v2.trans (hb_v5.mono hB_v2.size)
            clear e_v5
            replace hW := hW.below hb_v5 (Array.getElem?_eq_some_iff.1 hW).1
            have hS_v5 := HK5.out hB_v5
            refine hK.out _ _ (hS_v5) (fun hHeld => ?_)
            clear hK K
            try simp only [Act.put, List.getElem_toArray, List.getElem_cons_zero, List.getElem_cons_succ, List.setIfInBounds_toArray, List.set_cons_zero, List.set_cons_succ]
            refine wpAnyH_ready (rs := [5]) (by kernel_rfl) (by simp) ?_
            refine AllReadyH.cons (i := 5) (o := ?o16) ?i16 ?g16 AllReadyH.nil
            case i16 => exact rfl
            case g16 =>
              intro K hK
              go_simp
              (with_reducible refine (H1 g v5 (hW.row Hl.out)).mono ?_)
              rintro e v6 ⟨rfl, hb_v6⟩
              have hB_v6 := hB_v5.trans (hb_v6.mono hB_v5.size)
              replace hW := hW.below hb_v6 (Array.getElem?_eq_some_iff.1 hW).1
              replace hA := (hb_v6.block _ (Array.getElem?_eq_some_iff.1 hA).1).trans hA
              have hS_v6 := HK5.out hB_v6
              go_wp2_with fail
              refine hK.out _ _ (hS_v6) (fun hHeld => ?_)
              clear hK K
              try simp only [Act.put, List.getElem_toArray, List.getElem_cons_zero, List.getElem_cons_succ, List.setIfInBounds_toArray, List.set_cons_zero, List.set_cons_succ]
              refine wpAnyH_take (i := 6) (oi := ?o17) (v := ?v17) ?i17 (by kernel_rfl) (by kernel_rfl) (by kernel_rfl) ?q17 ?y17 (hHeld) ?r17
              case i17 => exact rfl
              case q17 => exact (fun _ _ _ h => h)
              case y17 =>
                refine Or.inl ⟨by rfl, ?_⟩
                intro w hSw
                (try dsimp only at hSw)
                go_simp
                first | done | rfl
              try simp only [Act.put, List.getElem_toArray, List.getElem_cons_zero, List.getElem_cons_succ, List.setIfInBounds_toArray, List.set_cons_zero, List.set_cons_succ]
              refine wpAnyH_take (i := 7) (oi := ?o18) (v := ?v18) ?i18 (by kernel_rfl) (by kernel_rfl) (by kernel_rfl) ?q18 ?y18 (hHeld) ?r18
              case i18 => exact rfl
              case q18 => exact (fun _ _ _ h => h)
              case y18 =>
                refine Or.inl ⟨by rfl, ?_⟩
                intro w hSw
                (try dsimp only at hSw)
                go_simp
                first | done | rfl
              try simp only [Act.put, List.getElem_toArray, List.getElem_cons_zero, List.getElem_cons_succ, List.setIfInBounds_toArray, List.set_cons_zero, List.set_cons_succ]
              refine wpAnyH_take (i := 8) (oi := ?o19) (v := ?v19) ?i19 (by kernel_rfl) (by kernel_rfl) (by kernel_rfl) ?q19 ?y19 (hHeld) ?r19
              case i19 => exact rfl
              case q19 => exact (fun _ _ _ h => h)
              case y19 =>
                refine Or.inl ⟨by rfl, ?_⟩
                intro w hSw
                (try dsimp only at hSw)
                go_simp
                first | done | rfl
              try simp only [Act.put, List.getElem_toArray, List.getElem_cons_zero, List.getElem_cons_succ, List.setIfInBounds_toArray, List.set_cons_zero, List.set_cons_succ]
              obtain ⟨r0, r1, r2, r3, r4, r5, r6, f0, f1, f2, f3, f4, f5, f6⟩ := row_facts hA
              have hBW := put7_below hB_v6 hA_ge (.bool u.t) (.int .i64 u.n) (.int .i64 u.l) (.int .i64 u.h) (.int .i64 u.a) (.int .i64 u.p) (.int .i64 u.s)
              have hbW := put7_block (.bool u.t) (.int .i64 u.n) (.int .i64 u.l) (.int .i64 u.h) (.int .i64 u.a) (.int .i64 u.p) (.int .i64 u.s) hA
              have HbW : Hid _ := hbW
              have HBW : Hid _ := hBW
              have HSW : Hid _ := HK5.out hBW
              clear hbW hBW
              refine wpAnyH_ready (rs := [10]) (by kernel_rfl) (by simp) ?_
              refine AllReadyH.cons (i := 10) (o := ?o20) ?i20 (fun K hK => ?_) AllReadyH.nil
              case i20 => exact rfl
              go_simp
              refine hK.out _ _ (HSW.out) (fun hHeld => ?_)
              clear hK K
              try simp only [Act.put, List.getElem_toArray, List.getElem_cons_zero, List.getElem_cons_succ, List.setIfInBounds_toArray, List.set_cons_zero, List.set_cons_succ]
              refine wpAnyH_take (i := 11) (oi := ?o21) (v := ?v21) ?i21 (by kernel_rfl) (by kernel_rfl) (by kernel_rfl) ?q21 ?y21 (hHeld) ?r21
              case i21 => exact rfl
              case q21 => exact (fun _ _ _ h => h)
              case y21 =>
                refine Or.inl ⟨by rfl, ?_⟩
                intro w hSw
                (try dsimp only at hSw)
                go_simp
                first | done | rfl
              try simp only [Act.put, List.getElem_toArray, List.getElem_cons_zero, List.getElem_cons_succ, List.setIfInBounds_toArray, List.set_cons_zero, List.set_cons_succ]
              refine wpAnyH_done (by kernel_rfl) ?_ _
              go_wp2_with fail
              go_meet
              case rel => exact ⟨_, rfl, rfl, HbW.out, HBW.out, hA_ge⟩
        case g7 =>
          intro K hK
          go_simp
          obtain ⟨v7, e_v7⟩ : ∃ x, x = v1.alloc (.cells #[.bool false, .int .i64 0, .int .i64 0, .int .i64 0, .int .i64 0, .int .i64 0, .int .i64 0] 26) := ⟨_, rfl⟩
          rw [← e_v7]
          have hb_v7 : Below v1.heap.size v1 v7 := by rw [e_v7]; exact (Below.refl _ _).alloc (Nat.le_refl _) _
          have hA := heap_alloc_new v1 (.cells #[.bool false, .int .i64 0, .int .i64 0, .int .i64 0, .int .i64 0, .int .i64 0, .int .i64 0] 26)
          rw [← e_v7] at hA
          have hA_ge : w1.heap.size ≤ v1.heap.size := hB_v1.size
          have hB_v7 := hB_v1.trans (hb_v7.mono hB_v1.size)
          clear e_v7
          replace hW := hW.below hb_v7 (Array.getElem?_eq_some_iff.1 hW).1
          have hS_v7 := HK5.out hB_v7
          refine hK.out _ _ (hS_v7) (fun hHeld => ?_)
          clear hK K
          try simp only [Act.put, List.getElem_toArray, List.getElem_cons_zero, List.getElem_cons_succ, List.setIfInBounds_toArray, List.set_cons_zero, List.set_cons_succ]
          refine wpAnyH_ready (rs := [3]) (by kernel_rfl) (by simp) ?_
          refine AllReadyH.cons (i := 3) (o := ?o22) ?i22 ?g22 AllReadyH.nil
          case i22 => exact rfl
          case g22 =>
            intro K hK
            go_simp
            (with_reducible refine (toWordM xt xn xl xh xa xp xs v7).mono ?_)
            rintro e v8 ⟨rfl, hb_v8⟩
            have hB_v8 := hB_v7.trans (hb_v8.mono hB_v7.size)
            replace hW := hW.below hb_v8 (Array.getElem?_eq_some_iff.1 hW).1
            replace hA := (hb_v8.block _ (Array.getElem?_eq_some_iff.1 hA).1).trans hA
            have hS_v8 := HK5.out hB_v8
            go_wp2_with fail
            refine hK.out _ _ (hS_v8) (fun hHeld => ?_)
            clear hK K
            try simp only [Act.put, List.getElem_toArray, List.getElem_cons_zero, List.getElem_cons_succ, List.setIfInBounds_toArray, List.set_cons_zero, List.set_cons_succ]
            refine wpAnyH_ready (rs := [5]) (by kernel_rfl) (by simp) ?_
            refine AllReadyH.cons (i := 5) (o := ?o23) ?i23 ?g23 AllReadyH.nil
            case i23 => exact rfl
            case g23 =>
              intro K hK
              go_simp
              (with_reducible refine (H1 g v8 (hW.row Hl.out)).mono ?_)
              rintro e v9 ⟨rfl, hb_v9⟩
              have hB_v9 := hB_v8.trans (hb_v9.mono hB_v8.size)
              replace hW := hW.below hb_v9 (Array.getElem?_eq_some_iff.1 hW).1
              replace hA := (hb_v9.block _ (Array.getElem?_eq_some_iff.1 hA).1).trans hA
              have hS_v9 := HK5.out hB_v9
              go_wp2_with fail
              refine hK.out _ _ (hS_v9) (fun hHeld => ?_)
              clear hK K
              try simp only [Act.put, List.getElem_toArray, List.getElem_cons_zero, List.getElem_cons_succ, List.setIfInBounds_toArray, List.set_cons_zero, List.set_cons_succ]
              refine wpAnyH_take (i := 6) (oi := ?o24) (v := ?v24) ?i24 (by kernel_rfl) (by kernel_rfl) (by kernel_rfl) ?q24 ?y24 (hHeld) ?r24
              case i24 => exact rfl
              case q24 => exact (fun _ _ _ h => h)
              case y24 =>
                refine Or.inl ⟨by rfl, ?_⟩
                intro w hSw
                (try dsimp only at hSw)
                go_simp
                first | done | rfl
              try simp only [Act.put, List.getElem_toArray, List.getElem_cons_zero, List.getElem_cons_succ, List.setIfInBounds_toArray, List.set_cons_zero, List.set_cons_succ]
              refine wpAnyH_take (i := 7) (oi := ?o25) (v := ?v25) ?i25 (by kernel_rfl) (by kernel_rfl) (by kernel_rfl) ?q25 ?y25 (hHeld) ?r25
              case i25 => exact rfl
              case q25 => exact (fun _ _ _ h => h)
              case y25 =>
                refine Or.inl ⟨by rfl, ?_⟩
                intro w hSw
                (try dsimp only at hSw)
                go_simp
                first | done | rfl
              try simp only [Act.put, List.getElem_toArray, List.getElem_cons_zero, List.getElem_cons_succ, List.setIfInBounds_toArray, List.set_cons_zero, List.set_cons_succ]
              refine wpAnyH_take (i := 8) (oi := ?o26) (v := ?v26) ?i26 (by kernel_rfl) (by kernel_rfl) (by kernel_rfl) ?q26 ?y26 (hHeld) ?r26
              case i26 => exact rfl
              case q26 => exact (fun _ _ _ h => h)
              case y26 =>
                refine Or.inl ⟨by rfl, ?_⟩
                intro w hSw
                (try dsimp only at hSw)
                go_simp
                first | done | rfl
              try simp only [Act.put, List.getElem_toArray, List.getElem_cons_zero, List.getElem_cons_succ, List.setIfInBounds_toArray, List.set_cons_zero, List.set_cons_succ]
              obtain ⟨r0, r1, r2, r3, r4, r5, r6, f0, f1, f2, f3, f4, f5, f6⟩ := row_facts hA
              have hBW := put7_below hB_v9 hA_ge (.bool u.t) (.int .i64 u.n) (.int .i64 u.l) (.int .i64 u.h) (.int .i64 u.a) (.int .i64 u.p) (.int .i64 u.s)
              have hbW := put7_block (.bool u.t) (.int .i64 u.n) (.int .i64 u.l) (.int .i64 u.h) (.int .i64 u.a) (.int .i64 u.p) (.int .i64 u.s) hA
              have HbW : Hid _ := hbW
              have HBW : Hid _ := hBW
              have HSW : Hid _ := HK5.out hBW
              clear hbW hBW
              refine wpAnyH_ready (rs := [10]) (by kernel_rfl) (by simp) ?_
              refine AllReadyH.cons (i := 10) (o := ?o27) ?i27 (fun K hK => ?_) AllReadyH.nil
              case i27 => exact rfl
              go_simp
              refine hK.out _ _ (HSW.out) (fun hHeld => ?_)
              clear hK K
              try simp only [Act.put, List.getElem_toArray, List.getElem_cons_zero, List.getElem_cons_succ, List.setIfInBounds_toArray, List.set_cons_zero, List.set_cons_succ]
              refine wpAnyH_take (i := 11) (oi := ?o28) (v := ?v28) ?i28 (by kernel_rfl) (by kernel_rfl) (by kernel_rfl) ?q28 ?y28 (hHeld) ?r28
              case i28 => exact rfl
              case q28 => exact (fun _ _ _ h => h)
              case y28 =>
                refine Or.inl ⟨by rfl, ?_⟩
                intro w hSw
                (try dsimp only at hSw)
                go_simp
                first | done | rfl
              try simp only [Act.put, List.getElem_toArray, List.getElem_cons_zero, List.getElem_cons_succ, List.setIfInBounds_toArray, List.set_cons_zero, List.set_cons_succ]
              refine wpAnyH_done (by kernel_rfl) ?_ _
              go_wp2_with fail
              go_meet
              case rel => exact ⟨_, rfl, rfl, HbW.out, HBW.out, hA_ge⟩
      case g5 =>
        intro K hK
        go_simp
        obtain ⟨v10, e_v10⟩ : ∃ x, x = wS.alloc (.cells #[.bool false, .int .i64 0, .int .i64 0, .int .i64 0, .int .i64 0, .int .i64 0, .int .i64 0] 26) := ⟨_, rfl⟩
        rw [← e_v10]
        have hb_v10 : Below wS.heap.size wS v10 := by rw [e_v10]; exact (Below.refl _ _).alloc (Nat.le_refl _) _
        have hA := heap_alloc_new wS (.cells #[.bool false, .int .i64 0, .int .i64 0, .int .i64 0, .int .i64 0, .int .i64 0, .int .i64 0] 26)
        rw [← e_v10] at hA
        have hA_ge : w1.heap.size ≤ wS.heap.size := hB0.size
        have hB_v10 := hB0.trans (hb_v10.mono hB0.size)
        clear e_v10
        have hS_v10 := HK5.out hB_v10
        refine hK.out _ _ (hS_v10) (fun hHeld => ?_)
        clear hK K
        try simp only [Act.put, List.getElem_toArray, List.getElem_cons_zero, List.getElem_cons_succ, List.setIfInBounds_toArray, List.set_cons_zero, List.set_cons_succ]
        refine wpAnyH_ready (rs := [1]) (by kernel_rfl) (by simp) ?_
        refine AllReadyH.cons (i := 1) (o := ?o29) ?i29 ?g29 AllReadyH.nil
        case i29 => exact rfl
        case g29 =>
          intro K hK
          go_simp
          (with_reducible refine (toM a n c l v10 (HW1.out hB_v10) hn).mono ?_)
          rintro e v11 ⟨g, rfl, hgg, hW, hb_v11⟩
          have hB_v11 := hB_v10.trans (hb_v11.mono hB_v10.size)
          replace hA := (hb_v11.block _ (Array.getElem?_eq_some_iff.1 hA).1).trans hA
          have hS_v11 := HK5.out hB_v11
          go_wp2_with fail
          refine hK.out _ _ (hS_v11) (fun hHeld => ?_)
          clear hK K
          try simp only [Act.put, List.getElem_toArray, List.getElem_cons_zero, List.getElem_cons_succ, List.setIfInBounds_toArray, List.set_cons_zero, List.set_cons_succ]
          refine wpAnyH_ready (rs := [3]) (by kernel_rfl) (by simp) ?_
          refine AllReadyH.cons (i := 3) (o := ?o30) ?i30 ?g30 AllReadyH.nil
          case i30 => exact rfl
          case g30 =>
            intro K hK
            go_simp
            (with_reducible refine (toWordM xt xn xl xh xa xp xs v11).mono ?_)
            rintro e v12 ⟨rfl, hb_v12⟩
            have hB_v12 := hB_v11.trans (hb_v12.mono hB_v11.size)
            replace hA := (hb_v12.block _ (Array.getElem?_eq_some_iff.1 hA).1).trans hA
            replace hW := hW.below hb_v12 (Array.getElem?_eq_some_iff.1 hW).1
            have hS_v12 := HK5.out hB_v12
            go_wp2_with fail
            refine hK.out _ _ (hS_v12) (fun hHeld => ?_)
            clear hK K
            try simp only [Act.put, List.getElem_toArray, List.getElem_cons_zero, List.getElem_cons_succ, List.setIfInBounds_toArray, List.set_cons_zero, List.set_cons_succ]
            refine wpAnyH_ready (rs := [5]) (by kernel_rfl) (by simp) ?_
            refine AllReadyH.cons (i := 5) (o := ?o31) ?i31 ?g31 AllReadyH.nil
            case i31 => exact rfl
            case g31 =>
              intro K hK
              go_simp
              (with_reducible refine (H1 g v12 (hW.row Hl.out)).mono ?_)
              rintro e v13 ⟨rfl, hb_v13⟩
              have hB_v13 := hB_v12.trans (hb_v13.mono hB_v12.size)
              replace hA := (hb_v13.block _ (Array.getElem?_eq_some_iff.1 hA).1).trans hA
              replace hW := hW.below hb_v13 (Array.getElem?_eq_some_iff.1 hW).1
              have hS_v13 := HK5.out hB_v13
              go_wp2_with fail
              refine hK.out _ _ (hS_v13) (fun hHeld => ?_)
              clear hK K
              try simp only [Act.put, List.getElem_toArray, List.getElem_cons_zero, List.getElem_cons_succ, List.setIfInBounds_toArray, List.set_cons_zero, List.set_cons_succ]
              refine wpAnyH_take (i := 6) (oi := ?o32) (v := ?v32) ?i32 (by kernel_rfl) (by kernel_rfl) (by kernel_rfl) ?q32 ?y32 (hHeld) ?r32
              case i32 => exact rfl
              case q32 => exact (fun _ _ _ h => h)
              case y32 =>
                refine Or.inl ⟨by rfl, ?_⟩
                intro w hSw
                (try dsimp only at hSw)
                go_simp
                first | done | rfl
              try simp only [Act.put, List.getElem_toArray, List.getElem_cons_zero, List.getElem_cons_succ, List.setIfInBounds_toArray, List.set_cons_zero, List.set_cons_succ]
              refine wpAnyH_take (i := 7) (oi := ?o33) (v := ?v33) ?i33 (by kernel_rfl) (by kernel_rfl) (by kernel_rfl) ?q33 ?y33 (hHeld) ?r33
              case i33 => exact rfl
              case q33 => exact (fun _ _ _ h => h)
              case y33 =>
                refine Or.inl ⟨by rfl, ?_⟩
                intro w hSw
                (try dsimp only at hSw)
                go_simp
                first | done | rfl
              try simp only [Act.put, List.getElem_toArray, List.getElem_cons_zero, List.getElem_cons_succ, List.setIfInBounds_toArray, List.set_cons_zero, List.set_cons_succ]
              refine wpAnyH_take (i := 8) (oi := ?o34) (v := ?v34) ?i34 (by kernel_rfl) (by kernel_rfl) (by kernel_rfl) ?q34 ?y34 (hHeld) ?r34
              case i34 => exact rfl
              case q34 => exact (fun _ _ _ h => h)
              case y34 =>
                refine Or.inl ⟨by rfl, ?_⟩
                intro w hSw
                (try dsimp only at hSw)
                go_simp
                first | done | rfl
              try simp only [Act.put, List.getElem_toArray, List.getElem_cons_zero, List.getElem_cons_succ, List.setIfInBounds_toArray, List.set_cons_zero, List.set_cons_succ]
              obtain ⟨r0, r1, r2, r3, r4, r5, r6, f0, f1, f2, f3, f4, f5, f6⟩ := row_facts hA
              have hBW := put7_below hB_v13 hA_ge (.bool u.t) (.int .i64 u.n) (.int .i64 u.l) (.int .i64 u.h) (.int .i64 u.a) (.int .i64 u.p) (.int .i64 u.s)
              have hbW := put7_block (.bool u.t) (.int .i64 u.n) (.int .i64 u.l) (.int .i64 u.h) (.int .i64 u.a) (.int .i64 u.p) (.int .i64 u.s) hA
              have HbW : Hid _ := hbW
              have HBW : Hid _ := hBW
              have HSW : Hid _ := HK5.out hBW
              clear hbW hBW
              refine wpAnyH_ready (rs := [10]) (by kernel_rfl) (by simp) ?_
              refine AllReadyH.cons (i := 10) (o := ?o35) ?i35 (fun K hK => ?_) AllReadyH.nil
              case i35 => exact rfl
              go_simp
              refine hK.out _ _ (HSW.out) (fun hHeld => ?_)
              clear hK K
              try simp only [Act.put, List.getElem_toArray, List.getElem_cons_zero, List.getElem_cons_succ, List.setIfInBounds_toArray, List.set_cons_zero, List.set_cons_succ]
              refine wpAnyH_take (i := 11) (oi := ?o36) (v := ?v36) ?i36 (by kernel_rfl) (by kernel_rfl) (by kernel_rfl) ?q36 ?y36 (hHeld) ?r36
              case i36 => exact rfl
              case q36 => exact (fun _ _ _ h => h)
              case y36 =>
                refine Or.inl ⟨by rfl, ?_⟩
                intro w hSw
                (try dsimp only at hSw)
                go_simp
                first | done | rfl
              try simp only [Act.put, List.getElem_toArray, List.getElem_cons_zero, List.getElem_cons_succ, List.setIfInBounds_toArray, List.set_cons_zero, List.set_cons_succ]
              refine wpAnyH_done (by kernel_rfl) ?_ _
              go_wp2_with fail
              go_meet
              case rel => exact ⟨_, rfl, rfl, HbW.out, HBW.out, hA_ge⟩
    case rest =>
      obtain ⟨gA, rfl, rfl, hA, hbc, hge⟩ := hcut
      have hb2 : Below gm w wc := Hb1.out.trans (hbc.mono (by omega))
      have cm2 : wc.cell? ⟨gm, 0, none⟩ = some (.slice a n c) := (hbc.cell (show gm < w1.heap.size by omega)).trans HC1.out.1
      have hxk : ∀ j, wc.cell? ⟨gm + 1, j, none⟩ = w1.cell? ⟨gm + 1, j, none⟩ := fun j => hbc.cell (show gm + 1 < w1.heap.size by omega)
      have HC2 : Hid (wc.cell? ⟨gm + 1, 0, none⟩ = some (.bool xt) ∧ wc.cell? ⟨gm + 1, 1, none⟩ = some (.int .i64 xn) ∧ wc.cell? ⟨gm + 1, 2, none⟩ = some (.int .i64 xl) ∧ wc.cell? ⟨gm + 1, 3, none⟩ = some (.int .i64 xh) ∧ wc.cell? ⟨gm + 1, 4, none⟩ = some (.int .i64 xa) ∧ wc.cell? ⟨gm + 1, 5, none⟩ = some (.int .i64 xp) ∧ wc.cell? ⟨gm + 1, 6, none⟩ = some (.int .i64 xs)) := by show _ ∧ _; simp only [hxk]; exact HC1.out.2
      have hs2 : gm + 2 < wc.heap.size := Nat.lt_of_lt_of_le hs1 hbc.size
      have Hb2 : Hid (Below gm w wc) := hb2
      have HA2 : Hid _ := hA
      clear hbc hxk HC1 hb2 hA
      go_wp2_with fail
      refine (toM a n c l wc (Hh.out.below (show Below w.heap.size w wc by rw [Hg.out]; exact Hb2.out)) hn).mono ?_
      rintro e w3 ⟨g3, rfl, hg3, hW3, hb3⟩
      go_upto_region 7 with fail
      obtain ⟨w4, e4⟩ : ∃ w4, w4 = w3.alloc (.cells #[.slice (some ⟨g3, 0, none⟩) n n] 33) := ⟨_, rfl⟩
      have hb34 : Below w3.heap.size w3 w4 := by rw [e4]; exact (Below.refl _ _).alloc (Nat.le_refl _) _
      have hz4 := heap_alloc_new w3 (.cells #[.slice (some ⟨g3, 0, none⟩) n n] 33)
      rw [← e4] at hz4 ⊢
      obtain ⟨cz4, _⟩ := one_facts hz4
      have hzl : w3.heap.size < w4.heap.size := (Array.getElem?_eq_some_iff.1 hz4).1
      have hb24 : Below wc.heap.size wc w4 := hb3.trans (hb34.mono hb3.size)
      have hW4 : WB w4 g3 l := hW3.below hb34 (Array.getElem?_eq_some_iff.1 hW3).1
      have hA4 := (hb24.block _ (Array.getElem?_eq_some_iff.1 HA2.out).1).trans HA2.out
      have hgA : gA < w4.heap.size := (Array.getElem?_eq_some_iff.1 hA4).1
      have cm4 : w4.cell? ⟨gm, 0, none⟩ = some (.slice a n c) := (hb24.cell (show gm < wc.heap.size by omega)).trans cm2
      have hxk : ∀ j, w4.cell? ⟨gm + 1, j, none⟩ = wc.cell? ⟨gm + 1, j, none⟩ := fun j => hb24.cell (show gm + 1 < wc.heap.size by omega)
      have HC4 : Hid (w4.cell? ⟨w3.heap.size, 0, none⟩ = some (.slice (some ⟨g3, 0, none⟩) n n) ∧ w4.cell? ⟨gm + 1, 0, none⟩ = some (.bool xt) ∧ w4.cell? ⟨gm + 1, 1, none⟩ = some (.int .i64 xn) ∧ w4.cell? ⟨gm + 1, 2, none⟩ = some (.int .i64 xl) ∧ w4.cell? ⟨gm + 1, 3, none⟩ = some (.int .i64 xh) ∧ w4.cell? ⟨gm + 1, 4, none⟩ = some (.int .i64 xa) ∧ w4.cell? ⟨gm + 1, 5, none⟩ = some (.int .i64 xp) ∧ w4.cell? ⟨gm + 1, 6, none⟩ = some (.int .i64 xs)) := by refine ⟨cz4, ?_⟩; simp only [hxk]; exact HC2.out
      have hs4 : gm + 2 < w4.heap.size := Nat.lt_of_lt_of_le hs2 hb24.size
      have HS4 : Hid (∀ {wx : World}, Below w4.heap.size w4 wx → Sents wx p t b) := fun hb => HS.out.below (by rw [Hg.out]; exact (Hb2.out.trans (hb24.mono (by omega))).trans (hb.mono (by omega)))
      have Hb4 : Hid (Below gm w w4) := Hb2.out.trans (hb24.mono (by omega))
      have HA4 : Hid _ := hA4
      have HM4 : Hid _ := cm4
      have HW4 : Hid (WB w4 g3 l) := hW4
      clear e4 hb34 hz4 cz4 hb24 hA4 cm4 hxk HC2 hs2 HA2 Hb2 cm2 hb3 hW3 hg3
      generalize w3.heap.size = gz at *
      go_cut [11, 12] from 13 to 50 (fun s11 s12 wd => ∃ gB, s11 = .pointer (some ⟨gB, 0, none⟩) ∧ s12 = .int .i64 tr ∧ wd.heap[gB]? = some (.cells #[.bool u.t, .int .i64 u.n, .int .i64 u.l, .int .i64 u.h, .int .i64 u.a, .int .i64 u.p, .int .i64 u.s] 26 (0, 0)) ∧ Below w4.heap.size w4 wd ∧ w4.heap.size ≤ gB)
      case first =>
        have HK7 : Hid (∀ {wx : World}, Below w4.heap.size w4 wx → wx.cell? ⟨gz, 0, none⟩ = some (.slice (some ⟨g3, 0, none⟩) n n) ∧ wx.cell? ⟨gm + 1, 0, none⟩ = some (.bool xt) ∧ wx.cell? ⟨gm + 1, 1, none⟩ = some (.int .i64 xn) ∧ wx.cell? ⟨gm + 1, 2, none⟩ = some (.int .i64 xl) ∧ wx.cell? ⟨gm + 1, 3, none⟩ = some (.int .i64 xh) ∧ wx.cell? ⟨gm + 1, 4, none⟩ = some (.int .i64 xa) ∧ wx.cell? ⟨gm + 1, 5, none⟩ = some (.int .i64 xp) ∧ wx.cell? ⟨gm + 1, 6, none⟩ = some (.int .i64 xs)) := by
          intro wx hb
          have e1 : ∀ j, wx.cell? ⟨gz, j, none⟩ = w4.cell? ⟨gz, j, none⟩ := fun j => hb.cell (show gz < w4.heap.size by omega)
          have e2 : ∀ j, wx.cell? ⟨gm + 1, j, none⟩ = w4.cell? ⟨gm + 1, j, none⟩ := fun j => hb.cell (show gm + 1 < w4.heap.size by omega)
          simp only [e1, e2]
          exact HC4.out
        refine wp_region_held_drew (S := fun wx => wx.cell? ⟨gz, 0, none⟩ = some (.slice (some ⟨g3, 0, none⟩) n n) ∧ wx.cell? ⟨gm + 1, 0, none⟩ = some (.bool xt) ∧ wx.cell? ⟨gm + 1, 1, none⟩ = some (.int .i64 xn) ∧ wx.cell? ⟨gm + 1, 2, none⟩ = some (.int .i64 xl) ∧ wx.cell? ⟨gm + 1, 3, none⟩ = some (.int .i64 xh) ∧ wx.cell? ⟨gm + 1, 4, none⟩ = some (.int .i64 xa) ∧ wx.cell? ⟨gm + 1, 5, none⟩ = some (.int .i64 xp) ∧ wx.cell? ⟨gm + 1, 6, none⟩ = some (.int .i64 xs)) (by kernel_rfl) (HK7.out (Below.refl _ _).drew) (fun hHeld => ?_)
        have hB0 : Below w4.heap.size w4 w4.drew := (Below.refl _ _).drew
        have hW4 : WB w4.drew g3 l := WB.drew HW4.out
        generalize w4.drew = wS at hB0 hW4 hHeld ⊢
        refine wpAnyH_take (i := 0) (oi := ?o201) (v := ?v201) ?i201 (by kernel_rfl) (by kernel_rfl) (by kernel_rfl) ?q201 ?y201 (hHeld) ?r201
        case i201 => exact rfl
        case q201 => exact (fun _ _ _ h => h)
        case y201 =>
          refine Or.inl ⟨by rfl, ?_⟩
          intro w hSw
          (try dsimp only at hSw)
          go_simp
          first | done | rfl
        try simp only [Act.put, List.getElem_toArray, List.getElem_cons_zero, List.getElem_cons_succ, List.setIfInBounds_toArray, List.set_cons_zero, List.set_cons_succ]
        refine wpAnyH_take (i := 1) (oi := ?o202) (v := ?v202) ?i202 (by kernel_rfl) (by kernel_rfl) (by kernel_rfl) ?q202 ?y202 (hHeld) ?r202
        case i202 => exact rfl
        case q202 => exact (fun _ _ _ h => h)
        case y202 =>
          refine Or.inl ⟨by rfl, ?_⟩
          intro w hSw
          (try dsimp only at hSw)
          go_simp
          first | done | rfl
        try simp only [Act.put, List.getElem_toArray, List.getElem_cons_zero, List.getElem_cons_succ, List.setIfInBounds_toArray, List.set_cons_zero, List.set_cons_succ]
        refine wpAnyH_take (i := 3) (oi := ?o203) (v := ?v203) ?i203 (by kernel_rfl) (by kernel_rfl) (by kernel_rfl) ?q203 ?y203 (hHeld) ?r203
        case i203 => exact rfl
        case q203 => exact (fun _ _ _ h => h)
        case y203 =>
          refine Or.inl ⟨by rfl, ?_⟩
          intro w hSw
          (try dsimp only at hSw)
          go_simp
          first | done | rfl
        try simp only [Act.put, List.getElem_toArray, List.getElem_cons_zero, List.getElem_cons_succ, List.setIfInBounds_toArray, List.set_cons_zero, List.set_cons_succ]
        refine wpAnyH_ready (rs := [2, 8]) (by kernel_rfl) (by simp) ?_
        refine AllReadyH.cons (i := 2) (o := ?o204) ?i204 ?g204 (AllReadyH.cons (i := 8) (o := ?o205) ?i205 ?g205 AllReadyH.nil)
        case i204 => exact rfl
        case i205 => exact rfl
        case g204 =>
          intro K hK
          go_simp
          (with_reducible refine (toWordM xt xn xl xh xa xp xs wS).mono ?_)
          rintro e v101 ⟨rfl, hb_v101⟩
          have hB_v101 := hB0.trans (hb_v101.mono hB0.size)
          replace hW4 := hW4.below hb_v101 (Array.getElem?_eq_some_iff.1 hW4).1
          have hS_v101 := HK7.out hB_v101
          go_wp2_with fail
          refine hK.out _ _ (hS_v101) (fun hHeld => ?_)
          clear hK K
          try simp only [Act.put, List.getElem_toArray, List.getElem_cons_zero, List.getElem_cons_succ, List.setIfInBounds_toArray, List.set_cons_zero, List.set_cons_succ]
          refine wpAnyH_ready (rs := [4, 8]) (by kernel_rfl) (by simp) ?_
          refine AllReadyH.cons (i := 4) (o := ?o206) ?i206 ?g206 (AllReadyH.cons (i := 8) (o := ?o207) ?i207 ?g207 AllReadyH.nil)
          case i206 => exact rfl
          case i207 => exact rfl
          case g206 =>
            intro K hK
            go_simp
            (with_reducible refine (H2 g3 v101 (hW4.row Hl.out) (HS4.out hB_v101)).mono ?_)
            rintro e v102 ⟨rfl, hb_v102⟩
            have hB_v102 := hB_v101.trans (hb_v102.mono hB_v101.size)
            replace hW4 := hW4.below hb_v102 (Array.getElem?_eq_some_iff.1 hW4).1
            have hS_v102 := HK7.out hB_v102
            go_wp2_with fail
            refine hK.out _ _ (hS_v102) (fun hHeld => ?_)
            clear hK K
            try simp only [Act.put, List.getElem_toArray, List.getElem_cons_zero, List.getElem_cons_succ, List.setIfInBounds_toArray, List.set_cons_zero, List.set_cons_succ]
            refine wpAnyH_take (i := 5) (oi := ?o208) (v := ?v208) ?i208 (by kernel_rfl) (by kernel_rfl) (by kernel_rfl) ?q208 ?y208 (hHeld) ?r208
            case i208 => exact rfl
            case q208 => exact (fun _ _ _ h => h)
            case y208 =>
              refine Or.inl ⟨by rfl, ?_⟩
              intro w hSw
              (try dsimp only at hSw)
              go_simp
              first | done | rfl
            try simp only [Act.put, List.getElem_toArray, List.getElem_cons_zero, List.getElem_cons_succ, List.setIfInBounds_toArray, List.set_cons_zero, List.set_cons_succ]
            refine wpAnyH_take (i := 6) (oi := ?o209) (v := ?v209) ?i209 (by kernel_rfl) (by kernel_rfl) (by kernel_rfl) ?q209 ?y209 (hHeld) ?r209
            case i209 => exact rfl
            case q209 => exact (fun _ _ _ h => h)
            case y209 =>
              refine Or.inl ⟨by rfl, ?_⟩
              intro w hSw
              (try dsimp only at hSw)
              go_simp
              first | done | rfl
            try simp only [Act.put, List.getElem_toArray, List.getElem_cons_zero, List.getElem_cons_succ, List.setIfInBounds_toArray, List.set_cons_zero, List.set_cons_succ]
            refine wpAnyH_take (i := 7) (oi := ?o210) (v := ?v210) ?i210 (by kernel_rfl) (by kernel_rfl) (by kernel_rfl) ?q210 ?y210 (hHeld) ?r210
            case i210 => exact rfl
            case q210 => exact (fun _ _ _ h => h)
            case y210 =>
              refine Or.inl ⟨by rfl, ?_⟩
              intro w hSw
              (try dsimp only at hSw)
              go_simp
              first | done | rfl
            try simp only [Act.put, List.getElem_toArray, List.getElem_cons_zero, List.getElem_cons_succ, List.setIfInBounds_toArray, List.set_cons_zero, List.set_cons_succ]
            refine wpAnyH_ready (rs := [8]) (by kernel_rfl) (by simp) ?_
            refine AllReadyH.cons (i := 8) (o := ?o211) ?i211 ?g211 AllReadyH.nil
            case i211 => exact rfl
            case g211 =>
              intro K hK
              go_simp
              obtain ⟨v103, e_v103⟩ : ∃ x, x = v102.alloc (.cells #[.bool false, .int .i64 0, .int .i64 0, .int .i64 0, .int .i64 0, .int .i64 0, .int .i64 0] 26) := ⟨_, rfl⟩
              rw [← e_v103]
              have hb_v103 : Below v102.heap.size v102 v103 := by rw [e_v103]; exact (Below.refl _ _).alloc (Nat.le_refl _) _
              have hA := heap_alloc_new v102 (.cells #[.bool false, .int .i64 0, .int .i64 0, .int .i64 0, .int .i64 0, .int .i64 0, .int .i64 0] 26)
              rw [← e_v103] at hA
              have hA_ge : w4.heap.size ≤ v102.heap.size := hB_v102.size
              have hB_v103 := hB_v102.trans (hb_v103.mono hB_v102.size)
              clear e_v103
              replace hW4 := hW4.below hb_v103 (Array.getElem?_eq_some_iff.1 hW4).1
              have hS_v103 := HK7.out hB_v103
              refine hK.out _ _ (hS_v103) (fun hHeld => ?_)
              clear hK K
              try simp only [Act.put, List.getElem_toArray, List.getElem_cons_zero, List.getElem_cons_succ, List.setIfInBounds_toArray, List.set_cons_zero, List.set_cons_succ]
              obtain ⟨r0, r1, r2, r3, r4, r5, r6, f0, f1, f2, f3, f4, f5, f6⟩ := row_facts hA
              have hBW := put7_below hB_v103 hA_ge (.bool u.t) (.int .i64 u.n) (.int .i64 u.l) (.int .i64 u.h) (.int .i64 u.a) (.int .i64 u.p) (.int .i64 u.s)
              have hbW := put7_block (.bool u.t) (.int .i64 u.n) (.int .i64 u.l) (.int .i64 u.h) (.int .i64 u.a) (.int .i64 u.p) (.int .i64 u.s) hA
              have HbW : Hid _ := hbW
              have HBW : Hid _ := hBW
              have HSW : Hid _ := HK7.out hBW
              clear hbW hBW
              refine wpAnyH_ready (rs := [9]) (by kernel_rfl) (by simp) ?_
              refine AllReadyH.cons (i := 9) (o := ?o212) ?i212 (fun K hK => ?_) AllReadyH.nil
              case i212 => exact rfl
              go_simp
              refine hK.out _ _ (HSW.out) (fun hHeld => ?_)
              clear hK K
              try simp only [Act.put, List.getElem_toArray, List.getElem_cons_zero, List.getElem_cons_succ, List.setIfInBounds_toArray, List.set_cons_zero, List.set_cons_succ]
              refine wpAnyH_take (i := 10) (oi := ?o213) (v := ?v213) ?i213 (by kernel_rfl) (by kernel_rfl) (by kernel_rfl) ?q213 ?y213 (hHeld) ?r213
              case i213 => exact rfl
              case q213 => exact (fun _ _ _ h => h)
              case y213 =>
                refine Or.inl ⟨by rfl, ?_⟩
                intro w hSw
                (try dsimp only at hSw)
                go_simp
                first | done | rfl
              try simp only [Act.put, List.getElem_toArray, List.getElem_cons_zero, List.getElem_cons_succ, List.setIfInBounds_toArray, List.set_cons_zero, List.set_cons_succ]
              refine wpAnyH_done (by kernel_rfl) ?_ _
              go_wp2_with fail
              go_meet
              case rel => exact ⟨_, rfl, rfl, HbW.out, HBW.out, hA_ge⟩
          case g207 =>
            intro K hK
            go_simp
            obtain ⟨v104, e_v104⟩ : ∃ x, x = v101.alloc (.cells #[.bool false, .int .i64 0, .int .i64 0, .int .i64 0, .int .i64 0, .int .i64 0, .int .i64 0] 26) := ⟨_, rfl⟩
            rw [← e_v104]
            have hb_v104 : Below v101.heap.size v101 v104 := by rw [e_v104]; exact (Below.refl _ _).alloc (Nat.le_refl _) _
            have hA := heap_alloc_new v101 (.cells #[.bool false, .int .i64 0, .int .i64 0, .int .i64 0, .int .i64 0, .int .i64 0, .int .i64 0] 26)
            rw [← e_v104] at hA
            have hA_ge : w4.heap.size ≤ v101.heap.size := hB_v101.size
            have hB_v104 := hB_v101.trans (hb_v104.mono hB_v101.size)
            clear e_v104
            replace hW4 := hW4.below hb_v104 (Array.getElem?_eq_some_iff.1 hW4).1
            have hS_v104 := HK7.out hB_v104
            refine hK.out _ _ (hS_v104) (fun hHeld => ?_)
            clear hK K
            try simp only [Act.put, List.getElem_toArray, List.getElem_cons_zero, List.getElem_cons_succ, List.setIfInBounds_toArray, List.set_cons_zero, List.set_cons_succ]
            refine wpAnyH_ready (rs := [4]) (by kernel_rfl) (by simp) ?_
            refine AllReadyH.cons (i := 4) (o := ?o214) ?i214 ?g214 AllReadyH.nil
            case i214 => exact rfl
            case g214 =>
              intro K hK
              go_simp
              (with_reducible refine (H2 g3 v104 (hW4.row Hl.out) (HS4.out hB_v104)).mono ?_)
              rintro e v105 ⟨rfl, hb_v105⟩
              have hB_v105 := hB_v104.trans (hb_v105.mono hB_v104.size)
              replace hW4 := hW4.below hb_v105 (Array.getElem?_eq_some_iff.1 hW4).1
              replace hA := (hb_v105.block _ (Array.getElem?_eq_some_iff.1 hA).1).trans hA
              have hS_v105 := HK7.out hB_v105
              go_wp2_with fail
              refine hK.out _ _ (hS_v105) (fun hHeld => ?_)
              clear hK K
              try simp only [Act.put, List.getElem_toArray, List.getElem_cons_zero, List.getElem_cons_succ, List.setIfInBounds_toArray, List.set_cons_zero, List.set_cons_succ]
              refine wpAnyH_take (i := 5) (oi := ?o215) (v := ?v215) ?i215 (by kernel_rfl) (by kernel_rfl) (by kernel_rfl) ?q215 ?y215 (hHeld) ?r215
              case i215 => exact rfl
              case q215 => exact (fun _ _ _ h => h)
              case y215 =>
                refine Or.inl ⟨by rfl, ?_⟩
                intro w hSw
                (try dsimp only at hSw)
                go_simp
                first | done | rfl
              try simp only [Act.put, List.getElem_toArray, List.getElem_cons_zero, List.getElem_cons_succ, List.setIfInBounds_toArray, List.set_cons_zero, List.set_cons_succ]
              refine wpAnyH_take (i := 6) (oi := ?o216) (v := ?v216) ?i216 (by kernel_rfl) (by kernel_rfl) (by kernel_rfl) ?q216 ?y216 (hHeld) ?r216
              case i216 => exact rfl
              case q216 => exact (fun _ _ _ h => h)
              case y216 =>
                refine Or.inl ⟨by rfl, ?_⟩
                intro w hSw
                (try dsimp only at hSw)
                go_simp
                first | done | rfl
              try simp only [Act.put, List.getElem_toArray, List.getElem_cons_zero, List.getElem_cons_succ, List.setIfInBounds_toArray, List.set_cons_zero, List.set_cons_succ]
              refine wpAnyH_take (i := 7) (oi := ?o217) (v := ?v217) ?i217 (by kernel_rfl) (by kernel_rfl) (by kernel_rfl) ?q217 ?y217 (hHeld) ?r217
              case i217 => exact rfl
              case q217 => exact (fun _ _ _ h => h)
              case y217 =>
                refine Or.inl ⟨by rfl, ?_⟩
                intro w hSw
                (try dsimp only at hSw)
                go_simp
                first | done | rfl
              try simp only [Act.put, List.getElem_toArray, List.getElem_cons_zero, List.getElem_cons_succ, List.setIfInBounds_toArray, List.set_cons_zero, List.set_cons_succ]
              obtain ⟨r0, r1, r2, r3, r4, r5, r6, f0, f1, f2, f3, f4, f5, f6⟩ := row_facts hA
              have hBW := put7_below hB_v105 hA_ge (.bool u.t) (.int .i64 u.n) (.int .i64 u.l) (.int .i64 u.h) (.int .i64 u.a) (.int .i64 u.p) (.int .i64 u.s)
              have hbW := put7_block (.bool u.t) (.int .i64 u.n) (.int .i64 u.l) (.int .i64 u.h) (.int .i64 u.a) (.int .i64 u.p) (.int .i64 u.s) hA
              have HbW : Hid _ := hbW
              have HBW : Hid _ := hBW
              have HSW : Hid _ := HK7.out hBW
              clear hbW hBW
              refine wpAnyH_ready (rs := [9]) (by kernel_rfl) (by simp) ?_
              refine AllReadyH.cons (i := 9) (o := ?o218) ?i218 (fun K hK => ?_) AllReadyH.nil
              case i218 => exact rfl
              go_simp
              refine hK.out _ _ (HSW.out) (fun hHeld => ?_)
              clear hK K
              try simp only [Act.put, List.getElem_toArray, List.getElem_cons_zero, List.getElem_cons_succ, List.setIfInBounds_toArray, List.set_cons_zero, List.set_cons_succ]
              refine wpAnyH_take (i := 10) (oi := ?o219) (v := ?v219) ?i219 (by kernel_rfl) (by kernel_rfl) (by kernel_rfl) ?q219 ?y219 (hHeld) ?r219
              case i219 => exact rfl
              case q219 => exact (fun _ _ _ h => h)
              case y219 =>
                refine Or.inl ⟨by rfl, ?_⟩
                intro w hSw
                (try dsimp only at hSw)
                go_simp
                first | done | rfl
              try simp only [Act.put, List.getElem_toArray, List.getElem_cons_zero, List.getElem_cons_succ, List.setIfInBounds_toArray, List.set_cons_zero, List.set_cons_succ]
              refine wpAnyH_done (by kernel_rfl) ?_ _
              go_wp2_with fail
              go_meet
              case rel => exact ⟨_, rfl, rfl, HbW.out, HBW.out, hA_ge⟩
        case g205 =>
          intro K hK
          go_simp
          obtain ⟨v106, e_v106⟩ : ∃ x, x = wS.alloc (.cells #[.bool false, .int .i64 0, .int .i64 0, .int .i64 0, .int .i64 0, .int .i64 0, .int .i64 0] 26) := ⟨_, rfl⟩
          rw [← e_v106]
          have hb_v106 : Below wS.heap.size wS v106 := by rw [e_v106]; exact (Below.refl _ _).alloc (Nat.le_refl _) _
          have hA := heap_alloc_new wS (.cells #[.bool false, .int .i64 0, .int .i64 0, .int .i64 0, .int .i64 0, .int .i64 0, .int .i64 0] 26)
          rw [← e_v106] at hA
          have hA_ge : w4.heap.size ≤ wS.heap.size := hB0.size
          have hB_v106 := hB0.trans (hb_v106.mono hB0.size)
          clear e_v106
          replace hW4 := hW4.below hb_v106 (Array.getElem?_eq_some_iff.1 hW4).1
          have hS_v106 := HK7.out hB_v106
          refine hK.out _ _ (hS_v106) (fun hHeld => ?_)
          clear hK K
          try simp only [Act.put, List.getElem_toArray, List.getElem_cons_zero, List.getElem_cons_succ, List.setIfInBounds_toArray, List.set_cons_zero, List.set_cons_succ]
          refine wpAnyH_ready (rs := [2]) (by kernel_rfl) (by simp) ?_
          refine AllReadyH.cons (i := 2) (o := ?o220) ?i220 ?g220 AllReadyH.nil
          case i220 => exact rfl
          case g220 =>
            intro K hK
            go_simp
            (with_reducible refine (toWordM xt xn xl xh xa xp xs v106).mono ?_)
            rintro e v107 ⟨rfl, hb_v107⟩
            have hB_v107 := hB_v106.trans (hb_v107.mono hB_v106.size)
            replace hW4 := hW4.below hb_v107 (Array.getElem?_eq_some_iff.1 hW4).1
            replace hA := (hb_v107.block _ (Array.getElem?_eq_some_iff.1 hA).1).trans hA
            have hS_v107 := HK7.out hB_v107
            go_wp2_with fail
            refine hK.out _ _ (hS_v107) (fun hHeld => ?_)
            clear hK K
            try simp only [Act.put, List.getElem_toArray, List.getElem_cons_zero, List.getElem_cons_succ, List.setIfInBounds_toArray, List.set_cons_zero, List.set_cons_succ]
            refine wpAnyH_ready (rs := [4]) (by kernel_rfl) (by simp) ?_
            refine AllReadyH.cons (i := 4) (o := ?o221) ?i221 ?g221 AllReadyH.nil
            case i221 => exact rfl
            case g221 =>
              intro K hK
              go_simp
              (with_reducible refine (H2 g3 v107 (hW4.row Hl.out) (HS4.out hB_v107)).mono ?_)
              rintro e v108 ⟨rfl, hb_v108⟩
              have hB_v108 := hB_v107.trans (hb_v108.mono hB_v107.size)
              replace hW4 := hW4.below hb_v108 (Array.getElem?_eq_some_iff.1 hW4).1
              replace hA := (hb_v108.block _ (Array.getElem?_eq_some_iff.1 hA).1).trans hA
              have hS_v108 := HK7.out hB_v108
              go_wp2_with fail
              refine hK.out _ _ (hS_v108) (fun hHeld => ?_)
              clear hK K
              try simp only [Act.put, List.getElem_toArray, List.getElem_cons_zero, List.getElem_cons_succ, List.setIfInBounds_toArray, List.set_cons_zero, List.set_cons_succ]
              refine wpAnyH_take (i := 5) (oi := ?o222) (v := ?v222) ?i222 (by kernel_rfl) (by kernel_rfl) (by kernel_rfl) ?q222 ?y222 (hHeld) ?r222
              case i222 => exact rfl
              case q222 => exact (fun _ _ _ h => h)
              case y222 =>
                refine Or.inl ⟨by rfl, ?_⟩
                intro w hSw
                (try dsimp only at hSw)
                go_simp
                first | done | rfl
              try simp only [Act.put, List.getElem_toArray, List.getElem_cons_zero, List.getElem_cons_succ, List.setIfInBounds_toArray, List.set_cons_zero, List.set_cons_succ]
              refine wpAnyH_take (i := 6) (oi := ?o223) (v := ?v223) ?i223 (by kernel_rfl) (by kernel_rfl) (by kernel_rfl) ?q223 ?y223 (hHeld) ?r223
              case i223 => exact rfl
              case q223 => exact (fun _ _ _ h => h)
              case y223 =>
                refine Or.inl ⟨by rfl, ?_⟩
                intro w hSw
                (try dsimp only at hSw)
                go_simp
                first | done | rfl
              try simp only [Act.put, List.getElem_toArray, List.getElem_cons_zero, List.getElem_cons_succ, List.setIfInBounds_toArray, List.set_cons_zero, List.set_cons_succ]
              refine wpAnyH_take (i := 7) (oi := ?o224) (v := ?v224) ?i224 (by kernel_rfl) (by kernel_rfl) (by kernel_rfl) ?q224 ?y224 (hHeld) ?r224
              case i224 => exact rfl
              case q224 => exact (fun _ _ _ h => h)
              case y224 =>
                refine Or.inl ⟨by rfl, ?_⟩
                intro w hSw
                (try dsimp only at hSw)
                go_simp
                first | done | rfl
              try simp only [Act.put, List.getElem_toArray, List.getElem_cons_zero, List.getElem_cons_succ, List.setIfInBounds_toArray, List.set_cons_zero, List.set_cons_succ]
              obtain ⟨r0, r1, r2, r3, r4, r5, r6, f0, f1, f2, f3, f4, f5, f6⟩ := row_facts hA
              have hBW := put7_below hB_v108 hA_ge (.bool u.t) (.int .i64 u.n) (.int .i64 u.l) (.int .i64 u.h) (.int .i64 u.a) (.int .i64 u.p) (.int .i64 u.s)
              have hbW := put7_block (.bool u.t) (.int .i64 u.n) (.int .i64 u.l) (.int .i64 u.h) (.int .i64 u.a) (.int .i64 u.p) (.int .i64 u.s) hA
              have HbW : Hid _ := hbW
              have HBW : Hid _ := hBW
              have HSW : Hid _ := HK7.out hBW
              clear hbW hBW
              refine wpAnyH_ready (rs := [9]) (by kernel_rfl) (by simp) ?_
              refine AllReadyH.cons (i := 9) (o := ?o225) ?i225 (fun K hK => ?_) AllReadyH.nil
              case i225 => exact rfl
              go_simp
              refine hK.out _ _ (HSW.out) (fun hHeld => ?_)
              clear hK K
              try simp only [Act.put, List.getElem_toArray, List.getElem_cons_zero, List.getElem_cons_succ, List.setIfInBounds_toArray, List.set_cons_zero, List.set_cons_succ]
              refine wpAnyH_take (i := 10) (oi := ?o226) (v := ?v226) ?i226 (by kernel_rfl) (by kernel_rfl) (by kernel_rfl) ?q226 ?y226 (hHeld) ?r226
              case i226 => exact rfl
              case q226 => exact (fun _ _ _ h => h)
              case y226 =>
                refine Or.inl ⟨by rfl, ?_⟩
                intro w hSw
                (try dsimp only at hSw)
                go_simp
                first | done | rfl
              try simp only [Act.put, List.getElem_toArray, List.getElem_cons_zero, List.getElem_cons_succ, List.setIfInBounds_toArray, List.set_cons_zero, List.set_cons_succ]
              refine wpAnyH_done (by kernel_rfl) ?_ _
              go_wp2_with fail
              go_meet
              case rel => exact ⟨_, rfl, rfl, HbW.out, HBW.out, hA_ge⟩
      case rest =>
        obtain ⟨gB, rfl, rfl, hB5, hbd, hgeB⟩ := hcut
        have hA5 := (hbd.block gA hgA).trans HA4.out
        have cm5 : wc.cell? ⟨gm, 0, none⟩ = some (.slice a n c) := (hbd.cell (show gm < w4.heap.size by omega)).trans HM4.out
        have cz5 : wc.cell? ⟨gz, 0, none⟩ = some (.slice (some ⟨g3, 0, none⟩) n n) := (hbd.cell (show gz < w4.heap.size by omega)).trans HC4.out.1
        have HW5 : Hid (WB wc g3 l) := WB.below HW4.out hbd (WB.lt HW4.out)
        have hle : w4.heap.size ≤ wc.heap.size := hbd.size
        have hs5 : gm + 2 < wc.heap.size := by omega
        have hz5 : gz < wc.heap.size := by omega
        have Hb5 : Hid (Below gm w wc) := Hb4.out.trans (hbd.mono (by omega))
        obtain ⟨y0, y1, y2, y3, y4, y5, y6, _⟩ := row_facts hA5
        obtain ⟨z0, z1, z2, z3, z4, z5, z6, _⟩ := row_facts hB5
        clear hbd hA5 hB5 HA4 HM4 HC4 Hb4 HS4 HW4 H1 H2
        go_wp2_with fail
        refine (eqWordM _ _ _ _ _ _ _ _ _ _ _ _ _ _ _ ⟨rfl, rfl, rfl, rfl, rfl, rfl, rfl⟩).mono ?_
        rintro e w6 ⟨rfl, hb56⟩
        have cm6 : w6.cell? ⟨gm, 0, none⟩ = some (.slice a n c) := (hb56.cell (show gm < wc.heap.size by omega)).trans cm5
        have cz6 : w6.cell? ⟨gz, 0, none⟩ = some (.slice (some ⟨g3, 0, none⟩) n n) := (hb56.cell (show gz < wc.heap.size by omega)).trans cz5
        have HW6 : Hid (WB w6 g3 l) := WB.below HW5.out hb56 (WB.lt HW5.out)
        have hle6 : wc.heap.size ≤ w6.heap.size := hb56.size
        have Hb6 : Hid (Below gm w w6) := Hb5.out.trans (hb56.mono (by omega))
        have hs6 : gm < w6.heap.size := by omega
        have hz6 : gz < w6.heap.size := by omega
        clear hb56 y0 y1 y2 y3 y4 y5 y6 z0 z1 z2 z3 z4 z5 z6 cm5 cz5
        go_wp2_with fail
        have HS0 : w6.drew.cell? ⟨gz, 0, none⟩ = some (.slice (some ⟨g3, 0, none⟩) n n) ∧ w6.drew.cell? ⟨gm, 0, none⟩ = some (.slice a n c) := ⟨cz6, cm6⟩
        refine wp_region_held_drew (S := fun wx => wx.cell? ⟨gz, 0, none⟩ = some (.slice (some ⟨g3, 0, none⟩) n n) ∧ wx.cell? ⟨gm, 0, none⟩ = some (.slice a n c)) (by kernel_rfl) HS0 (fun hHeld => ?_)
        refine wpAnyH_take (i := 0) (oi := ?o501) (v := ?v501) ?i501 (by kernel_rfl) (by kernel_rfl) (by kernel_rfl) ?q501 ?y501 (hHeld) ?r501
        case i501 => exact rfl
        case q501 => exact (fun _ _ _ h => h)
        case y501 =>
          refine Or.inl ⟨by rfl, ?_⟩
          intro w hSw
          (try dsimp only at hSw)
          go_simp
          first | done | rfl
        try simp only [Act.put, List.getElem_toArray, List.getElem_cons_zero, List.getElem_cons_succ, List.setIfInBounds_toArray, List.set_cons_zero, List.set_cons_succ]
        refine wpAnyH_take (i := 1) (oi := ?o502) (v := ?v502) ?i502 (by kernel_rfl) (by kernel_rfl) (by kernel_rfl) ?q502 ?y502 (hHeld) ?r502
        case i502 => exact rfl
        case q502 => exact (fun _ _ _ h => h)
        case y502 =>
          refine Or.inl ⟨by rfl, ?_⟩
          intro w hSw
          (try dsimp only at hSw)
          go_simp
          first | done | rfl
        try simp only [Act.put, List.getElem_toArray, List.getElem_cons_zero, List.getElem_cons_succ, List.setIfInBounds_toArray, List.set_cons_zero, List.set_cons_succ]
        refine wpAnyH_ready (rs := [2]) (by kernel_rfl) (by simp) ?_
        refine AllReadyH.cons (i := 2) (o := ?o503) ?i503 (fun K hK => ?_) AllReadyH.nil
        case i503 => exact rfl
        go_simp
        (with_reducible refine (toM a n c l w6.drew (Hh.out.below (by rw [Hg.out]; exact Hb6.out.drew)) hn).mono ?_)
        rintro e w7 ⟨g7, rfl, hg7, hW7, hb7⟩
        have HS7 : w7.cell? ⟨gz, 0, none⟩ = some (.slice (some ⟨g3, 0, none⟩) n n) ∧ w7.cell? ⟨gm, 0, none⟩ = some (.slice a n c) := ⟨(hb7.cell hz6).trans cz6, (hb7.cell hs6).trans cm6⟩
        go_wp2_with fail
        refine hK.out _ _ (HS7) (fun hHeld => ?_)
        clear hK K
        try simp only [Act.put, List.getElem_toArray, List.getElem_cons_zero, List.getElem_cons_succ, List.setIfInBounds_toArray, List.set_cons_zero, List.set_cons_succ]
        refine wpAnyH_ready (rs := [3]) (by kernel_rfl) (by simp) ?_
        refine AllReadyH.cons (i := 3) (o := ?o504) ?i504 (fun K hK => ?_) AllReadyH.nil
        case i504 => exact rfl
        go_simp
        (with_reducible refine (eqM (some ⟨g3, 0, none⟩) n n l (some ⟨g7, 0, none⟩) n w7 ((WB.below (WB.drew HW6.out) hb7 (WB.lt (WB.drew HW6.out))).row Hl.out) (hW7.row Hl.out) hn).mono ?_)
        rintro e w8 ⟨rfl, hb8⟩
        have hle7 : w6.heap.size ≤ w7.heap.size := hb7.size
        have HS8 : w8.cell? ⟨gz, 0, none⟩ = some (.slice (some ⟨g3, 0, none⟩) n n) ∧ w8.cell? ⟨gm, 0, none⟩ = some (.slice a n c) := ⟨(hb8.cell (show gz < w7.heap.size by omega)).trans ((hb7.cell hz6).trans cz6), (hb8.cell (show gm < w7.heap.size by omega)).trans ((hb7.cell hs6).trans cm6)⟩
        go_wp2_with fail
        refine hK.out _ _ (HS8) (fun hHeld => ?_)
        clear hK K
        try simp only [Act.put, List.getElem_toArray, List.getElem_cons_zero, List.getElem_cons_succ, List.setIfInBounds_toArray, List.set_cons_zero, List.set_cons_succ]
        refine wpAnyH_take (i := 4) (oi := ?o505) (v := ?v505) ?i505 (by kernel_rfl) (by kernel_rfl) (by kernel_rfl) ?q505 ?y505 (hHeld) ?r505
        case i505 => exact rfl
        case q505 => exact (fun _ _ _ h => h)
        case y505 =>
          refine Or.inl ⟨by rfl, ?_⟩
          intro w hSw
          (try dsimp only at hSw)
          go_simp
          first | done | rfl
        try simp only [Act.put, List.getElem_toArray, List.getElem_cons_zero, List.getElem_cons_succ, List.setIfInBounds_toArray, List.set_cons_zero, List.set_cons_succ]
        refine wpAnyH_done (by kernel_rfl) ?_ _
        have hb9 : Below gm w w8 := (Hb6.out.drew.trans (hb7.mono (show gm ≤ w6.heap.size by omega))).trans (hb8.mono (by omega))
        go_wp2_with fail
        go_ret
        exact ⟨rfl, by rw [Hg.out]; exact hb9⟩
  · simp only [if_neg hn] at Hsz
    clear h64
    go_enter Tryd.func5, Tryd.ntmps5
    go_wp2_with fail
    refine (Hsz _).mono ?_
    rintro e w1 ⟨rfl, o1, rfl⟩
    clear Hsz
    go_wp2_with fail
    go_ret
    exact ⟨rfl, (((Below.refl _ _).alloc (Nat.le_refl _) _).alloc (by simp) _).alloc (by simp; omega) _⟩
end Go.Proofs.YtchchigiafacbaaDoor

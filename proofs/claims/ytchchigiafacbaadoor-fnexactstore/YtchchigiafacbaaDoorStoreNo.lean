/- The law of Store, where one of them may not be. -/
import Derived.Test.YtchchigiafacbaaDoorStoreLaw0
import Derived.Deep.Cut
import Derived.Deep.CutRange
namespace Go.Proofs.YtchchigiafacbaaDoor
open Go.RowKit
set_option linter.unusedVariables false
set_option linter.unusedSimpArgs false

set_option maxRecDepth 100000 in
set_option maxHeartbeats 16000000 in
theorem store_no (w : World) (p t b : Addr) (hs : Sents w p t b) (a : Option Addr) (n c : Nat) (l : List Wd) (h : WRow w a n l) (hf : ∀ x ∈ l, FitsW x) (xt : Bool) (xn xl xh xa xp xs : Int) (hxs : In64 xs) (by_ : Int) (yt : Bool) (yn yl yh ya yp ys : Int) (hys : In64 ys) (hc : (memB l && (okB xt xn xl xh xa xp xs && okB yt yn yl yh ya yp ys)) = false) (hn : n ≤ 1048576) :
    Calls Tryd.prog 6 #[.agg #[.slice a n c], .agg #[.bool xt, .int .i64 xn, .int .i64 xl, .int .i64 xh, .int .i64 xa, .int .i64 xp, .int .i64 xs], .int .i64 by_, .agg #[.bool yt, .int .i64 yn, .int .i64 yl, .int .i64 yh, .int .i64 ya, .int .i64 yp, .int .i64 ys]] w fun e w' => e = .returned (.bool true) ∧ Below w.heap.size w w' := by
  have Hsz := fun w => szM a n c 1048576 w rfl (by omega)
  simp only [if_pos hn] at Hsz
  have h64 : ∀ x ∈ l, In64 x.s := fun x hx => in64W (hf x hx).2.2.2.2.2
  have Hh : Hid (WRow w a n l) := h
  have hl : l.length = n := h.1
  have Hl : Hid (l.length = n) := hl
  have HS : Hid (Sents w p t b) := hs
  obtain ⟨tr, htr⟩ : ∃ tr : Int, tr = 1 := ⟨_, rfl⟩
  have H1 := fun g w h => specStoreNo (some ⟨g, 0, none⟩) n n l xt xn xl xh xa xp xs by_ yt yn yl yh ya yp ys w h hn hc
  have H2 := fun g w (h : WRow w (some ⟨g, 0, none⟩) n l) (hs : Sents w p t b) => implStoreNo (some ⟨g, 0, none⟩) n n l xt xn xl xh xa xp xs by_ yt yn yl yh ya yp ys w h hn h64 hxs hys hc
  simp only [← htr] at H1 H2
  clear htr hc hxs hys h64 hf h hs hl
  go_enter Tryd.func6, Tryd.ntmps6
  go_wp2_with fail
  refine (Hsz _).mono ?_
  rintro e w1 ⟨rfl, o1, rfl⟩
  obtain ⟨w1, e1⟩ : ∃ x, x = (((w.alloc (.cells #[.slice a n c] 46)).alloc (.cells #[.bool xt, .int .i64 xn, .int .i64 xl, .int .i64 xh, .int .i64 xa, .int .i64 xp, .int .i64 xs] 47)).alloc (.cells #[.bool yt, .int .i64 yn, .int .i64 yl, .int .i64 yh, .int .i64 ya, .int .i64 yp, .int .i64 ys] 47)).alloc o1 := ⟨_, rfl⟩
  obtain ⟨hm1, hx1, hy1, hb1, hs1⟩ := law_kept e1
  rw [← e1]
  clear e1 Hsz
  have hlt : ¬ ((1048576 : Int) - (n : Int) < 0) := by omega
  have Hb1 : Hid (Below w.heap.size w w1) := hb1
  have HW1 : Hid (∀ {wx : World}, Below w1.heap.size w1 wx → WRow wx a n l) := fun hb => Hh.out.below (Hb1.out.trans (hb.mono Hb1.out.size))
  generalize hgm : w.heap.size = gm at *
  have Hg : Hid (w.heap.size = gm) := hgm
  have HKs : Hid (∀ {wx : World}, Below w1.heap.size w1 wx → wx.cell? ⟨gm, 0, none⟩ = some (.slice a n c) ∧ wx.cell? ⟨gm + 1, 0, none⟩ = some (.bool xt) ∧ wx.cell? ⟨gm + 1, 1, none⟩ = some (.int .i64 xn) ∧ wx.cell? ⟨gm + 1, 2, none⟩ = some (.int .i64 xl) ∧ wx.cell? ⟨gm + 1, 3, none⟩ = some (.int .i64 xh) ∧ wx.cell? ⟨gm + 1, 4, none⟩ = some (.int .i64 xa) ∧ wx.cell? ⟨gm + 1, 5, none⟩ = some (.int .i64 xp) ∧ wx.cell? ⟨gm + 1, 6, none⟩ = some (.int .i64 xs) ∧ wx.cell? ⟨gm + 2, 0, none⟩ = some (.bool yt) ∧ wx.cell? ⟨gm + 2, 1, none⟩ = some (.int .i64 yn) ∧ wx.cell? ⟨gm + 2, 2, none⟩ = some (.int .i64 yl) ∧ wx.cell? ⟨gm + 2, 3, none⟩ = some (.int .i64 yh) ∧ wx.cell? ⟨gm + 2, 4, none⟩ = some (.int .i64 ya) ∧ wx.cell? ⟨gm + 2, 5, none⟩ = some (.int .i64 yp) ∧ wx.cell? ⟨gm + 2, 6, none⟩ = some (.int .i64 ys)) := fun hb => ⟨(one_facts ((hb.block gm (by omega)).trans hm1)).1, and7 (row7 ((hb.block (gm + 1) (by omega)).trans hx1)) (row7 ((hb.block (gm + 2) (by omega)).trans hy1))⟩
  have cm : w1.cell? ⟨gm, 0, none⟩ = some (.slice a n c) := (one_facts hm1).1
  have Hm1 : Hid _ := hm1
  have Hx1 : Hid _ := hx1
  have Hy1 : Hid _ := hy1
  clear hgm hb1 hm1 hx1 hy1
  go_upto_region 5 with fail
  clear hlt cm
  go_cut [10, 11] from 20 to 116 (fun s10 s11 wc => ∃ gA, s10 = .pointer (some ⟨gA, 0, none⟩) ∧ s11 = .int .i64 tr ∧ wc.heap[gA]? = some (.cells #[.slice none 0 0] 33 (0, 0)) ∧ Below w1.heap.size w1 wc ∧ w1.heap.size ≤ gA)
  case first =>
    have HKr : Hid (∀ {wx : World}, Below w1.heap.size w1 wx → wx.cell? ⟨gm, 0, none⟩ = some (.slice a n c) ∧ wx.cell? ⟨gm + 1, 0, none⟩ = some (.bool xt) ∧ wx.cell? ⟨gm + 1, 1, none⟩ = some (.int .i64 xn) ∧ wx.cell? ⟨gm + 1, 2, none⟩ = some (.int .i64 xl) ∧ wx.cell? ⟨gm + 1, 3, none⟩ = some (.int .i64 xh) ∧ wx.cell? ⟨gm + 1, 4, none⟩ = some (.int .i64 xa) ∧ wx.cell? ⟨gm + 1, 5, none⟩ = some (.int .i64 xp) ∧ wx.cell? ⟨gm + 1, 6, none⟩ = some (.int .i64 xs) ∧ wx.cell? ⟨gm + 2, 0, none⟩ = some (.bool yt) ∧ wx.cell? ⟨gm + 2, 1, none⟩ = some (.int .i64 yn) ∧ wx.cell? ⟨gm + 2, 2, none⟩ = some (.int .i64 yl) ∧ wx.cell? ⟨gm + 2, 3, none⟩ = some (.int .i64 yh) ∧ wx.cell? ⟨gm + 2, 4, none⟩ = some (.int .i64 ya) ∧ wx.cell? ⟨gm + 2, 5, none⟩ = some (.int .i64 yp) ∧ wx.cell? ⟨gm + 2, 6, none⟩ = some (.int .i64 ys)) := HKs.out
    refine wp_region_held_drew (S := fun wx => wx.cell? ⟨gm, 0, none⟩ = some (.slice a n c) ∧ wx.cell? ⟨gm + 1, 0, none⟩ = some (.bool xt) ∧ wx.cell? ⟨gm + 1, 1, none⟩ = some (.int .i64 xn) ∧ wx.cell? ⟨gm + 1, 2, none⟩ = some (.int .i64 xl) ∧ wx.cell? ⟨gm + 1, 3, none⟩ = some (.int .i64 xh) ∧ wx.cell? ⟨gm + 1, 4, none⟩ = some (.int .i64 xa) ∧ wx.cell? ⟨gm + 1, 5, none⟩ = some (.int .i64 xp) ∧ wx.cell? ⟨gm + 1, 6, none⟩ = some (.int .i64 xs) ∧ wx.cell? ⟨gm + 2, 0, none⟩ = some (.bool yt) ∧ wx.cell? ⟨gm + 2, 1, none⟩ = some (.int .i64 yn) ∧ wx.cell? ⟨gm + 2, 2, none⟩ = some (.int .i64 yl) ∧ wx.cell? ⟨gm + 2, 3, none⟩ = some (.int .i64 yh) ∧ wx.cell? ⟨gm + 2, 4, none⟩ = some (.int .i64 ya) ∧ wx.cell? ⟨gm + 2, 5, none⟩ = some (.int .i64 yp) ∧ wx.cell? ⟨gm + 2, 6, none⟩ = some (.int .i64 ys)) (by kernel_rfl) (HKr.out (Below.refl _ _).drew) (fun hHeld => ?_)
    have hB0 : Below w1.heap.size w1 w1.drew := (Below.refl _ _).drew
    generalize w1.drew = wS at hB0  hHeld ⊢
    refine wpAnyH_take (i := 0) (oi := ?o1) (v := ?v1) ?i1 (by kernel_rfl) (by kernel_rfl) (by kernel_rfl) ?q1 ?y1 (hHeld) ?r1
    case i1 => exact rfl
    case q1 => exact (fun _ _ _ h => h)
    case y1 =>
      refine Or.inl ⟨by rfl, ?_⟩
      intro w hSw
      (try dsimp only at hSw)
      go_simp
      first | done | rfl
    try simp only [Act.put, List.getElem_toArray, List.getElem_cons_zero, List.getElem_cons_succ, List.setIfInBounds_toArray, List.set_cons_zero, List.set_cons_succ]
    refine wpAnyH_take (i := 2) (oi := ?o2) (v := ?v2) ?i2 (by kernel_rfl) (by kernel_rfl) (by kernel_rfl) ?q2 ?y2 (hHeld) ?r2
    case i2 => exact rfl
    case q2 => exact (fun _ _ _ h => h)
    case y2 =>
      refine Or.inl ⟨by rfl, ?_⟩
      intro w hSw
      (try dsimp only at hSw)
      go_simp
      first | done | rfl
    try simp only [Act.put, List.getElem_toArray, List.getElem_cons_zero, List.getElem_cons_succ, List.setIfInBounds_toArray, List.set_cons_zero, List.set_cons_succ]
    refine wpAnyH_take (i := 4) (oi := ?o3) (v := ?v3) ?i3 (by kernel_rfl) (by kernel_rfl) (by kernel_rfl) ?q3 ?y3 (hHeld) ?r3
    case i3 => exact rfl
    case q3 => exact (fun _ _ _ h => h)
    case y3 =>
      refine Or.inl ⟨by rfl, ?_⟩
      intro w hSw
      (try dsimp only at hSw)
      go_simp
      first | done | rfl
    try simp only [Act.put, List.getElem_toArray, List.getElem_cons_zero, List.getElem_cons_succ, List.setIfInBounds_toArray, List.set_cons_zero, List.set_cons_succ]
    refine wpAnyH_take (i := 5) (oi := ?o4) (v := ?v4) ?i4 (by kernel_rfl) (by kernel_rfl) (by kernel_rfl) ?q4 ?y4 (hHeld) ?r4
    case i4 => exact rfl
    case q4 => exact (fun _ _ _ h => h)
    case y4 =>
      refine Or.inl ⟨by rfl, ?_⟩
      intro w hSw
      (try dsimp only at hSw)
      go_simp
      first | done | rfl
    try simp only [Act.put, List.getElem_toArray, List.getElem_cons_zero, List.getElem_cons_succ, List.setIfInBounds_toArray, List.set_cons_zero, List.set_cons_succ]
    refine wpAnyH_ready (rs := [1, 11]) (by kernel_rfl) (by simp) ?_
    refine AllReadyH.cons (i := 1) (o := ?o5) ?i5 ?g5 (AllReadyH.cons (i := 11) (o := ?o6) ?i6 ?g6 AllReadyH.nil)
    case i5 => exact rfl
    case i6 => exact rfl
    case g5 =>
      intro K hK
      go_simp
      (with_reducible refine (toM a n c l wS (HW1.out hB0) hn).mono ?_)
      rintro e v1 ⟨g, rfl, hgg, hW, hb_v1⟩
      have hB_v1 := hB0.trans (hb_v1.mono hB0.size)
      have hS_v1 := HKr.out hB_v1
      go_wp2_with fail
      refine hK.out _ _ (hS_v1) (fun hHeld => ?_)
      clear hK K
      try simp only [Act.put, List.getElem_toArray, List.getElem_cons_zero, List.getElem_cons_succ, List.setIfInBounds_toArray, List.set_cons_zero, List.set_cons_succ]
      refine wpAnyH_ready (rs := [3, 11]) (by kernel_rfl) (by simp) ?_
      refine AllReadyH.cons (i := 3) (o := ?o7) ?i7 ?g7 (AllReadyH.cons (i := 11) (o := ?o8) ?i8 ?g8 AllReadyH.nil)
      case i7 => exact rfl
      case i8 => exact rfl
      case g7 =>
        intro K hK
        go_simp
        (with_reducible refine (toWordM xt xn xl xh xa xp xs v1).mono ?_)
        rintro e v2 ⟨rfl, hb_v2⟩
        have hB_v2 := hB_v1.trans (hb_v2.mono hB_v1.size)
        replace hW := hW.below hb_v2 (Array.getElem?_eq_some_iff.1 hW).1
        have hS_v2 := HKr.out hB_v2
        go_wp2_with fail
        refine hK.out _ _ (hS_v2) (fun hHeld => ?_)
        clear hK K
        try simp only [Act.put, List.getElem_toArray, List.getElem_cons_zero, List.getElem_cons_succ, List.setIfInBounds_toArray, List.set_cons_zero, List.set_cons_succ]
        refine wpAnyH_ready (rs := [6, 11]) (by kernel_rfl) (by simp) ?_
        refine AllReadyH.cons (i := 6) (o := ?o9) ?i9 ?g9 (AllReadyH.cons (i := 11) (o := ?o10) ?i10 ?g10 AllReadyH.nil)
        case i9 => exact rfl
        case i10 => exact rfl
        case g9 =>
          intro K hK
          go_simp
          (with_reducible refine (toWordM yt yn yl yh ya yp ys v2).mono ?_)
          rintro e v3 ⟨rfl, hb_v3⟩
          have hB_v3 := hB_v2.trans (hb_v3.mono hB_v2.size)
          replace hW := hW.below hb_v3 (Array.getElem?_eq_some_iff.1 hW).1
          have hS_v3 := HKr.out hB_v3
          go_wp2_with fail
          refine hK.out _ _ (hS_v3) (fun hHeld => ?_)
          clear hK K
          try simp only [Act.put, List.getElem_toArray, List.getElem_cons_zero, List.getElem_cons_succ, List.setIfInBounds_toArray, List.set_cons_zero, List.set_cons_succ]
          refine wpAnyH_ready (rs := [7, 11]) (by kernel_rfl) (by simp) ?_
          refine AllReadyH.cons (i := 7) (o := ?o11) ?i11 ?g11 (AllReadyH.cons (i := 11) (o := ?o12) ?i12 ?g12 AllReadyH.nil)
          case i11 => exact rfl
          case i12 => exact rfl
          case g11 =>
            intro K hK
            go_simp
            (with_reducible refine (H1 g v3 (hW.row Hl.out)).mono ?_)
            rintro e v4 ⟨rfl, hb_v4⟩
            have hB_v4 := hB_v3.trans (hb_v4.mono hB_v3.size)
            replace hW := hW.below hb_v4 (Array.getElem?_eq_some_iff.1 hW).1
            have hS_v4 := HKr.out hB_v4
            go_wp2_with fail
            refine hK.out _ _ (hS_v4) (fun hHeld => ?_)
            clear hK K
            try simp only [Act.put, List.getElem_toArray, List.getElem_cons_zero, List.getElem_cons_succ, List.setIfInBounds_toArray, List.set_cons_zero, List.set_cons_succ]
            refine wpAnyH_take (i := 8) (oi := ?o13) (v := ?v13) ?i13 (by kernel_rfl) (by kernel_rfl) (by kernel_rfl) ?q13 ?y13 (hHeld) ?r13
            case i13 => exact rfl
            case q13 => exact (fun _ _ _ h => h)
            case y13 =>
              refine Or.inl ⟨by rfl, ?_⟩
              intro w hSw
              (try dsimp only at hSw)
              go_simp
              first | done | rfl
            try simp only [Act.put, List.getElem_toArray, List.getElem_cons_zero, List.getElem_cons_succ, List.setIfInBounds_toArray, List.set_cons_zero, List.set_cons_succ]
            refine wpAnyH_take (i := 9) (oi := ?o14) (v := ?v14) ?i14 (by kernel_rfl) (by kernel_rfl) (by kernel_rfl) ?q14 ?y14 (hHeld) ?r14
            case i14 => exact rfl
            case q14 => exact (fun _ _ _ h => h)
            case y14 =>
              refine Or.inl ⟨by rfl, ?_⟩
              intro w hSw
              (try dsimp only at hSw)
              go_simp
              first | done | rfl
            try simp only [Act.put, List.getElem_toArray, List.getElem_cons_zero, List.getElem_cons_succ, List.setIfInBounds_toArray, List.set_cons_zero, List.set_cons_succ]
            refine wpAnyH_take (i := 10) (oi := ?o15) (v := ?v15) ?i15 (by kernel_rfl) (by kernel_rfl) (by kernel_rfl) ?q15 ?y15 (hHeld) ?r15
            case i15 => exact rfl
            case q15 => exact (fun _ _ _ h => h)
            case y15 =>
              refine Or.inl ⟨by rfl, ?_⟩
              intro w hSw
              (try dsimp only at hSw)
              go_simp
              first | done | rfl
            try simp only [Act.put, List.getElem_toArray, List.getElem_cons_zero, List.getElem_cons_succ, List.setIfInBounds_toArray, List.set_cons_zero, List.set_cons_succ]
            refine wpAnyH_ready (rs := [11]) (by kernel_rfl) (by simp) ?_
            refine AllReadyH.cons (i := 11) (o := ?o16) ?i16 ?g16 AllReadyH.nil
            case i16 => exact rfl
            case g16 =>
              intro K hK
              go_simp
              obtain ⟨v5, e_v5⟩ : ∃ x, x = v4.alloc (.cells #[.slice none 0 0] 33) := ⟨_, rfl⟩
              rw [← e_v5]
              have hb_v5 : Below v4.heap.size v4 v5 := by rw [e_v5]; exact (Below.refl _ _).alloc (Nat.le_refl _) _
              have hA := heap_alloc_new v4 (.cells #[.slice none 0 0] 33)
              rw [← e_v5] at hA
              have hA_ge : w1.heap.size ≤ v4.heap.size := hB_v4.size
              have hB_v5 := hB_v4.trans (hb_v5.mono hB_v4.size)
              clear e_v5
              replace hW := hW.below hb_v5 (Array.getElem?_eq_some_iff.1 hW).1
              have hS_v5 := HKr.out hB_v5
              refine hK.out _ _ (hS_v5) (fun hHeld => ?_)
              clear hK K
              try simp only [Act.put, List.getElem_toArray, List.getElem_cons_zero, List.getElem_cons_succ, List.setIfInBounds_toArray, List.set_cons_zero, List.set_cons_succ]
              obtain ⟨r0, f0⟩ := one_facts hA
              have hBW := below_set0 (hB_v5) hA_ge (.slice none 0 0)
              have hbW := heap_setCell_same v5 _ 0 _ _ (.slice none 0 0) hA
              have HbW : Hid _ := hbW
              have HBW : Hid _ := hBW
              have HSW : Hid _ := HKr.out hBW
              clear hbW hBW
              refine wpAnyH_ready (rs := [12]) (by kernel_rfl) (by simp) ?_
              refine AllReadyH.cons (i := 12) (o := ?o17) ?i17 (fun K hK => ?_) AllReadyH.nil
              case i17 => exact rfl
              go_simp
              refine hK.out _ _ (HSW.out) (fun hHeld => ?_)
              clear hK K
              try simp only [Act.put, List.getElem_toArray, List.getElem_cons_zero, List.getElem_cons_succ, List.setIfInBounds_toArray, List.set_cons_zero, List.set_cons_succ]
              refine wpAnyH_take (i := 13) (oi := ?o18) (v := ?v18) ?i18 (by kernel_rfl) (by kernel_rfl) (by kernel_rfl) ?q18 ?y18 (hHeld) ?r18
              case i18 => exact rfl
              case q18 => exact (fun _ _ _ h => h)
              case y18 =>
                refine Or.inl ⟨by rfl, ?_⟩
                intro w hSw
                (try dsimp only at hSw)
                go_simp
                first | done | rfl
              try simp only [Act.put, List.getElem_toArray, List.getElem_cons_zero, List.getElem_cons_succ, List.setIfInBounds_toArray, List.set_cons_zero, List.set_cons_succ]
              refine wpAnyH_done (by kernel_rfl) ?_ _
              go_wp2_with fail
              go_meet
              case rel => exact ⟨_, rfl, rfl, HbW.out, HBW.out, hA_ge⟩
          case g12 =>
            intro K hK
            go_simp
            obtain ⟨v6, e_v6⟩ : ∃ x, x = v3.alloc (.cells #[.slice none 0 0] 33) := ⟨_, rfl⟩
            rw [← e_v6]
            have hb_v6 : Below v3.heap.size v3 v6 := by rw [e_v6]; exact (Below.refl _ _).alloc (Nat.le_refl _) _
            have hA := heap_alloc_new v3 (.cells #[.slice none 0 0] 33)
            rw [← e_v6] at hA
            have hA_ge : w1.heap.size ≤ v3.heap.size := hB_v3.size
            have hB_v6 := hB_v3.trans (hb_v6.mono hB_v3.size)
            clear e_v6
            replace hW := hW.below hb_v6 (Array.getElem?_eq_some_iff.1 hW).1
            have hS_v6 := HKr.out hB_v6
            refine hK.out _ _ (hS_v6) (fun hHeld => ?_)
            clear hK K
            try simp only [Act.put, List.getElem_toArray, List.getElem_cons_zero, List.getElem_cons_succ, List.setIfInBounds_toArray, List.set_cons_zero, List.set_cons_succ]
            refine wpAnyH_ready (rs := [7]) (by kernel_rfl) (by simp) ?_
            refine AllReadyH.cons (i := 7) (o := ?o19) ?i19 ?g19 AllReadyH.nil
            case i19 => exact rfl
            case g19 =>
              intro K hK
              go_simp
              (with_reducible refine (H1 g v6 (hW.row Hl.out)).mono ?_)
              rintro e v7 ⟨rfl, hb_v7⟩
              have hB_v7 := hB_v6.trans (hb_v7.mono hB_v6.size)
              replace hW := hW.below hb_v7 (Array.getElem?_eq_some_iff.1 hW).1
              replace hA := (hb_v7.block _ (Array.getElem?_eq_some_iff.1 hA).1).trans hA
              have hS_v7 := HKr.out hB_v7
              go_wp2_with fail
              refine hK.out _ _ (hS_v7) (fun hHeld => ?_)
              clear hK K
              try simp only [Act.put, List.getElem_toArray, List.getElem_cons_zero, List.getElem_cons_succ, List.setIfInBounds_toArray, List.set_cons_zero, List.set_cons_succ]
              refine wpAnyH_take (i := 8) (oi := ?o20) (v := ?v20) ?i20 (by kernel_rfl) (by kernel_rfl) (by kernel_rfl) ?q20 ?y20 (hHeld) ?r20
              case i20 => exact rfl
              case q20 => exact (fun _ _ _ h => h)
              case y20 =>
                refine Or.inl ⟨by rfl, ?_⟩
                intro w hSw
                (try dsimp only at hSw)
                go_simp
                first | done | rfl
              try simp only [Act.put, List.getElem_toArray, List.getElem_cons_zero, List.getElem_cons_succ, List.setIfInBounds_toArray, List.set_cons_zero, List.set_cons_succ]
              refine wpAnyH_take (i := 9) (oi := ?o21) (v := ?v21) ?i21 (by kernel_rfl) (by kernel_rfl) (by kernel_rfl) ?q21 ?y21 (hHeld) ?r21
              case i21 => exact rfl
              case q21 => exact (fun _ _ _ h => h)
              case y21 =>
                refine Or.inl ⟨by rfl, ?_⟩
                intro w hSw
                (try dsimp only at hSw)
                go_simp
                first | done | rfl
              try simp only [Act.put, List.getElem_toArray, List.getElem_cons_zero, List.getElem_cons_succ, List.setIfInBounds_toArray, List.set_cons_zero, List.set_cons_succ]
              refine wpAnyH_take (i := 10) (oi := ?o22) (v := ?v22) ?i22 (by kernel_rfl) (by kernel_rfl) (by kernel_rfl) ?q22 ?y22 (hHeld) ?r22
              case i22 => exact rfl
              case q22 => exact (fun _ _ _ h => h)
              case y22 =>
                refine Or.inl ⟨by rfl, ?_⟩
                intro w hSw
                (try dsimp only at hSw)
                go_simp
                first | done | rfl
              try simp only [Act.put, List.getElem_toArray, List.getElem_cons_zero, List.getElem_cons_succ, List.setIfInBounds_toArray, List.set_cons_zero, List.set_cons_succ]
              obtain ⟨r0, f0⟩ := one_facts hA
              have hBW := below_set0 (hB_v7) hA_ge (.slice none 0 0)
              have hbW := heap_setCell_same v7 _ 0 _ _ (.slice none 0 0) hA
              have HbW : Hid _ := hbW
              have HBW : Hid _ := hBW
              have HSW : Hid _ := HKr.out hBW
              clear hbW hBW
              refine wpAnyH_ready (rs := [12]) (by kernel_rfl) (by simp) ?_
              refine AllReadyH.cons (i := 12) (o := ?o23) ?i23 (fun K hK => ?_) AllReadyH.nil
              case i23 => exact rfl
              go_simp
              refine hK.out _ _ (HSW.out) (fun hHeld => ?_)
              clear hK K
              try simp only [Act.put, List.getElem_toArray, List.getElem_cons_zero, List.getElem_cons_succ, List.setIfInBounds_toArray, List.set_cons_zero, List.set_cons_succ]
              refine wpAnyH_take (i := 13) (oi := ?o24) (v := ?v24) ?i24 (by kernel_rfl) (by kernel_rfl) (by kernel_rfl) ?q24 ?y24 (hHeld) ?r24
              case i24 => exact rfl
              case q24 => exact (fun _ _ _ h => h)
              case y24 =>
                refine Or.inl ⟨by rfl, ?_⟩
                intro w hSw
                (try dsimp only at hSw)
                go_simp
                first | done | rfl
              try simp only [Act.put, List.getElem_toArray, List.getElem_cons_zero, List.getElem_cons_succ, List.setIfInBounds_toArray, List.set_cons_zero, List.set_cons_succ]
              refine wpAnyH_done (by kernel_rfl) ?_ _
              go_wp2_with fail
              go_meet
              case rel => exact ⟨_, rfl, rfl, HbW.out, HBW.out, hA_ge⟩
        case g10 =>
          intro K hK
          go_simp
          obtain ⟨v8, e_v8⟩ : ∃ x, x = v2.alloc (.cells #[.slice none 0 0] 33) := ⟨_, rfl⟩
          rw [← e_v8]
          have hb_v8 : Below v2.heap.size v2 v8 := by rw [e_v8]; exact (Below.refl _ _).alloc (Nat.le_refl _) _
          have hA := heap_alloc_new v2 (.cells #[.slice none 0 0] 33)
          rw [← e_v8] at hA
          have hA_ge : w1.heap.size ≤ v2.heap.size := hB_v2.size
          have hB_v8 := hB_v2.trans (hb_v8.mono hB_v2.size)
          clear e_v8
          replace hW := hW.below hb_v8 (Array.getElem?_eq_some_iff.1 hW).1
          have hS_v8 := HKr.out hB_v8
          refine hK.out _ _ (hS_v8) (fun hHeld => ?_)
          clear hK K
          try simp only [Act.put, List.getElem_toArray, List.getElem_cons_zero, List.getElem_cons_succ, List.setIfInBounds_toArray, List.set_cons_zero, List.set_cons_succ]
          refine wpAnyH_ready (rs := [6]) (by kernel_rfl) (by simp) ?_
          refine AllReadyH.cons (i := 6) (o := ?o25) ?i25 ?g25 AllReadyH.nil
          case i25 => exact rfl
          case g25 =>
            intro K hK
            go_simp
            (with_reducible refine (toWordM yt yn yl yh ya yp ys v8).mono ?_)
            rintro e v9 ⟨rfl, hb_v9⟩
            have hB_v9 := hB_v8.trans (hb_v9.mono hB_v8.size)
            replace hW := hW.below hb_v9 (Array.getElem?_eq_some_iff.1 hW).1
            replace hA := (hb_v9.block _ (Array.getElem?_eq_some_iff.1 hA).1).trans hA
            have hS_v9 := HKr.out hB_v9
            go_wp2_with fail
            refine hK.out _ _ (hS_v9) (fun hHeld => ?_)
            clear hK K
            try simp only [Act.put, List.getElem_toArray, List.getElem_cons_zero, List.getElem_cons_succ, List.setIfInBounds_toArray, List.set_cons_zero, List.set_cons_succ]
            refine wpAnyH_ready (rs := [7]) (by kernel_rfl) (by simp) ?_
            refine AllReadyH.cons (i := 7) (o := ?o26) ?i26 ?g26 AllReadyH.nil
            case i26 => exact rfl
            case g26 =>
              intro K hK
              go_simp
              (with_reducible refine (H1 g v9 (hW.row Hl.out)).mono ?_)
              rintro e v10 ⟨rfl, hb_v10⟩
              have hB_v10 := hB_v9.trans (hb_v10.mono hB_v9.size)
              replace hW := hW.below hb_v10 (Array.getElem?_eq_some_iff.1 hW).1
              replace hA := (hb_v10.block _ (Array.getElem?_eq_some_iff.1 hA).1).trans hA
              have hS_v10 := HKr.out hB_v10
              go_wp2_with fail
              refine hK.out _ _ (hS_v10) (fun hHeld => ?_)
              clear hK K
              try simp only [Act.put, List.getElem_toArray, List.getElem_cons_zero, List.getElem_cons_succ, List.setIfInBounds_toArray, List.set_cons_zero, List.set_cons_succ]
              refine wpAnyH_take (i := 8) (oi := ?o27) (v := ?v27) ?i27 (by kernel_rfl) (by kernel_rfl) (by kernel_rfl) ?q27 ?y27 (hHeld) ?r27
              case i27 => exact rfl
              case q27 => exact (fun _ _ _ h => h)
              case y27 =>
                refine Or.inl ⟨by rfl, ?_⟩
                intro w hSw
                (try dsimp only at hSw)
                go_simp
                first | done | rfl
              try simp only [Act.put, List.getElem_toArray, List.getElem_cons_zero, List.getElem_cons_succ, List.setIfInBounds_toArray, List.set_cons_zero, List.set_cons_succ]
              refine wpAnyH_take (i := 9) (oi := ?o28) (v := ?v28) ?i28 (by kernel_rfl) (by kernel_rfl) (by kernel_rfl) ?q28 ?y28 (hHeld) ?r28
              case i28 => exact rfl
              case q28 => exact (fun _ _ _ h => h)
              case y28 =>
                refine Or.inl ⟨by rfl, ?_⟩
                intro w hSw
                (try dsimp only at hSw)
                go_simp
                first | done | rfl
              try simp only [Act.put, List.getElem_toArray, List.getElem_cons_zero, List.getElem_cons_succ, List.setIfInBounds_toArray, List.set_cons_zero, List.set_cons_succ]
              refine wpAnyH_take (i := 10) (oi := ?o29) (v := ?v29) ?i29 (by kernel_rfl) (by kernel_rfl) (by kernel_rfl) ?q29 ?y29 (hHeld) ?r29
              case i29 => exact rfl
              case q29 => exact (fun _ _ _ h => h)
              case y29 =>
                refine Or.inl ⟨by rfl, ?_⟩
                intro w hSw
                (try dsimp only at hSw)
                go_simp
                first | done | rfl
              try simp only [Act.put, List.getElem_toArray, List.getElem_cons_zero, List.getElem_cons_succ, List.setIfInBounds_toArray, List.set_cons_zero, List.set_cons_succ]
              obtain ⟨r0, f0⟩ := one_facts hA
              have hBW := below_set0 (hB_v10) hA_ge (.slice none 0 0)
              have hbW := heap_setCell_same v10 _ 0 _ _ (.slice none 0 0) hA
              have HbW : Hid _ := hbW
              have HBW : Hid _ := hBW
              have HSW : Hid _ := HKr.out hBW
              clear hbW hBW
              refine wpAnyH_ready (rs := [12]) (by kernel_rfl) (by simp) ?_
              refine AllReadyH.cons (i := 12) (o := ?o30) ?i30 (fun K hK => ?_) AllReadyH.nil
              case i30 => exact rfl
              go_simp
              refine hK.out _ _ (HSW.out) (fun hHeld => ?_)
              clear hK K
              try simp only [Act.put, List.getElem_toArray, List.getElem_cons_zero, List.getElem_cons_succ, List.setIfInBounds_toArray, List.set_cons_zero, List.set_cons_succ]
              refine wpAnyH_take (i := 13) (oi := ?o31) (v := ?v31) ?i31 (by kernel_rfl) (by kernel_rfl) (by kernel_rfl) ?q31 ?y31 (hHeld) ?r31
              case i31 => exact rfl
              case q31 => exact (fun _ _ _ h => h)
              case y31 =>
                refine Or.inl ⟨by rfl, ?_⟩
                intro w hSw
                (try dsimp only at hSw)
                go_simp
                first | done | rfl
              try simp only [Act.put, List.getElem_toArray, List.getElem_cons_zero, List.getElem_cons_succ, List.setIfInBounds_toArray, List.set_cons_zero, List.set_cons_succ]
              refine wpAnyH_done (by kernel_rfl) ?_ _
              go_wp2_with fail
              go_meet
              case rel => exact ⟨_, rfl, rfl, HbW.out, HBW.out, hA_ge⟩
      case g8 =>
        intro K hK
        go_simp
        obtain ⟨v11, e_v11⟩ : ∃ x, x = v1.alloc (.cells #[.slice none 0 0] 33) := ⟨_, rfl⟩
        rw [← e_v11]
        have hb_v11 : Below v1.heap.size v1 v11 := by rw [e_v11]; exact (Below.refl _ _).alloc (Nat.le_refl _) _
        have hA := heap_alloc_new v1 (.cells #[.slice none 0 0] 33)
        rw [← e_v11] at hA
        have hA_ge : w1.heap.size ≤ v1.heap.size := hB_v1.size
        have hB_v11 := hB_v1.trans (hb_v11.mono hB_v1.size)
        clear e_v11
        replace hW := hW.below hb_v11 (Array.getElem?_eq_some_iff.1 hW).1
        have hS_v11 := HKr.out hB_v11
        refine hK.out _ _ (hS_v11) (fun hHeld => ?_)
        clear hK K
        try simp only [Act.put, List.getElem_toArray, List.getElem_cons_zero, List.getElem_cons_succ, List.setIfInBounds_toArray, List.set_cons_zero, List.set_cons_succ]
        refine wpAnyH_ready (rs := [3]) (by kernel_rfl) (by simp) ?_
        refine AllReadyH.cons (i := 3) (o := ?o32) ?i32 ?g32 AllReadyH.nil
        case i32 => exact rfl
        case g32 =>
          intro K hK
          go_simp
          (with_reducible refine (toWordM xt xn xl xh xa xp xs v11).mono ?_)
          rintro e v12 ⟨rfl, hb_v12⟩
          have hB_v12 := hB_v11.trans (hb_v12.mono hB_v11.size)
          replace hW := hW.below hb_v12 (Array.getElem?_eq_some_iff.1 hW).1
          replace hA := (hb_v12.block _ (Array.getElem?_eq_some_iff.1 hA).1).trans hA
          have hS_v12 := HKr.out hB_v12
          go_wp2_with fail
          refine hK.out _ _ (hS_v12) (fun hHeld => ?_)
          clear hK K
          try simp only [Act.put, List.getElem_toArray, List.getElem_cons_zero, List.getElem_cons_succ, List.setIfInBounds_toArray, List.set_cons_zero, List.set_cons_succ]
          refine wpAnyH_ready (rs := [6]) (by kernel_rfl) (by simp) ?_
          refine AllReadyH.cons (i := 6) (o := ?o33) ?i33 ?g33 AllReadyH.nil
          case i33 => exact rfl
          case g33 =>
            intro K hK
            go_simp
            (with_reducible refine (toWordM yt yn yl yh ya yp ys v12).mono ?_)
            rintro e v13 ⟨rfl, hb_v13⟩
            have hB_v13 := hB_v12.trans (hb_v13.mono hB_v12.size)
            replace hW := hW.below hb_v13 (Array.getElem?_eq_some_iff.1 hW).1
            replace hA := (hb_v13.block _ (Array.getElem?_eq_some_iff.1 hA).1).trans hA
            have hS_v13 := HKr.out hB_v13
            go_wp2_with fail
            refine hK.out _ _ (hS_v13) (fun hHeld => ?_)
            clear hK K
            try simp only [Act.put, List.getElem_toArray, List.getElem_cons_zero, List.getElem_cons_succ, List.setIfInBounds_toArray, List.set_cons_zero, List.set_cons_succ]
            refine wpAnyH_ready (rs := [7]) (by kernel_rfl) (by simp) ?_
            refine AllReadyH.cons (i := 7) (o := ?o34) ?i34 ?g34 AllReadyH.nil
            case i34 => exact rfl
            case g34 =>
              intro K hK
              go_simp
              (with_reducible refine (H1 g v13 (hW.row Hl.out)).mono ?_)
              rintro e v14 ⟨rfl, hb_v14⟩
              have hB_v14 := hB_v13.trans (hb_v14.mono hB_v13.size)
              replace hW := hW.below hb_v14 (Array.getElem?_eq_some_iff.1 hW).1
              replace hA := (hb_v14.block _ (Array.getElem?_eq_some_iff.1 hA).1).trans hA
              have hS_v14 := HKr.out hB_v14
              go_wp2_with fail
              refine hK.out _ _ (hS_v14) (fun hHeld => ?_)
              clear hK K
              try simp only [Act.put, List.getElem_toArray, List.getElem_cons_zero, List.getElem_cons_succ, List.setIfInBounds_toArray, List.set_cons_zero, List.set_cons_succ]
              refine wpAnyH_take (i := 8) (oi := ?o35) (v := ?v35) ?i35 (by kernel_rfl) (by kernel_rfl) (by kernel_rfl) ?q35 ?y35 (hHeld) ?r35
              case i35 => exact rfl
              case q35 => exact (fun _ _ _ h => h)
              case y35 =>
                refine Or.inl ⟨by rfl, ?_⟩
                intro w hSw
                (try dsimp only at hSw)
                go_simp
                first | done | rfl
              try simp only [Act.put, List.getElem_toArray, List.getElem_cons_zero, List.getElem_cons_succ, List.setIfInBounds_toArray, List.set_cons_zero, List.set_cons_succ]
              refine wpAnyH_take (i := 9) (oi := ?o36) (v := ?v36) ?i36 (by kernel_rfl) (by kernel_rfl) (by kernel_rfl) ?q36 ?y36 (hHeld) ?r36
              case i36 => exact rfl
              case q36 => exact (fun _ _ _ h => h)
              case y36 =>
                refine Or.inl ⟨by rfl, ?_⟩
                intro w hSw
                (try dsimp only at hSw)
                go_simp
                first | done | rfl
              try simp only [Act.put, List.getElem_toArray, List.getElem_cons_zero, List.getElem_cons_succ, List.setIfInBounds_toArray, List.set_cons_zero, List.set_cons_succ]
              refine wpAnyH_take (i := 10) (oi := ?o37) (v := ?v37) ?i37 (by kernel_rfl) (by kernel_rfl) (by kernel_rfl) ?q37 ?y37 (hHeld) ?r37
              case i37 => exact rfl
              case q37 => exact (fun _ _ _ h => h)
              case y37 =>
                refine Or.inl ⟨by rfl, ?_⟩
                intro w hSw
                (try dsimp only at hSw)
                go_simp
                first | done | rfl
              try simp only [Act.put, List.getElem_toArray, List.getElem_cons_zero, List.getElem_cons_succ, List.setIfInBounds_toArray, List.set_cons_zero, List.set_cons_succ]
              obtain ⟨r0, f0⟩ := one_facts hA
              have hBW := below_set0 (hB_v14) hA_ge (.slice none 0 0)
              have hbW := heap_setCell_same v14 _ 0 _ _ (.slice none 0 0) hA
              have HbW : Hid _ := hbW
              have HBW : Hid _ := hBW
              have HSW : Hid _ := HKr.out hBW
              clear hbW hBW
              refine wpAnyH_ready (rs := [12]) (by kernel_rfl) (by simp) ?_
              refine AllReadyH.cons (i := 12) (o := ?o38) ?i38 (fun K hK => ?_) AllReadyH.nil
              case i38 => exact rfl
              go_simp
              refine hK.out _ _ (HSW.out) (fun hHeld => ?_)
              clear hK K
              try simp only [Act.put, List.getElem_toArray, List.getElem_cons_zero, List.getElem_cons_succ, List.setIfInBounds_toArray, List.set_cons_zero, List.set_cons_succ]
              refine wpAnyH_take (i := 13) (oi := ?o39) (v := ?v39) ?i39 (by kernel_rfl) (by kernel_rfl) (by kernel_rfl) ?q39 ?y39 (hHeld) ?r39
              case i39 => exact rfl
              case q39 => exact (fun _ _ _ h => h)
              case y39 =>
                refine Or.inl ⟨by rfl, ?_⟩
                intro w hSw
                (try dsimp only at hSw)
                go_simp
                first | done | rfl
              try simp only [Act.put, List.getElem_toArray, List.getElem_cons_zero, List.getElem_cons_succ, List.setIfInBounds_toArray, List.set_cons_zero, List.set_cons_succ]
              refine wpAnyH_done (by kernel_rfl) ?_ _
              go_wp2_with fail
              go_meet
              case rel => exact ⟨_, rfl, rfl, HbW.out, HBW.out, hA_ge⟩
    case g6 =>
      intro K hK
      go_simp
      obtain ⟨v15, e_v15⟩ : ∃ x, x = wS.alloc (.cells #[.slice none 0 0] 33) := ⟨_, rfl⟩
      rw [← e_v15]
      have hb_v15 : Below wS.heap.size wS v15 := by rw [e_v15]; exact (Below.refl _ _).alloc (Nat.le_refl _) _
      have hA := heap_alloc_new wS (.cells #[.slice none 0 0] 33)
      rw [← e_v15] at hA
      have hA_ge : w1.heap.size ≤ wS.heap.size := hB0.size
      have hB_v15 := hB0.trans (hb_v15.mono hB0.size)
      clear e_v15
      have hS_v15 := HKr.out hB_v15
      refine hK.out _ _ (hS_v15) (fun hHeld => ?_)
      clear hK K
      try simp only [Act.put, List.getElem_toArray, List.getElem_cons_zero, List.getElem_cons_succ, List.setIfInBounds_toArray, List.set_cons_zero, List.set_cons_succ]
      refine wpAnyH_ready (rs := [1]) (by kernel_rfl) (by simp) ?_
      refine AllReadyH.cons (i := 1) (o := ?o40) ?i40 ?g40 AllReadyH.nil
      case i40 => exact rfl
      case g40 =>
        intro K hK
        go_simp
        (with_reducible refine (toM a n c l v15 (HW1.out hB_v15) hn).mono ?_)
        rintro e v16 ⟨g, rfl, hgg, hW, hb_v16⟩
        have hB_v16 := hB_v15.trans (hb_v16.mono hB_v15.size)
        replace hA := (hb_v16.block _ (Array.getElem?_eq_some_iff.1 hA).1).trans hA
        have hS_v16 := HKr.out hB_v16
        go_wp2_with fail
        refine hK.out _ _ (hS_v16) (fun hHeld => ?_)
        clear hK K
        try simp only [Act.put, List.getElem_toArray, List.getElem_cons_zero, List.getElem_cons_succ, List.setIfInBounds_toArray, List.set_cons_zero, List.set_cons_succ]
        refine wpAnyH_ready (rs := [3]) (by kernel_rfl) (by simp) ?_
        refine AllReadyH.cons (i := 3) (o := ?o41) ?i41 ?g41 AllReadyH.nil
        case i41 => exact rfl
        case g41 =>
          intro K hK
          go_simp
          (with_reducible refine (toWordM xt xn xl xh xa xp xs v16).mono ?_)
          rintro e v17 ⟨rfl, hb_v17⟩
          have hB_v17 := hB_v16.trans (hb_v17.mono hB_v16.size)
          replace hA := (hb_v17.block _ (Array.getElem?_eq_some_iff.1 hA).1).trans hA
          replace hW := hW.below hb_v17 (Array.getElem?_eq_some_iff.1 hW).1
          have hS_v17 := HKr.out hB_v17
          go_wp2_with fail
          refine hK.out _ _ (hS_v17) (fun hHeld => ?_)
          clear hK K
          try simp only [Act.put, List.getElem_toArray, List.getElem_cons_zero, List.getElem_cons_succ, List.setIfInBounds_toArray, List.set_cons_zero, List.set_cons_succ]
          refine wpAnyH_ready (rs := [6]) (by kernel_rfl) (by simp) ?_
          refine AllReadyH.cons (i := 6) (o := ?o42) ?i42 ?g42 AllReadyH.nil
          case i42 => exact rfl
          case g42 =>
            intro K hK
            go_simp
            (with_reducible refine (toWordM yt yn yl yh ya yp ys v17).mono ?_)
            rintro e v18 ⟨rfl, hb_v18⟩
            have hB_v18 := hB_v17.trans (hb_v18.mono hB_v17.size)
            replace hA := (hb_v18.block _ (Array.getElem?_eq_some_iff.1 hA).1).trans hA
            replace hW := hW.below hb_v18 (Array.getElem?_eq_some_iff.1 hW).1
            have hS_v18 := HKr.out hB_v18
            go_wp2_with fail
            refine hK.out _ _ (hS_v18) (fun hHeld => ?_)
            clear hK K
            try simp only [Act.put, List.getElem_toArray, List.getElem_cons_zero, List.getElem_cons_succ, List.setIfInBounds_toArray, List.set_cons_zero, List.set_cons_succ]
            refine wpAnyH_ready (rs := [7]) (by kernel_rfl) (by simp) ?_
            refine AllReadyH.cons (i := 7) (o := ?o43) ?i43 ?g43 AllReadyH.nil
            case i43 => exact rfl
            case g43 =>
              intro K hK
              go_simp
              (with_reducible refine (H1 g v18 (hW.row Hl.out)).mono ?_)
              rintro e v19 ⟨rfl, hb_v19⟩
              have hB_v19 := hB_v18.trans (hb_v19.mono hB_v18.size)
              replace hA := (hb_v19.block _ (Array.getElem?_eq_some_iff.1 hA).1).trans hA
              replace hW := hW.below hb_v19 (Array.getElem?_eq_some_iff.1 hW).1
              have hS_v19 := HKr.out hB_v19
              go_wp2_with fail
              refine hK.out _ _ (hS_v19) (fun hHeld => ?_)
              clear hK K
              try simp only [Act.put, List.getElem_toArray, List.getElem_cons_zero, List.getElem_cons_succ, List.setIfInBounds_toArray, List.set_cons_zero, List.set_cons_succ]
              refine wpAnyH_take (i := 8) (oi := ?o44) (v := ?v44) ?i44 (by kernel_rfl) (by kernel_rfl) (by kernel_rfl) ?q44 ?y44 (hHeld) ?r44
              case i44 => exact rfl
              case q44 => exact (fun _ _ _ h => h)
              case y44 =>
                refine Or.inl ⟨by rfl, ?_⟩
                intro w hSw
                (try dsimp only at hSw)
                go_simp
                first | done | rfl
              try simp only [Act.put, List.getElem_toArray, List.getElem_cons_zero, List.getElem_cons_succ, List.setIfInBounds_toArray, List.set_cons_zero, List.set_cons_succ]
              refine wpAnyH_take (i := 9) (oi := ?o45) (v := ?v45) ?i45 (by kernel_rfl) (by kernel_rfl) (by kernel_rfl) ?q45 ?y45 (hHeld) ?r45
              case i45 => exact rfl
              case q45 => exact (fun _ _ _ h => h)
              case y45 =>
                refine Or.inl ⟨by rfl, ?_⟩
                intro w hSw
                (try dsimp only at hSw)
                go_simp
                first | done | rfl
              try simp only [Act.put, List.getElem_toArray, List.getElem_cons_zero, List.getElem_cons_succ, List.setIfInBounds_toArray, List.set_cons_zero, List.set_cons_succ]
              refine wpAnyH_take (i := 10) (oi := ?o46) (v := ?v46) ?i46 (by kernel_rfl) (by kernel_rfl) (by kernel_rfl) ?q46 ?y46 (hHeld) ?r46
              case i46 => exact rfl
              case q46 => exact (fun _ _ _ h => h)
              case y46 =>
                refine Or.inl ⟨by rfl, ?_⟩
                intro w hSw
                (try dsimp only at hSw)
                go_simp
                first | done | rfl
              try simp only [Act.put, List.getElem_toArray, List.getElem_cons_zero, List.getElem_cons_succ, List.setIfInBounds_toArray, List.set_cons_zero, List.set_cons_succ]
              obtain ⟨r0, f0⟩ := one_facts hA
              have hBW := below_set0 (hB_v19) hA_ge (.slice none 0 0)
              have hbW := heap_setCell_same v19 _ 0 _ _ (.slice none 0 0) hA
              have HbW : Hid _ := hbW
              have HBW : Hid _ := hBW
              have HSW : Hid _ := HKr.out hBW
              clear hbW hBW
              refine wpAnyH_ready (rs := [12]) (by kernel_rfl) (by simp) ?_
              refine AllReadyH.cons (i := 12) (o := ?o47) ?i47 (fun K hK => ?_) AllReadyH.nil
              case i47 => exact rfl
              go_simp
              refine hK.out _ _ (HSW.out) (fun hHeld => ?_)
              clear hK K
              try simp only [Act.put, List.getElem_toArray, List.getElem_cons_zero, List.getElem_cons_succ, List.setIfInBounds_toArray, List.set_cons_zero, List.set_cons_succ]
              refine wpAnyH_take (i := 13) (oi := ?o48) (v := ?v48) ?i48 (by kernel_rfl) (by kernel_rfl) (by kernel_rfl) ?q48 ?y48 (hHeld) ?r48
              case i48 => exact rfl
              case q48 => exact (fun _ _ _ h => h)
              case y48 =>
                refine Or.inl ⟨by rfl, ?_⟩
                intro w hSw
                (try dsimp only at hSw)
                go_simp
                first | done | rfl
              try simp only [Act.put, List.getElem_toArray, List.getElem_cons_zero, List.getElem_cons_succ, List.setIfInBounds_toArray, List.set_cons_zero, List.set_cons_succ]
              refine wpAnyH_done (by kernel_rfl) ?_ _
              go_wp2_with fail
              go_meet
              case rel => exact ⟨_, rfl, rfl, HbW.out, HBW.out, hA_ge⟩
  case rest =>
    obtain ⟨g10, rfl, rfl, h10, hbc, hge10⟩ := hcut
    have hm2 := (hbc.block gm (by omega)).trans Hm1.out
    have hx2 := (hbc.block (gm + 1) (by omega)).trans Hx1.out
    have hy2 := (hbc.block (gm + 2) (by omega)).trans Hy1.out
    have hb2 : Below gm w wc := Hb1.out.trans (hbc.mono (by omega))
    have hsz2 : w1.heap.size ≤ wc.heap.size := hbc.size
    have ho3 := h10
    have hg10 : g10 < wc.heap.size := (Array.getElem?_eq_some_iff.1 h10).1
    obtain ⟨cm, _⟩ := one_facts hm2
    have Hm2 : Hid _ := hm2
    have Hx2 : Hid _ := hx2
    have Hy2 : Hid _ := hy2
    have H102 : Hid _ := h10
    have Ho2 : Hid _ := ho3
    have Hb2 : Hid (Below gm w wc) := hb2
    clear hbc hm2 hx2 hy2 h10 ho3 hb2 Hm1 Hx1 Hy1 Hb1 HW1 HKs
    go_wp2_with fail
    refine (toM a n c l wc (Hh.out.below (by rw [Hg.out]; exact Hb2.out)) hn).mono ?_
    rintro e w3 ⟨g5, rfl, hg5, hW3, hb3⟩
    clear cm
    go_upto_region 7 with fail
    obtain ⟨w4, e4⟩ : ∃ x, x = w3.alloc (.cells #[.slice (some ⟨g5, 0, none⟩) n n] 33) := ⟨_, rfl⟩
    have hb34 : Below w3.heap.size w3 w4 := by rw [e4]; exact (Below.refl _ _).alloc (Nat.le_refl _) _
    have h12 := heap_alloc_new w3 (.cells #[.slice (some ⟨g5, 0, none⟩) n n] 33)
    rw [← e4] at h12 ⊢
    have hb24 : Below wc.heap.size wc w4 := hb3.trans (hb34.mono hb3.size)
    have hW4 : WB w4 g5 l := hW3.below hb34 (Array.getElem?_eq_some_iff.1 hW3).1
    have hg5lt : g5 < w3.heap.size := (Array.getElem?_eq_some_iff.1 hW3).1
    have k : ∀ {q : Nat} {o : Obj}, wc.heap[q]? = some o → w4.heap[q]? = some o := fun e => (hb24.block _ (Array.getElem?_eq_some_iff.1 e).1).trans e
    have hm4 := k Hm2.out
    have hx4 := k Hx2.out
    have hy4 := k Hy2.out
    have h104 := k H102.out
    have ho4 := k Ho2.out
    have hb4 : Below gm w w4 := Hb2.out.trans (hb24.mono (by omega))
    have hsz3 : wc.heap.size ≤ w3.heap.size := hb3.size
    have hsz4 : w3.heap.size < w4.heap.size := (Array.getElem?_eq_some_iff.1 h12).1
    have Hb4 : Hid (Below gm w w4) := hb4
    have HS4 : Hid (∀ {wx : World}, Below w4.heap.size w4 wx → Sents wx p t b) := fun hb => HS.out.below (by rw [Hg.out]; exact Hb4.out.trans (hb.mono (by omega)))
    generalize w3.heap.size = g12 at *
    have HKs : Hid (∀ {wx : World}, Below w4.heap.size w4 wx → wx.cell? ⟨g12, 0, none⟩ = some (.slice (some ⟨g5, 0, none⟩) n n) ∧ wx.cell? ⟨gm + 1, 0, none⟩ = some (.bool xt) ∧ wx.cell? ⟨gm + 1, 1, none⟩ = some (.int .i64 xn) ∧ wx.cell? ⟨gm + 1, 2, none⟩ = some (.int .i64 xl) ∧ wx.cell? ⟨gm + 1, 3, none⟩ = some (.int .i64 xh) ∧ wx.cell? ⟨gm + 1, 4, none⟩ = some (.int .i64 xa) ∧ wx.cell? ⟨gm + 1, 5, none⟩ = some (.int .i64 xp) ∧ wx.cell? ⟨gm + 1, 6, none⟩ = some (.int .i64 xs) ∧ wx.cell? ⟨gm + 2, 0, none⟩ = some (.bool yt) ∧ wx.cell? ⟨gm + 2, 1, none⟩ = some (.int .i64 yn) ∧ wx.cell? ⟨gm + 2, 2, none⟩ = some (.int .i64 yl) ∧ wx.cell? ⟨gm + 2, 3, none⟩ = some (.int .i64 yh) ∧ wx.cell? ⟨gm + 2, 4, none⟩ = some (.int .i64 ya) ∧ wx.cell? ⟨gm + 2, 5, none⟩ = some (.int .i64 yp) ∧ wx.cell? ⟨gm + 2, 6, none⟩ = some (.int .i64 ys)) := fun hb => ⟨(one_facts ((hb.block g12 (by omega)).trans h12)).1, and7 (row7 ((hb.block (gm + 1) (by omega)).trans hx4)) (row7 ((hb.block (gm + 2) (by omega)).trans hy4))⟩
    have Hm4 : Hid _ := hm4
    have Hx4 : Hid _ := hx4
    have Hy4 : Hid _ := hy4
    have H104 : Hid _ := h104
    have H124 : Hid _ := h12
    have Ho4 : Hid _ := ho4
    have HW4 : Hid (WB w4 g5 l) := hW4
    clear e4 hb34 hb24 k hm4 hx4 hy4 h104 h12 ho4 hb4 hW4 hW3 hb3 Hm2 Hx2 Hy2 H102 Ho2 Hb2
    go_cut [13, 14] from 20 to 116 (fun s13 s14 wc => ∃ gA, s13 = .pointer (some ⟨gA, 0, none⟩) ∧ s14 = .int .i64 tr ∧ wc.heap[gA]? = some (.cells #[.slice none 0 0] 33 (0, 0)) ∧ Below w4.heap.size w4 wc ∧ w4.heap.size ≤ gA)
    case first =>
      have HKr : Hid (∀ {wx : World}, Below w4.heap.size w4 wx → wx.cell? ⟨g12, 0, none⟩ = some (.slice (some ⟨g5, 0, none⟩) n n) ∧ wx.cell? ⟨gm + 1, 0, none⟩ = some (.bool xt) ∧ wx.cell? ⟨gm + 1, 1, none⟩ = some (.int .i64 xn) ∧ wx.cell? ⟨gm + 1, 2, none⟩ = some (.int .i64 xl) ∧ wx.cell? ⟨gm + 1, 3, none⟩ = some (.int .i64 xh) ∧ wx.cell? ⟨gm + 1, 4, none⟩ = some (.int .i64 xa) ∧ wx.cell? ⟨gm + 1, 5, none⟩ = some (.int .i64 xp) ∧ wx.cell? ⟨gm + 1, 6, none⟩ = some (.int .i64 xs) ∧ wx.cell? ⟨gm + 2, 0, none⟩ = some (.bool yt) ∧ wx.cell? ⟨gm + 2, 1, none⟩ = some (.int .i64 yn) ∧ wx.cell? ⟨gm + 2, 2, none⟩ = some (.int .i64 yl) ∧ wx.cell? ⟨gm + 2, 3, none⟩ = some (.int .i64 yh) ∧ wx.cell? ⟨gm + 2, 4, none⟩ = some (.int .i64 ya) ∧ wx.cell? ⟨gm + 2, 5, none⟩ = some (.int .i64 yp) ∧ wx.cell? ⟨gm + 2, 6, none⟩ = some (.int .i64 ys)) := HKs.out
      refine wp_region_held_drew (S := fun wx => wx.cell? ⟨g12, 0, none⟩ = some (.slice (some ⟨g5, 0, none⟩) n n) ∧ wx.cell? ⟨gm + 1, 0, none⟩ = some (.bool xt) ∧ wx.cell? ⟨gm + 1, 1, none⟩ = some (.int .i64 xn) ∧ wx.cell? ⟨gm + 1, 2, none⟩ = some (.int .i64 xl) ∧ wx.cell? ⟨gm + 1, 3, none⟩ = some (.int .i64 xh) ∧ wx.cell? ⟨gm + 1, 4, none⟩ = some (.int .i64 xa) ∧ wx.cell? ⟨gm + 1, 5, none⟩ = some (.int .i64 xp) ∧ wx.cell? ⟨gm + 1, 6, none⟩ = some (.int .i64 xs) ∧ wx.cell? ⟨gm + 2, 0, none⟩ = some (.bool yt) ∧ wx.cell? ⟨gm + 2, 1, none⟩ = some (.int .i64 yn) ∧ wx.cell? ⟨gm + 2, 2, none⟩ = some (.int .i64 yl) ∧ wx.cell? ⟨gm + 2, 3, none⟩ = some (.int .i64 yh) ∧ wx.cell? ⟨gm + 2, 4, none⟩ = some (.int .i64 ya) ∧ wx.cell? ⟨gm + 2, 5, none⟩ = some (.int .i64 yp) ∧ wx.cell? ⟨gm + 2, 6, none⟩ = some (.int .i64 ys)) (by kernel_rfl) (HKr.out (Below.refl _ _).drew) (fun hHeld => ?_)
      have hB0 : Below w4.heap.size w4 w4.drew := (Below.refl _ _).drew
      have hW5 : WB w4.drew g5 l := WB.drew' HW4.out
      generalize w4.drew = wS at hB0 hW5 hHeld ⊢
      refine wpAnyH_take (i := 0) (oi := ?o201) (v := ?v201) ?i201 (by kernel_rfl) (by kernel_rfl) (by kernel_rfl) ?q201 ?y201 (hHeld) ?r201
      case i201 => exact rfl
      case q201 => exact (fun _ _ _ h => h)
      case y201 =>
        refine Or.inl ⟨by rfl, ?_⟩
        intro w hSw
        (try dsimp only at hSw)
        go_simp
        first | done | rfl
      try simp only [Act.put, List.getElem_toArray, List.getElem_cons_zero, List.getElem_cons_succ, List.setIfInBounds_toArray, List.set_cons_zero, List.set_cons_succ]
      refine wpAnyH_take (i := 1) (oi := ?o202) (v := ?v202) ?i202 (by kernel_rfl) (by kernel_rfl) (by kernel_rfl) ?q202 ?y202 (hHeld) ?r202
      case i202 => exact rfl
      case q202 => exact (fun _ _ _ h => h)
      case y202 =>
        refine Or.inl ⟨by rfl, ?_⟩
        intro w hSw
        (try dsimp only at hSw)
        go_simp
        first | done | rfl
      try simp only [Act.put, List.getElem_toArray, List.getElem_cons_zero, List.getElem_cons_succ, List.setIfInBounds_toArray, List.set_cons_zero, List.set_cons_succ]
      refine wpAnyH_take (i := 3) (oi := ?o203) (v := ?v203) ?i203 (by kernel_rfl) (by kernel_rfl) (by kernel_rfl) ?q203 ?y203 (hHeld) ?r203
      case i203 => exact rfl
      case q203 => exact (fun _ _ _ h => h)
      case y203 =>
        refine Or.inl ⟨by rfl, ?_⟩
        intro w hSw
        (try dsimp only at hSw)
        go_simp
        first | done | rfl
      try simp only [Act.put, List.getElem_toArray, List.getElem_cons_zero, List.getElem_cons_succ, List.setIfInBounds_toArray, List.set_cons_zero, List.set_cons_succ]
      refine wpAnyH_take (i := 4) (oi := ?o204) (v := ?v204) ?i204 (by kernel_rfl) (by kernel_rfl) (by kernel_rfl) ?q204 ?y204 (hHeld) ?r204
      case i204 => exact rfl
      case q204 => exact (fun _ _ _ h => h)
      case y204 =>
        refine Or.inl ⟨by rfl, ?_⟩
        intro w hSw
        (try dsimp only at hSw)
        go_simp
        first | done | rfl
      try simp only [Act.put, List.getElem_toArray, List.getElem_cons_zero, List.getElem_cons_succ, List.setIfInBounds_toArray, List.set_cons_zero, List.set_cons_succ]
      refine wpAnyH_ready (rs := [2, 10]) (by kernel_rfl) (by simp) ?_
      refine AllReadyH.cons (i := 2) (o := ?o205) ?i205 ?g205 (AllReadyH.cons (i := 10) (o := ?o206) ?i206 ?g206 AllReadyH.nil)
      case i205 => exact rfl
      case i206 => exact rfl
      case g205 =>
        intro K hK
        go_simp
        (with_reducible refine (toWordM xt xn xl xh xa xp xs wS).mono ?_)
        rintro e v201 ⟨rfl, hb_v201⟩
        have hB_v201 := hB0.trans (hb_v201.mono hB0.size)
        replace hW5 := hW5.below hb_v201 (Array.getElem?_eq_some_iff.1 hW5).1
        have hS_v201 := HKr.out hB_v201
        go_wp2_with fail
        refine hK.out _ _ (hS_v201) (fun hHeld => ?_)
        clear hK K
        try simp only [Act.put, List.getElem_toArray, List.getElem_cons_zero, List.getElem_cons_succ, List.setIfInBounds_toArray, List.set_cons_zero, List.set_cons_succ]
        refine wpAnyH_ready (rs := [5, 10]) (by kernel_rfl) (by simp) ?_
        refine AllReadyH.cons (i := 5) (o := ?o207) ?i207 ?g207 (AllReadyH.cons (i := 10) (o := ?o208) ?i208 ?g208 AllReadyH.nil)
        case i207 => exact rfl
        case i208 => exact rfl
        case g207 =>
          intro K hK
          go_simp
          (with_reducible refine (toWordM yt yn yl yh ya yp ys v201).mono ?_)
          rintro e v202 ⟨rfl, hb_v202⟩
          have hB_v202 := hB_v201.trans (hb_v202.mono hB_v201.size)
          replace hW5 := hW5.below hb_v202 (Array.getElem?_eq_some_iff.1 hW5).1
          have hS_v202 := HKr.out hB_v202
          go_wp2_with fail
          refine hK.out _ _ (hS_v202) (fun hHeld => ?_)
          clear hK K
          try simp only [Act.put, List.getElem_toArray, List.getElem_cons_zero, List.getElem_cons_succ, List.setIfInBounds_toArray, List.set_cons_zero, List.set_cons_succ]
          refine wpAnyH_ready (rs := [6, 10]) (by kernel_rfl) (by simp) ?_
          refine AllReadyH.cons (i := 6) (o := ?o209) ?i209 ?g209 (AllReadyH.cons (i := 10) (o := ?o210) ?i210 ?g210 AllReadyH.nil)
          case i209 => exact rfl
          case i210 => exact rfl
          case g209 =>
            intro K hK
            go_simp
            (with_reducible refine (H2 g5 v202 (hW5.row Hl.out) (HS4.out hB_v202)).mono ?_)
            rintro e v203 ⟨rfl, hb_v203⟩
            have hB_v203 := hB_v202.trans (hb_v203.mono hB_v202.size)
            replace hW5 := hW5.below hb_v203 (Array.getElem?_eq_some_iff.1 hW5).1
            have hS_v203 := HKr.out hB_v203
            go_wp2_with fail
            refine hK.out _ _ (hS_v203) (fun hHeld => ?_)
            clear hK K
            try simp only [Act.put, List.getElem_toArray, List.getElem_cons_zero, List.getElem_cons_succ, List.setIfInBounds_toArray, List.set_cons_zero, List.set_cons_succ]
            refine wpAnyH_take (i := 7) (oi := ?o211) (v := ?v211) ?i211 (by kernel_rfl) (by kernel_rfl) (by kernel_rfl) ?q211 ?y211 (hHeld) ?r211
            case i211 => exact rfl
            case q211 => exact (fun _ _ _ h => h)
            case y211 =>
              refine Or.inl ⟨by rfl, ?_⟩
              intro w hSw
              (try dsimp only at hSw)
              go_simp
              first | done | rfl
            try simp only [Act.put, List.getElem_toArray, List.getElem_cons_zero, List.getElem_cons_succ, List.setIfInBounds_toArray, List.set_cons_zero, List.set_cons_succ]
            refine wpAnyH_take (i := 8) (oi := ?o212) (v := ?v212) ?i212 (by kernel_rfl) (by kernel_rfl) (by kernel_rfl) ?q212 ?y212 (hHeld) ?r212
            case i212 => exact rfl
            case q212 => exact (fun _ _ _ h => h)
            case y212 =>
              refine Or.inl ⟨by rfl, ?_⟩
              intro w hSw
              (try dsimp only at hSw)
              go_simp
              first | done | rfl
            try simp only [Act.put, List.getElem_toArray, List.getElem_cons_zero, List.getElem_cons_succ, List.setIfInBounds_toArray, List.set_cons_zero, List.set_cons_succ]
            refine wpAnyH_take (i := 9) (oi := ?o213) (v := ?v213) ?i213 (by kernel_rfl) (by kernel_rfl) (by kernel_rfl) ?q213 ?y213 (hHeld) ?r213
            case i213 => exact rfl
            case q213 => exact (fun _ _ _ h => h)
            case y213 =>
              refine Or.inl ⟨by rfl, ?_⟩
              intro w hSw
              (try dsimp only at hSw)
              go_simp
              first | done | rfl
            try simp only [Act.put, List.getElem_toArray, List.getElem_cons_zero, List.getElem_cons_succ, List.setIfInBounds_toArray, List.set_cons_zero, List.set_cons_succ]
            refine wpAnyH_ready (rs := [10]) (by kernel_rfl) (by simp) ?_
            refine AllReadyH.cons (i := 10) (o := ?o214) ?i214 ?g214 AllReadyH.nil
            case i214 => exact rfl
            case g214 =>
              intro K hK
              go_simp
              obtain ⟨v204, e_v204⟩ : ∃ x, x = v203.alloc (.cells #[.slice none 0 0] 33) := ⟨_, rfl⟩
              rw [← e_v204]
              have hb_v204 : Below v203.heap.size v203 v204 := by rw [e_v204]; exact (Below.refl _ _).alloc (Nat.le_refl _) _
              have hA := heap_alloc_new v203 (.cells #[.slice none 0 0] 33)
              rw [← e_v204] at hA
              have hA_ge : w4.heap.size ≤ v203.heap.size := hB_v203.size
              have hB_v204 := hB_v203.trans (hb_v204.mono hB_v203.size)
              clear e_v204
              replace hW5 := hW5.below hb_v204 (Array.getElem?_eq_some_iff.1 hW5).1
              have hS_v204 := HKr.out hB_v204
              refine hK.out _ _ (hS_v204) (fun hHeld => ?_)
              clear hK K
              try simp only [Act.put, List.getElem_toArray, List.getElem_cons_zero, List.getElem_cons_succ, List.setIfInBounds_toArray, List.set_cons_zero, List.set_cons_succ]
              obtain ⟨r0, f0⟩ := one_facts hA
              have hBW := below_set0 (hB_v204) hA_ge (.slice none 0 0)
              have hbW := heap_setCell_same v204 _ 0 _ _ (.slice none 0 0) hA
              have HbW : Hid _ := hbW
              have HBW : Hid _ := hBW
              have HSW : Hid _ := HKr.out hBW
              clear hbW hBW
              refine wpAnyH_ready (rs := [11]) (by kernel_rfl) (by simp) ?_
              refine AllReadyH.cons (i := 11) (o := ?o215) ?i215 (fun K hK => ?_) AllReadyH.nil
              case i215 => exact rfl
              go_simp
              refine hK.out _ _ (HSW.out) (fun hHeld => ?_)
              clear hK K
              try simp only [Act.put, List.getElem_toArray, List.getElem_cons_zero, List.getElem_cons_succ, List.setIfInBounds_toArray, List.set_cons_zero, List.set_cons_succ]
              refine wpAnyH_take (i := 12) (oi := ?o216) (v := ?v216) ?i216 (by kernel_rfl) (by kernel_rfl) (by kernel_rfl) ?q216 ?y216 (hHeld) ?r216
              case i216 => exact rfl
              case q216 => exact (fun _ _ _ h => h)
              case y216 =>
                refine Or.inl ⟨by rfl, ?_⟩
                intro w hSw
                (try dsimp only at hSw)
                go_simp
                first | done | rfl
              try simp only [Act.put, List.getElem_toArray, List.getElem_cons_zero, List.getElem_cons_succ, List.setIfInBounds_toArray, List.set_cons_zero, List.set_cons_succ]
              refine wpAnyH_done (by kernel_rfl) ?_ _
              go_wp2_with fail
              go_meet
              case rel => exact ⟨_, rfl, rfl, HbW.out, HBW.out, hA_ge⟩
          case g210 =>
            intro K hK
            go_simp
            obtain ⟨v205, e_v205⟩ : ∃ x, x = v202.alloc (.cells #[.slice none 0 0] 33) := ⟨_, rfl⟩
            rw [← e_v205]
            have hb_v205 : Below v202.heap.size v202 v205 := by rw [e_v205]; exact (Below.refl _ _).alloc (Nat.le_refl _) _
            have hA := heap_alloc_new v202 (.cells #[.slice none 0 0] 33)
            rw [← e_v205] at hA
            have hA_ge : w4.heap.size ≤ v202.heap.size := hB_v202.size
            have hB_v205 := hB_v202.trans (hb_v205.mono hB_v202.size)
            clear e_v205
            replace hW5 := hW5.below hb_v205 (Array.getElem?_eq_some_iff.1 hW5).1
            have hS_v205 := HKr.out hB_v205
            refine hK.out _ _ (hS_v205) (fun hHeld => ?_)
            clear hK K
            try simp only [Act.put, List.getElem_toArray, List.getElem_cons_zero, List.getElem_cons_succ, List.setIfInBounds_toArray, List.set_cons_zero, List.set_cons_succ]
            refine wpAnyH_ready (rs := [6]) (by kernel_rfl) (by simp) ?_
            refine AllReadyH.cons (i := 6) (o := ?o217) ?i217 ?g217 AllReadyH.nil
            case i217 => exact rfl
            case g217 =>
              intro K hK
              go_simp
              (with_reducible refine (H2 g5 v205 (hW5.row Hl.out) (HS4.out hB_v205)).mono ?_)
              rintro e v206 ⟨rfl, hb_v206⟩
              have hB_v206 := hB_v205.trans (hb_v206.mono hB_v205.size)
              replace hW5 := hW5.below hb_v206 (Array.getElem?_eq_some_iff.1 hW5).1
              replace hA := (hb_v206.block _ (Array.getElem?_eq_some_iff.1 hA).1).trans hA
              have hS_v206 := HKr.out hB_v206
              go_wp2_with fail
              refine hK.out _ _ (hS_v206) (fun hHeld => ?_)
              clear hK K
              try simp only [Act.put, List.getElem_toArray, List.getElem_cons_zero, List.getElem_cons_succ, List.setIfInBounds_toArray, List.set_cons_zero, List.set_cons_succ]
              refine wpAnyH_take (i := 7) (oi := ?o218) (v := ?v218) ?i218 (by kernel_rfl) (by kernel_rfl) (by kernel_rfl) ?q218 ?y218 (hHeld) ?r218
              case i218 => exact rfl
              case q218 => exact (fun _ _ _ h => h)
              case y218 =>
                refine Or.inl ⟨by rfl, ?_⟩
                intro w hSw
                (try dsimp only at hSw)
                go_simp
                first | done | rfl
              try simp only [Act.put, List.getElem_toArray, List.getElem_cons_zero, List.getElem_cons_succ, List.setIfInBounds_toArray, List.set_cons_zero, List.set_cons_succ]
              refine wpAnyH_take (i := 8) (oi := ?o219) (v := ?v219) ?i219 (by kernel_rfl) (by kernel_rfl) (by kernel_rfl) ?q219 ?y219 (hHeld) ?r219
              case i219 => exact rfl
              case q219 => exact (fun _ _ _ h => h)
              case y219 =>
                refine Or.inl ⟨by rfl, ?_⟩
                intro w hSw
                (try dsimp only at hSw)
                go_simp
                first | done | rfl
              try simp only [Act.put, List.getElem_toArray, List.getElem_cons_zero, List.getElem_cons_succ, List.setIfInBounds_toArray, List.set_cons_zero, List.set_cons_succ]
              refine wpAnyH_take (i := 9) (oi := ?o220) (v := ?v220) ?i220 (by kernel_rfl) (by kernel_rfl) (by kernel_rfl) ?q220 ?y220 (hHeld) ?r220
              case i220 => exact rfl
              case q220 => exact (fun _ _ _ h => h)
              case y220 =>
                refine Or.inl ⟨by rfl, ?_⟩
                intro w hSw
                (try dsimp only at hSw)
                go_simp
                first | done | rfl
              try simp only [Act.put, List.getElem_toArray, List.getElem_cons_zero, List.getElem_cons_succ, List.setIfInBounds_toArray, List.set_cons_zero, List.set_cons_succ]
              obtain ⟨r0, f0⟩ := one_facts hA
              have hBW := below_set0 (hB_v206) hA_ge (.slice none 0 0)
              have hbW := heap_setCell_same v206 _ 0 _ _ (.slice none 0 0) hA
              have HbW : Hid _ := hbW
              have HBW : Hid _ := hBW
              have HSW : Hid _ := HKr.out hBW
              clear hbW hBW
              refine wpAnyH_ready (rs := [11]) (by kernel_rfl) (by simp) ?_
              refine AllReadyH.cons (i := 11) (o := ?o221) ?i221 (fun K hK => ?_) AllReadyH.nil
              case i221 => exact rfl
              go_simp
              refine hK.out _ _ (HSW.out) (fun hHeld => ?_)
              clear hK K
              try simp only [Act.put, List.getElem_toArray, List.getElem_cons_zero, List.getElem_cons_succ, List.setIfInBounds_toArray, List.set_cons_zero, List.set_cons_succ]
              refine wpAnyH_take (i := 12) (oi := ?o222) (v := ?v222) ?i222 (by kernel_rfl) (by kernel_rfl) (by kernel_rfl) ?q222 ?y222 (hHeld) ?r222
              case i222 => exact rfl
              case q222 => exact (fun _ _ _ h => h)
              case y222 =>
                refine Or.inl ⟨by rfl, ?_⟩
                intro w hSw
                (try dsimp only at hSw)
                go_simp
                first | done | rfl
              try simp only [Act.put, List.getElem_toArray, List.getElem_cons_zero, List.getElem_cons_succ, List.setIfInBounds_toArray, List.set_cons_zero, List.set_cons_succ]
              refine wpAnyH_done (by kernel_rfl) ?_ _
              go_wp2_with fail
              go_meet
              case rel => exact ⟨_, rfl, rfl, HbW.out, HBW.out, hA_ge⟩
        case g208 =>
          intro K hK
          go_simp
          obtain ⟨v207, e_v207⟩ : ∃ x, x = v201.alloc (.cells #[.slice none 0 0] 33) := ⟨_, rfl⟩
          rw [← e_v207]
          have hb_v207 : Below v201.heap.size v201 v207 := by rw [e_v207]; exact (Below.refl _ _).alloc (Nat.le_refl _) _
          have hA := heap_alloc_new v201 (.cells #[.slice none 0 0] 33)
          rw [← e_v207] at hA
          have hA_ge : w4.heap.size ≤ v201.heap.size := hB_v201.size
          have hB_v207 := hB_v201.trans (hb_v207.mono hB_v201.size)
          clear e_v207
          replace hW5 := hW5.below hb_v207 (Array.getElem?_eq_some_iff.1 hW5).1
          have hS_v207 := HKr.out hB_v207
          refine hK.out _ _ (hS_v207) (fun hHeld => ?_)
          clear hK K
          try simp only [Act.put, List.getElem_toArray, List.getElem_cons_zero, List.getElem_cons_succ, List.setIfInBounds_toArray, List.set_cons_zero, List.set_cons_succ]
          refine wpAnyH_ready (rs := [5]) (by kernel_rfl) (by simp) ?_
          refine AllReadyH.cons (i := 5) (o := ?o223) ?i223 ?g223 AllReadyH.nil
          case i223 => exact rfl
          case g223 =>
            intro K hK
            go_simp
            (with_reducible refine (toWordM yt yn yl yh ya yp ys v207).mono ?_)
            rintro e v208 ⟨rfl, hb_v208⟩
            have hB_v208 := hB_v207.trans (hb_v208.mono hB_v207.size)
            replace hW5 := hW5.below hb_v208 (Array.getElem?_eq_some_iff.1 hW5).1
            replace hA := (hb_v208.block _ (Array.getElem?_eq_some_iff.1 hA).1).trans hA
            have hS_v208 := HKr.out hB_v208
            go_wp2_with fail
            refine hK.out _ _ (hS_v208) (fun hHeld => ?_)
            clear hK K
            try simp only [Act.put, List.getElem_toArray, List.getElem_cons_zero, List.getElem_cons_succ, List.setIfInBounds_toArray, List.set_cons_zero, List.set_cons_succ]
            refine wpAnyH_ready (rs := [6]) (by kernel_rfl) (by simp) ?_
            refine AllReadyH.cons (i := 6) (o := ?o224) ?i224 ?g224 AllReadyH.nil
            case i224 => exact rfl
            case g224 =>
              intro K hK
              go_simp
              (with_reducible refine (H2 g5 v208 (hW5.row Hl.out) (HS4.out hB_v208)).mono ?_)
              rintro e v209 ⟨rfl, hb_v209⟩
              have hB_v209 := hB_v208.trans (hb_v209.mono hB_v208.size)
              replace hW5 := hW5.below hb_v209 (Array.getElem?_eq_some_iff.1 hW5).1
              replace hA := (hb_v209.block _ (Array.getElem?_eq_some_iff.1 hA).1).trans hA
              have hS_v209 := HKr.out hB_v209
              go_wp2_with fail
              refine hK.out _ _ (hS_v209) (fun hHeld => ?_)
              clear hK K
              try simp only [Act.put, List.getElem_toArray, List.getElem_cons_zero, List.getElem_cons_succ, List.setIfInBounds_toArray, List.set_cons_zero, List.set_cons_succ]
              refine wpAnyH_take (i := 7) (oi := ?o225) (v := ?v225) ?i225 (by kernel_rfl) (by kernel_rfl) (by kernel_rfl) ?q225 ?y225 (hHeld) ?r225
              case i225 => exact rfl
              case q225 => exact (fun _ _ _ h => h)
              case y225 =>
                refine Or.inl ⟨by rfl, ?_⟩
                intro w hSw
                (try dsimp only at hSw)
                go_simp
                first | done | rfl
              try simp only [Act.put, List.getElem_toArray, List.getElem_cons_zero, List.getElem_cons_succ, List.setIfInBounds_toArray, List.set_cons_zero, List.set_cons_succ]
              refine wpAnyH_take (i := 8) (oi := ?o226) (v := ?v226) ?i226 (by kernel_rfl) (by kernel_rfl) (by kernel_rfl) ?q226 ?y226 (hHeld) ?r226
              case i226 => exact rfl
              case q226 => exact (fun _ _ _ h => h)
              case y226 =>
                refine Or.inl ⟨by rfl, ?_⟩
                intro w hSw
                (try dsimp only at hSw)
                go_simp
                first | done | rfl
              try simp only [Act.put, List.getElem_toArray, List.getElem_cons_zero, List.getElem_cons_succ, List.setIfInBounds_toArray, List.set_cons_zero, List.set_cons_succ]
              refine wpAnyH_take (i := 9) (oi := ?o227) (v := ?v227) ?i227 (by kernel_rfl) (by kernel_rfl) (by kernel_rfl) ?q227 ?y227 (hHeld) ?r227
              case i227 => exact rfl
              case q227 => exact (fun _ _ _ h => h)
              case y227 =>
                refine Or.inl ⟨by rfl, ?_⟩
                intro w hSw
                (try dsimp only at hSw)
                go_simp
                first | done | rfl
              try simp only [Act.put, List.getElem_toArray, List.getElem_cons_zero, List.getElem_cons_succ, List.setIfInBounds_toArray, List.set_cons_zero, List.set_cons_succ]
              obtain ⟨r0, f0⟩ := one_facts hA
              have hBW := below_set0 (hB_v209) hA_ge (.slice none 0 0)
              have hbW := heap_setCell_same v209 _ 0 _ _ (.slice none 0 0) hA
              have HbW : Hid _ := hbW
              have HBW : Hid _ := hBW
              have HSW : Hid _ := HKr.out hBW
              clear hbW hBW
              refine wpAnyH_ready (rs := [11]) (by kernel_rfl) (by simp) ?_
              refine AllReadyH.cons (i := 11) (o := ?o228) ?i228 (fun K hK => ?_) AllReadyH.nil
              case i228 => exact rfl
              go_simp
              refine hK.out _ _ (HSW.out) (fun hHeld => ?_)
              clear hK K
              try simp only [Act.put, List.getElem_toArray, List.getElem_cons_zero, List.getElem_cons_succ, List.setIfInBounds_toArray, List.set_cons_zero, List.set_cons_succ]
              refine wpAnyH_take (i := 12) (oi := ?o229) (v := ?v229) ?i229 (by kernel_rfl) (by kernel_rfl) (by kernel_rfl) ?q229 ?y229 (hHeld) ?r229
              case i229 => exact rfl
              case q229 => exact (fun _ _ _ h => h)
              case y229 =>
                refine Or.inl ⟨by rfl, ?_⟩
                intro w hSw
                (try dsimp only at hSw)
                go_simp
                first | done | rfl
              try simp only [Act.put, List.getElem_toArray, List.getElem_cons_zero, List.getElem_cons_succ, List.setIfInBounds_toArray, List.set_cons_zero, List.set_cons_succ]
              refine wpAnyH_done (by kernel_rfl) ?_ _
              go_wp2_with fail
              go_meet
              case rel => exact ⟨_, rfl, rfl, HbW.out, HBW.out, hA_ge⟩
      case g206 =>
        intro K hK
        go_simp
        obtain ⟨v210, e_v210⟩ : ∃ x, x = wS.alloc (.cells #[.slice none 0 0] 33) := ⟨_, rfl⟩
        rw [← e_v210]
        have hb_v210 : Below wS.heap.size wS v210 := by rw [e_v210]; exact (Below.refl _ _).alloc (Nat.le_refl _) _
        have hA := heap_alloc_new wS (.cells #[.slice none 0 0] 33)
        rw [← e_v210] at hA
        have hA_ge : w4.heap.size ≤ wS.heap.size := hB0.size
        have hB_v210 := hB0.trans (hb_v210.mono hB0.size)
        clear e_v210
        replace hW5 := hW5.below hb_v210 (Array.getElem?_eq_some_iff.1 hW5).1
        have hS_v210 := HKr.out hB_v210
        refine hK.out _ _ (hS_v210) (fun hHeld => ?_)
        clear hK K
        try simp only [Act.put, List.getElem_toArray, List.getElem_cons_zero, List.getElem_cons_succ, List.setIfInBounds_toArray, List.set_cons_zero, List.set_cons_succ]
        refine wpAnyH_ready (rs := [2]) (by kernel_rfl) (by simp) ?_
        refine AllReadyH.cons (i := 2) (o := ?o230) ?i230 ?g230 AllReadyH.nil
        case i230 => exact rfl
        case g230 =>
          intro K hK
          go_simp
          (with_reducible refine (toWordM xt xn xl xh xa xp xs v210).mono ?_)
          rintro e v211 ⟨rfl, hb_v211⟩
          have hB_v211 := hB_v210.trans (hb_v211.mono hB_v210.size)
          replace hW5 := hW5.below hb_v211 (Array.getElem?_eq_some_iff.1 hW5).1
          replace hA := (hb_v211.block _ (Array.getElem?_eq_some_iff.1 hA).1).trans hA
          have hS_v211 := HKr.out hB_v211
          go_wp2_with fail
          refine hK.out _ _ (hS_v211) (fun hHeld => ?_)
          clear hK K
          try simp only [Act.put, List.getElem_toArray, List.getElem_cons_zero, List.getElem_cons_succ, List.setIfInBounds_toArray, List.set_cons_zero, List.set_cons_succ]
          refine wpAnyH_ready (rs := [5]) (by kernel_rfl) (by simp) ?_
          refine AllReadyH.cons (i := 5) (o := ?o231) ?i231 ?g231 AllReadyH.nil
          case i231 => exact rfl
          case g231 =>
            intro K hK
            go_simp
            (with_reducible refine (toWordM yt yn yl yh ya yp ys v211).mono ?_)
            rintro e v212 ⟨rfl, hb_v212⟩
            have hB_v212 := hB_v211.trans (hb_v212.mono hB_v211.size)
            replace hW5 := hW5.below hb_v212 (Array.getElem?_eq_some_iff.1 hW5).1
            replace hA := (hb_v212.block _ (Array.getElem?_eq_some_iff.1 hA).1).trans hA
            have hS_v212 := HKr.out hB_v212
            go_wp2_with fail
            refine hK.out _ _ (hS_v212) (fun hHeld => ?_)
            clear hK K
            try simp only [Act.put, List.getElem_toArray, List.getElem_cons_zero, List.getElem_cons_succ, List.setIfInBounds_toArray, List.set_cons_zero, List.set_cons_succ]
            refine wpAnyH_ready (rs := [6]) (by kernel_rfl) (by simp) ?_
            refine AllReadyH.cons (i := 6) (o := ?o232) ?i232 ?g232 AllReadyH.nil
            case i232 => exact rfl
            case g232 =>
              intro K hK
              go_simp
              (with_reducible refine (H2 g5 v212 (hW5.row Hl.out) (HS4.out hB_v212)).mono ?_)
              rintro e v213 ⟨rfl, hb_v213⟩
              have hB_v213 := hB_v212.trans (hb_v213.mono hB_v212.size)
              replace hW5 := hW5.below hb_v213 (Array.getElem?_eq_some_iff.1 hW5).1
              replace hA := (hb_v213.block _ (Array.getElem?_eq_some_iff.1 hA).1).trans hA
              have hS_v213 := HKr.out hB_v213
              go_wp2_with fail
              refine hK.out _ _ (hS_v213) (fun hHeld => ?_)
              clear hK K
              try simp only [Act.put, List.getElem_toArray, List.getElem_cons_zero, List.getElem_cons_succ, List.setIfInBounds_toArray, List.set_cons_zero, List.set_cons_succ]
              refine wpAnyH_take (i := 7) (oi := ?o233) (v := ?v233) ?i233 (by kernel_rfl) (by kernel_rfl) (by kernel_rfl) ?q233 ?y233 (hHeld) ?r233
              case i233 => exact rfl
              case q233 => exact (fun _ _ _ h => h)
              case y233 =>
                refine Or.inl ⟨by rfl, ?_⟩
                intro w hSw
                (try dsimp only at hSw)
                go_simp
                first | done | rfl
              try simp only [Act.put, List.getElem_toArray, List.getElem_cons_zero, List.getElem_cons_succ, List.setIfInBounds_toArray, List.set_cons_zero, List.set_cons_succ]
              refine wpAnyH_take (i := 8) (oi := ?o234) (v := ?v234) ?i234 (by kernel_rfl) (by kernel_rfl) (by kernel_rfl) ?q234 ?y234 (hHeld) ?r234
              case i234 => exact rfl
              case q234 => exact (fun _ _ _ h => h)
              case y234 =>
                refine Or.inl ⟨by rfl, ?_⟩
                intro w hSw
                (try dsimp only at hSw)
                go_simp
                first | done | rfl
              try simp only [Act.put, List.getElem_toArray, List.getElem_cons_zero, List.getElem_cons_succ, List.setIfInBounds_toArray, List.set_cons_zero, List.set_cons_succ]
              refine wpAnyH_take (i := 9) (oi := ?o235) (v := ?v235) ?i235 (by kernel_rfl) (by kernel_rfl) (by kernel_rfl) ?q235 ?y235 (hHeld) ?r235
              case i235 => exact rfl
              case q235 => exact (fun _ _ _ h => h)
              case y235 =>
                refine Or.inl ⟨by rfl, ?_⟩
                intro w hSw
                (try dsimp only at hSw)
                go_simp
                first | done | rfl
              try simp only [Act.put, List.getElem_toArray, List.getElem_cons_zero, List.getElem_cons_succ, List.setIfInBounds_toArray, List.set_cons_zero, List.set_cons_succ]
              obtain ⟨r0, f0⟩ := one_facts hA
              have hBW := below_set0 (hB_v213) hA_ge (.slice none 0 0)
              have hbW := heap_setCell_same v213 _ 0 _ _ (.slice none 0 0) hA
              have HbW : Hid _ := hbW
              have HBW : Hid _ := hBW
              have HSW : Hid _ := HKr.out hBW
              clear hbW hBW
              refine wpAnyH_ready (rs := [11]) (by kernel_rfl) (by simp) ?_
              refine AllReadyH.cons (i := 11) (o := ?o236) ?i236 (fun K hK => ?_) AllReadyH.nil
              case i236 => exact rfl
              go_simp
              refine hK.out _ _ (HSW.out) (fun hHeld => ?_)
              clear hK K
              try simp only [Act.put, List.getElem_toArray, List.getElem_cons_zero, List.getElem_cons_succ, List.setIfInBounds_toArray, List.set_cons_zero, List.set_cons_succ]
              refine wpAnyH_take (i := 12) (oi := ?o237) (v := ?v237) ?i237 (by kernel_rfl) (by kernel_rfl) (by kernel_rfl) ?q237 ?y237 (hHeld) ?r237
              case i237 => exact rfl
              case q237 => exact (fun _ _ _ h => h)
              case y237 =>
                refine Or.inl ⟨by rfl, ?_⟩
                intro w hSw
                (try dsimp only at hSw)
                go_simp
                first | done | rfl
              try simp only [Act.put, List.getElem_toArray, List.getElem_cons_zero, List.getElem_cons_succ, List.setIfInBounds_toArray, List.set_cons_zero, List.set_cons_succ]
              refine wpAnyH_done (by kernel_rfl) ?_ _
              go_wp2_with fail
              go_meet
              case rel => exact ⟨_, rfl, rfl, HbW.out, HBW.out, hA_ge⟩
    case rest =>
      obtain ⟨g13, rfl, rfl, h13, hbd, hge13⟩ := hcut
      have hsz5 : w4.heap.size ≤ wc.heap.size := hbd.size
      have k : ∀ {q : Nat} {o : Obj}, w4.heap[q]? = some o → wc.heap[q]? = some o := fun e => (hbd.block _ (Array.getElem?_eq_some_iff.1 e).1).trans e
      have hg13 : g13 < wc.heap.size := (Array.getElem?_eq_some_iff.1 h13).1
      have S5 : St2 w wc gm g10 g12 g13 g10 g5 g13 _ (.cells #[.bool xt, .int .i64 xn, .int .i64 xl, .int .i64 xh, .int .i64 xa, .int .i64 xp, .int .i64 xs] 47 (0, 0)) (.cells #[.bool yt, .int .i64 yn, .int .i64 yl, .int .i64 yh, .int .i64 ya, .int .i64 yp, .int .i64 ys] 47 (0, 0)) _ _ _ _ _ _ := ⟨k Hm4.out, k Hx4.out, k Hy4.out, k H104.out, k H124.out, h13, k Ho4.out, k HW4.out, h13, by rw [Hg.out]; exact Hb4.out.trans (hbd.mono (by omega))⟩
      have HST : Hid _ := S5
      clear S5 k hbd h13 Hm4 Hx4 Hy4 H104 H124 Ho4 HW4 Hb4 HS4 HKs 
      have hst := HST.out
      obtain ⟨cm, _⟩ := one_facts hst.m
      obtain ⟨c10, _⟩ := one_facts hst.b8
      obtain ⟨c12, _⟩ := one_facts hst.b10
      obtain ⟨c13, _⟩ := one_facts hst.b11
      clear hst
      go_wp2_with fail
      refine (eqM none 0 0 [] none 0 wc (nil_row _) (nil_row _) (by omega)).mono ?_
      rintro e w9 ⟨rfl, hb_w9⟩
      have hst := HST.out.next hb_w9
      clear HST cm c10 c12 c13 hb_w9
      have HST : Hid _ := hst
      clear hst
      have hst := HST.out
      obtain ⟨cm, _⟩ := one_facts hst.m
      obtain ⟨c10, _⟩ := one_facts hst.b8
      obtain ⟨c12, _⟩ := one_facts hst.b10
      obtain ⟨c13, _⟩ := one_facts hst.b11
      clear hst
      go_wp2_with fail
      have HK : Hid (∀ {wx : World}, Below w9.heap.size w9 wx → St2 w wx gm g10 g12 g13 g10 g5 g13 _ (.cells #[.bool xt, .int .i64 xn, .int .i64 xl, .int .i64 xh, .int .i64 xa, .int .i64 xp, .int .i64 xs] 47 (0, 0)) (.cells #[.bool yt, .int .i64 yn, .int .i64 yl, .int .i64 yh, .int .i64 ya, .int .i64 yp, .int .i64 ys] 47 (0, 0)) _ _ _ _ _ _) := fun hb => HST.out.next hb
      have HKc : Hid (∀ {wx : World}, Below w9.heap.size w9 wx → wx.cell? ⟨g12, 0, none⟩ = some (.slice (some ⟨g5, 0, none⟩) n n) ∧ wx.cell? ⟨gm, 0, none⟩ = some (.slice a n c)) := fun hb => ⟨(one_facts (HK.out hb).b10).1, (one_facts (HK.out hb).m).1⟩
      refine wp_region_held_drew (S := fun wx => wx.cell? ⟨g12, 0, none⟩ = some (.slice (some ⟨g5, 0, none⟩) n n) ∧ wx.cell? ⟨gm, 0, none⟩ = some (.slice a n c)) (by kernel_rfl) (HKc.out (Below.refl _ _).drew) (fun hHeld => ?_)
      have hB0 : Below w9.heap.size w9 w9.drew := (Below.refl _ _).drew
      generalize w9.drew = wS at hB0 hHeld ⊢
      refine wpAnyH_take (i := 0) (oi := ?o501) (v := ?v501) ?i501 (by kernel_rfl) (by kernel_rfl) (by kernel_rfl) ?q501 ?y501 (hHeld) ?r501
      case i501 => exact rfl
      case q501 => exact (fun _ _ _ h => h)
      case y501 =>
        refine Or.inl ⟨by rfl, ?_⟩
        intro w hSw
        (try dsimp only at hSw)
        go_simp
        first | done | rfl
      try simp only [Act.put, List.getElem_toArray, List.getElem_cons_zero, List.getElem_cons_succ, List.setIfInBounds_toArray, List.set_cons_zero, List.set_cons_succ]
      refine wpAnyH_take (i := 1) (oi := ?o502) (v := ?v502) ?i502 (by kernel_rfl) (by kernel_rfl) (by kernel_rfl) ?q502 ?y502 (hHeld) ?r502
      case i502 => exact rfl
      case q502 => exact (fun _ _ _ h => h)
      case y502 =>
        refine Or.inl ⟨by rfl, ?_⟩
        intro w hSw
        (try dsimp only at hSw)
        go_simp
        first | done | rfl
      try simp only [Act.put, List.getElem_toArray, List.getElem_cons_zero, List.getElem_cons_succ, List.setIfInBounds_toArray, List.set_cons_zero, List.set_cons_succ]
      refine wpAnyH_ready (rs := [2]) (by kernel_rfl) (by simp) ?_
      refine AllReadyH.cons (i := 2) (o := ?o503) ?i503 (fun K hK => ?_) AllReadyH.nil
      case i503 => exact rfl
      go_simp
      (with_reducible refine (toM a n c l wS (Hh.out.below (HK.out hB0).below) hn).mono ?_)
      rintro e w10 ⟨ga, rfl, hga, hWa, hb10⟩
      have hB10 := hB0.trans (hb10.mono hB0.size)
      go_wp2_with fail
      refine hK.out _ _ (HKc.out hB10) (fun hHeld => ?_)
      clear hK K
      try simp only [Act.put, List.getElem_toArray, List.getElem_cons_zero, List.getElem_cons_succ, List.setIfInBounds_toArray, List.set_cons_zero, List.set_cons_succ]
      refine wpAnyH_ready (rs := [3]) (by kernel_rfl) (by simp) ?_
      refine AllReadyH.cons (i := 3) (o := ?o504) ?i504 (fun K hK => ?_) AllReadyH.nil
      case i504 => exact rfl
      go_simp
      (with_reducible refine (eqM (some ⟨g5, 0, none⟩) n n l (some ⟨ga, 0, none⟩) n w10 (WB.row (wb (HK.out hB10).b5) Hl.out) (hWa.row Hl.out) hn).mono ?_)
      rintro e w11 ⟨rfl, hb11⟩
      have hB11 := hB10.trans (hb11.mono hB10.size)
      go_wp2_with fail
      refine hK.out _ _ (HKc.out hB11) (fun hHeld => ?_)
      clear hK K
      try simp only [Act.put, List.getElem_toArray, List.getElem_cons_zero, List.getElem_cons_succ, List.setIfInBounds_toArray, List.set_cons_zero, List.set_cons_succ]
      refine wpAnyH_take (i := 4) (oi := ?o505) (v := ?v505) ?i505 (by kernel_rfl) (by kernel_rfl) (by kernel_rfl) ?q505 ?y505 (hHeld) ?r505
      case i505 => exact rfl
      case q505 => exact (fun _ _ _ h => h)
      case y505 =>
        refine Or.inl ⟨by rfl, ?_⟩
        intro w hSw
        (try dsimp only at hSw)
        go_simp
        first | done | rfl
      try simp only [Act.put, List.getElem_toArray, List.getElem_cons_zero, List.getElem_cons_succ, List.setIfInBounds_toArray, List.set_cons_zero, List.set_cons_succ]
      refine wpAnyH_done (by kernel_rfl) ?_ _
      have hst := HK.out hB11
      clear HST cm c10 c12 c13 HK HKc hB0 hb10 hB10 hb11 hB11 hHeld hWa hga
      have HST : Hid _ := hst
      clear hst
      have hst := HST.out
      obtain ⟨cm, _⟩ := one_facts hst.m
      obtain ⟨c10, _⟩ := one_facts hst.b8
      obtain ⟨c12, _⟩ := one_facts hst.b10
      obtain ⟨c13, _⟩ := one_facts hst.b11
      clear hst
      go_wp2_with fail
      refine (markM g5 n n l w11 (wb HST.out.b5) Hl.out hn).mono ?_
      rintro e w12 ⟨rfl, hW12, hbut12⟩
      have hst := HST.out.but5 hbut12 hW12 (by rw [Hg.out]; omega) (by omega) (by omega) (by omega) (by omega) (by omega) (by omega) (by omega) (by omega)
      clear HST cm c10 c12 c13 hbut12 hW12
      have HST : Hid _ := hst
      clear hst
      have hpos : ¬ (1 + 7 * (n : Int) < 0) := by omega
      have hst := HST.out
      obtain ⟨cm, _⟩ := one_facts hst.m
      obtain ⟨c10, _⟩ := one_facts hst.b8
      obtain ⟨c12, _⟩ := one_facts hst.b10
      obtain ⟨c13, _⟩ := one_facts hst.b11
      clear hst
      go_wp2_with fail
      refine (eqM none 0 0 [] none 0 w12 (nil_row _) (nil_row _) (by omega)).mono ?_
      rintro e w13 ⟨rfl, hb_w13⟩
      have hst := HST.out.next hb_w13
      clear HST cm c10 c12 c13 hb_w13
      have HST : Hid _ := hst
      clear hst
      have hst := HST.out
      obtain ⟨cm, _⟩ := one_facts hst.m
      obtain ⟨c10, _⟩ := one_facts hst.b8
      obtain ⟨c12, _⟩ := one_facts hst.b10
      obtain ⟨c13, _⟩ := one_facts hst.b11
      clear hst
      go_wp2_with fail
      refine (markM0 none 0 w13).mono ?_
      rintro e w14 ⟨rfl, o14, rfl⟩
      have hb_w14 : Below w13.heap.size w13 (w13.alloc o14) := (Below.refl _ _).alloc (Nat.le_refl _) _
      generalize w13.alloc o14 = w14 at hb_w14 ⊢
      have hst := HST.out.next hb_w14
      clear HST cm c10 c12 c13 hb_w14
      have HST : Hid _ := hst
      clear hst
      have hst := HST.out
      obtain ⟨cm, _⟩ := one_facts hst.m
      obtain ⟨c10, _⟩ := one_facts hst.b8
      obtain ⟨c12, _⟩ := one_facts hst.b10
      obtain ⟨c13, _⟩ := one_facts hst.b11
      clear hst
      go_wp2_with fail
      refine (heldM0 none 0 w14).mono ?_
      rintro e w15 ⟨rfl, o15, rfl⟩
      have hb_w15 : Below w14.heap.size w14 (w14.alloc o15) := (Below.refl _ _).alloc (Nat.le_refl _) _
      generalize w14.alloc o15 = w15 at hb_w15 ⊢
      have hst := HST.out.next hb_w15
      clear HST cm c10 c12 c13 hb_w15
      have HST : Hid _ := hst
      clear hst
      go_upto_region 24 with fail
      have HKs : Hid (∀ {wx : World}, Below w15.heap.size w15 wx → wx.cell? ⟨gm, 0, none⟩ = some (.slice a n c) ∧ wx.cell? ⟨gm + 1, 0, none⟩ = some (.bool xt) ∧ wx.cell? ⟨gm + 1, 1, none⟩ = some (.int .i64 xn) ∧ wx.cell? ⟨gm + 1, 2, none⟩ = some (.int .i64 xl) ∧ wx.cell? ⟨gm + 1, 3, none⟩ = some (.int .i64 xh) ∧ wx.cell? ⟨gm + 1, 4, none⟩ = some (.int .i64 xa) ∧ wx.cell? ⟨gm + 1, 5, none⟩ = some (.int .i64 xp) ∧ wx.cell? ⟨gm + 1, 6, none⟩ = some (.int .i64 xs) ∧ wx.cell? ⟨gm + 2, 0, none⟩ = some (.bool yt) ∧ wx.cell? ⟨gm + 2, 1, none⟩ = some (.int .i64 yn) ∧ wx.cell? ⟨gm + 2, 2, none⟩ = some (.int .i64 yl) ∧ wx.cell? ⟨gm + 2, 3, none⟩ = some (.int .i64 yh) ∧ wx.cell? ⟨gm + 2, 4, none⟩ = some (.int .i64 ya) ∧ wx.cell? ⟨gm + 2, 5, none⟩ = some (.int .i64 yp) ∧ wx.cell? ⟨gm + 2, 6, none⟩ = some (.int .i64 ys)) := fun hb => ⟨(one_facts (HST.out.next hb).m).1, and7 (row7 (HST.out.next hb).bx) (row7 (HST.out.next hb).by_)⟩
      have HW15 : Hid (∀ {wx : World}, Below w15.heap.size w15 wx → WRow wx a n l) := fun hb => Hh.out.below (HST.out.next hb).below
      have HS15 : Hid (∀ {wx : World}, Below w15.heap.size w15 wx → Sents wx p t b) := fun hb => HS.out.below (HST.out.next hb).below
      go_cut [18, 19] from 20 to 116 (fun s18 s19 wc => ∃ gA, s18 = .pointer (some ⟨gA, 0, none⟩) ∧ s19 = .int .i64 tr ∧ wc.heap[gA]? = some (.cells #[.slice none 0 0] 33 (0, 0)) ∧ Below w15.heap.size w15 wc ∧ w15.heap.size ≤ gA)
      case first =>
        have HKr : Hid (∀ {wx : World}, Below w15.heap.size w15 wx → wx.cell? ⟨gm, 0, none⟩ = some (.slice a n c) ∧ wx.cell? ⟨gm + 1, 0, none⟩ = some (.bool xt) ∧ wx.cell? ⟨gm + 1, 1, none⟩ = some (.int .i64 xn) ∧ wx.cell? ⟨gm + 1, 2, none⟩ = some (.int .i64 xl) ∧ wx.cell? ⟨gm + 1, 3, none⟩ = some (.int .i64 xh) ∧ wx.cell? ⟨gm + 1, 4, none⟩ = some (.int .i64 xa) ∧ wx.cell? ⟨gm + 1, 5, none⟩ = some (.int .i64 xp) ∧ wx.cell? ⟨gm + 1, 6, none⟩ = some (.int .i64 xs) ∧ wx.cell? ⟨gm + 2, 0, none⟩ = some (.bool yt) ∧ wx.cell? ⟨gm + 2, 1, none⟩ = some (.int .i64 yn) ∧ wx.cell? ⟨gm + 2, 2, none⟩ = some (.int .i64 yl) ∧ wx.cell? ⟨gm + 2, 3, none⟩ = some (.int .i64 yh) ∧ wx.cell? ⟨gm + 2, 4, none⟩ = some (.int .i64 ya) ∧ wx.cell? ⟨gm + 2, 5, none⟩ = some (.int .i64 yp) ∧ wx.cell? ⟨gm + 2, 6, none⟩ = some (.int .i64 ys)) := HKs.out
        refine wp_region_held_drew (S := fun wx => wx.cell? ⟨gm, 0, none⟩ = some (.slice a n c) ∧ wx.cell? ⟨gm + 1, 0, none⟩ = some (.bool xt) ∧ wx.cell? ⟨gm + 1, 1, none⟩ = some (.int .i64 xn) ∧ wx.cell? ⟨gm + 1, 2, none⟩ = some (.int .i64 xl) ∧ wx.cell? ⟨gm + 1, 3, none⟩ = some (.int .i64 xh) ∧ wx.cell? ⟨gm + 1, 4, none⟩ = some (.int .i64 xa) ∧ wx.cell? ⟨gm + 1, 5, none⟩ = some (.int .i64 xp) ∧ wx.cell? ⟨gm + 1, 6, none⟩ = some (.int .i64 xs) ∧ wx.cell? ⟨gm + 2, 0, none⟩ = some (.bool yt) ∧ wx.cell? ⟨gm + 2, 1, none⟩ = some (.int .i64 yn) ∧ wx.cell? ⟨gm + 2, 2, none⟩ = some (.int .i64 yl) ∧ wx.cell? ⟨gm + 2, 3, none⟩ = some (.int .i64 yh) ∧ wx.cell? ⟨gm + 2, 4, none⟩ = some (.int .i64 ya) ∧ wx.cell? ⟨gm + 2, 5, none⟩ = some (.int .i64 yp) ∧ wx.cell? ⟨gm + 2, 6, none⟩ = some (.int .i64 ys)) (by kernel_rfl) (HKr.out (Below.refl _ _).drew) (fun hHeld => ?_)
        have hB0 : Below w15.heap.size w15 w15.drew := (Below.refl _ _).drew
        generalize w15.drew = wS at hB0  hHeld ⊢
        refine wpAnyH_take (i := 0) (oi := ?o401) (v := ?v401) ?i401 (by kernel_rfl) (by kernel_rfl) (by kernel_rfl) ?q401 ?y401 (hHeld) ?r401
        case i401 => exact rfl
        case q401 => exact (fun _ _ _ h => h)
        case y401 =>
          refine Or.inl ⟨by rfl, ?_⟩
          intro w hSw
          (try dsimp only at hSw)
          go_simp
          first | done | rfl
        try simp only [Act.put, List.getElem_toArray, List.getElem_cons_zero, List.getElem_cons_succ, List.setIfInBounds_toArray, List.set_cons_zero, List.set_cons_succ]
        refine wpAnyH_take (i := 2) (oi := ?o402) (v := ?v402) ?i402 (by kernel_rfl) (by kernel_rfl) (by kernel_rfl) ?q402 ?y402 (hHeld) ?r402
        case i402 => exact rfl
        case q402 => exact (fun _ _ _ h => h)
        case y402 =>
          refine Or.inl ⟨by rfl, ?_⟩
          intro w hSw
          (try dsimp only at hSw)
          go_simp
          first | done | rfl
        try simp only [Act.put, List.getElem_toArray, List.getElem_cons_zero, List.getElem_cons_succ, List.setIfInBounds_toArray, List.set_cons_zero, List.set_cons_succ]
        refine wpAnyH_take (i := 4) (oi := ?o403) (v := ?v403) ?i403 (by kernel_rfl) (by kernel_rfl) (by kernel_rfl) ?q403 ?y403 (hHeld) ?r403
        case i403 => exact rfl
        case q403 => exact (fun _ _ _ h => h)
        case y403 =>
          refine Or.inl ⟨by rfl, ?_⟩
          intro w hSw
          (try dsimp only at hSw)
          go_simp
          first | done | rfl
        try simp only [Act.put, List.getElem_toArray, List.getElem_cons_zero, List.getElem_cons_succ, List.setIfInBounds_toArray, List.set_cons_zero, List.set_cons_succ]
        refine wpAnyH_take (i := 5) (oi := ?o404) (v := ?v404) ?i404 (by kernel_rfl) (by kernel_rfl) (by kernel_rfl) ?q404 ?y404 (hHeld) ?r404
        case i404 => exact rfl
        case q404 => exact (fun _ _ _ h => h)
        case y404 =>
          refine Or.inl ⟨by rfl, ?_⟩
          intro w hSw
          (try dsimp only at hSw)
          go_simp
          first | done | rfl
        try simp only [Act.put, List.getElem_toArray, List.getElem_cons_zero, List.getElem_cons_succ, List.setIfInBounds_toArray, List.set_cons_zero, List.set_cons_succ]
        refine wpAnyH_ready (rs := [1, 11]) (by kernel_rfl) (by simp) ?_
        refine AllReadyH.cons (i := 1) (o := ?o405) ?i405 ?g405 (AllReadyH.cons (i := 11) (o := ?o406) ?i406 ?g406 AllReadyH.nil)
        case i405 => exact rfl
        case i406 => exact rfl
        case g405 =>
          intro K hK
          go_simp
          (with_reducible refine (toM a n c l wS (HW15.out hB0) hn).mono ?_)
          rintro e v401 ⟨g, rfl, hgg, hW, hb_v401⟩
          have hB_v401 := hB0.trans (hb_v401.mono hB0.size)
          have hS_v401 := HKr.out hB_v401
          go_wp2_with fail
          refine hK.out _ _ (hS_v401) (fun hHeld => ?_)
          clear hK K
          try simp only [Act.put, List.getElem_toArray, List.getElem_cons_zero, List.getElem_cons_succ, List.setIfInBounds_toArray, List.set_cons_zero, List.set_cons_succ]
          refine wpAnyH_ready (rs := [3, 11]) (by kernel_rfl) (by simp) ?_
          refine AllReadyH.cons (i := 3) (o := ?o407) ?i407 ?g407 (AllReadyH.cons (i := 11) (o := ?o408) ?i408 ?g408 AllReadyH.nil)
          case i407 => exact rfl
          case i408 => exact rfl
          case g407 =>
            intro K hK
            go_simp
            (with_reducible refine (toWordM xt xn xl xh xa xp xs v401).mono ?_)
            rintro e v402 ⟨rfl, hb_v402⟩
            have hB_v402 := hB_v401.trans (hb_v402.mono hB_v401.size)
            replace hW := hW.below hb_v402 (Array.getElem?_eq_some_iff.1 hW).1
            have hS_v402 := HKr.out hB_v402
            go_wp2_with fail
            refine hK.out _ _ (hS_v402) (fun hHeld => ?_)
            clear hK K
            try simp only [Act.put, List.getElem_toArray, List.getElem_cons_zero, List.getElem_cons_succ, List.setIfInBounds_toArray, List.set_cons_zero, List.set_cons_succ]
            refine wpAnyH_ready (rs := [6, 11]) (by kernel_rfl) (by simp) ?_
            refine AllReadyH.cons (i := 6) (o := ?o409) ?i409 ?g409 (AllReadyH.cons (i := 11) (o := ?o410) ?i410 ?g410 AllReadyH.nil)
            case i409 => exact rfl
            case i410 => exact rfl
            case g409 =>
              intro K hK
              go_simp
              (with_reducible refine (toWordM yt yn yl yh ya yp ys v402).mono ?_)
              rintro e v403 ⟨rfl, hb_v403⟩
              have hB_v403 := hB_v402.trans (hb_v403.mono hB_v402.size)
              replace hW := hW.below hb_v403 (Array.getElem?_eq_some_iff.1 hW).1
              have hS_v403 := HKr.out hB_v403
              go_wp2_with fail
              refine hK.out _ _ (hS_v403) (fun hHeld => ?_)
              clear hK K
              try simp only [Act.put, List.getElem_toArray, List.getElem_cons_zero, List.getElem_cons_succ, List.setIfInBounds_toArray, List.set_cons_zero, List.set_cons_succ]
              refine wpAnyH_ready (rs := [7, 11]) (by kernel_rfl) (by simp) ?_
              refine AllReadyH.cons (i := 7) (o := ?o411) ?i411 ?g411 (AllReadyH.cons (i := 11) (o := ?o412) ?i412 ?g412 AllReadyH.nil)
              case i411 => exact rfl
              case i412 => exact rfl
              case g411 =>
                intro K hK
                go_simp
                (with_reducible refine (H2 g v403 (hW.row Hl.out) (HS15.out hB_v403)).mono ?_)
                rintro e v404 ⟨rfl, hb_v404⟩
                have hB_v404 := hB_v403.trans (hb_v404.mono hB_v403.size)
                replace hW := hW.below hb_v404 (Array.getElem?_eq_some_iff.1 hW).1
                have hS_v404 := HKr.out hB_v404
                go_wp2_with fail
                refine hK.out _ _ (hS_v404) (fun hHeld => ?_)
                clear hK K
                try simp only [Act.put, List.getElem_toArray, List.getElem_cons_zero, List.getElem_cons_succ, List.setIfInBounds_toArray, List.set_cons_zero, List.set_cons_succ]
                refine wpAnyH_take (i := 8) (oi := ?o413) (v := ?v413) ?i413 (by kernel_rfl) (by kernel_rfl) (by kernel_rfl) ?q413 ?y413 (hHeld) ?r413
                case i413 => exact rfl
                case q413 => exact (fun _ _ _ h => h)
                case y413 =>
                  refine Or.inl ⟨by rfl, ?_⟩
                  intro w hSw
                  (try dsimp only at hSw)
                  go_simp
                  first | done | rfl
                try simp only [Act.put, List.getElem_toArray, List.getElem_cons_zero, List.getElem_cons_succ, List.setIfInBounds_toArray, List.set_cons_zero, List.set_cons_succ]
                refine wpAnyH_take (i := 9) (oi := ?o414) (v := ?v414) ?i414 (by kernel_rfl) (by kernel_rfl) (by kernel_rfl) ?q414 ?y414 (hHeld) ?r414
                case i414 => exact rfl
                case q414 => exact (fun _ _ _ h => h)
                case y414 =>
                  refine Or.inl ⟨by rfl, ?_⟩
                  intro w hSw
                  (try dsimp only at hSw)
                  go_simp
                  first | done | rfl
                try simp only [Act.put, List.getElem_toArray, List.getElem_cons_zero, List.getElem_cons_succ, List.setIfInBounds_toArray, List.set_cons_zero, List.set_cons_succ]
                refine wpAnyH_take (i := 10) (oi := ?o415) (v := ?v415) ?i415 (by kernel_rfl) (by kernel_rfl) (by kernel_rfl) ?q415 ?y415 (hHeld) ?r415
                case i415 => exact rfl
                case q415 => exact (fun _ _ _ h => h)
                case y415 =>
                  refine Or.inl ⟨by rfl, ?_⟩
                  intro w hSw
                  (try dsimp only at hSw)
                  go_simp
                  first | done | rfl
                try simp only [Act.put, List.getElem_toArray, List.getElem_cons_zero, List.getElem_cons_succ, List.setIfInBounds_toArray, List.set_cons_zero, List.set_cons_succ]
                refine wpAnyH_ready (rs := [11]) (by kernel_rfl) (by simp) ?_
                refine AllReadyH.cons (i := 11) (o := ?o416) ?i416 ?g416 AllReadyH.nil
                case i416 => exact rfl
                case g416 =>
                  intro K hK
                  go_simp
                  obtain ⟨v405, e_v405⟩ : ∃ x, x = v404.alloc (.cells #[.slice none 0 0] 33) := ⟨_, rfl⟩
                  rw [← e_v405]
                  have hb_v405 : Below v404.heap.size v404 v405 := by rw [e_v405]; exact (Below.refl _ _).alloc (Nat.le_refl _) _
                  have hA := heap_alloc_new v404 (.cells #[.slice none 0 0] 33)
                  rw [← e_v405] at hA
                  have hA_ge : w15.heap.size ≤ v404.heap.size := hB_v404.size
                  have hB_v405 := hB_v404.trans (hb_v405.mono hB_v404.size)
                  clear e_v405
                  replace hW := hW.below hb_v405 (Array.getElem?_eq_some_iff.1 hW).1
                  have hS_v405 := HKr.out hB_v405
                  refine hK.out _ _ (hS_v405) (fun hHeld => ?_)
                  clear hK K
                  try simp only [Act.put, List.getElem_toArray, List.getElem_cons_zero, List.getElem_cons_succ, List.setIfInBounds_toArray, List.set_cons_zero, List.set_cons_succ]
                  obtain ⟨r0, f0⟩ := one_facts hA
                  have hBW := below_set0 (hB_v405) hA_ge (.slice none 0 0)
                  have hbW := heap_setCell_same v405 _ 0 _ _ (.slice none 0 0) hA
                  have HbW : Hid _ := hbW
                  have HBW : Hid _ := hBW
                  have HSW : Hid _ := HKr.out hBW
                  clear hbW hBW
                  refine wpAnyH_ready (rs := [12]) (by kernel_rfl) (by simp) ?_
                  refine AllReadyH.cons (i := 12) (o := ?o417) ?i417 (fun K hK => ?_) AllReadyH.nil
                  case i417 => exact rfl
                  go_simp
                  refine hK.out _ _ (HSW.out) (fun hHeld => ?_)
                  clear hK K
                  try simp only [Act.put, List.getElem_toArray, List.getElem_cons_zero, List.getElem_cons_succ, List.setIfInBounds_toArray, List.set_cons_zero, List.set_cons_succ]
                  refine wpAnyH_take (i := 13) (oi := ?o418) (v := ?v418) ?i418 (by kernel_rfl) (by kernel_rfl) (by kernel_rfl) ?q418 ?y418 (hHeld) ?r418
                  case i418 => exact rfl
                  case q418 => exact (fun _ _ _ h => h)
                  case y418 =>
                    refine Or.inl ⟨by rfl, ?_⟩
                    intro w hSw
                    (try dsimp only at hSw)
                    go_simp
                    first | done | rfl
                  try simp only [Act.put, List.getElem_toArray, List.getElem_cons_zero, List.getElem_cons_succ, List.setIfInBounds_toArray, List.set_cons_zero, List.set_cons_succ]
                  refine wpAnyH_done (by kernel_rfl) ?_ _
                  go_wp2_with fail
                  go_meet
                  case rel => exact ⟨_, rfl, rfl, HbW.out, HBW.out, hA_ge⟩
              case g412 =>
                intro K hK
                go_simp
                obtain ⟨v406, e_v406⟩ : ∃ x, x = v403.alloc (.cells #[.slice none 0 0] 33) := ⟨_, rfl⟩
                rw [← e_v406]
                have hb_v406 : Below v403.heap.size v403 v406 := by rw [e_v406]; exact (Below.refl _ _).alloc (Nat.le_refl _) _
                have hA := heap_alloc_new v403 (.cells #[.slice none 0 0] 33)
                rw [← e_v406] at hA
                have hA_ge : w15.heap.size ≤ v403.heap.size := hB_v403.size
                have hB_v406 := hB_v403.trans (hb_v406.mono hB_v403.size)
                clear e_v406
                replace hW := hW.below hb_v406 (Array.getElem?_eq_some_iff.1 hW).1
                have hS_v406 := HKr.out hB_v406
                refine hK.out _ _ (hS_v406) (fun hHeld => ?_)
                clear hK K
                try simp only [Act.put, List.getElem_toArray, List.getElem_cons_zero, List.getElem_cons_succ, List.setIfInBounds_toArray, List.set_cons_zero, List.set_cons_succ]
                refine wpAnyH_ready (rs := [7]) (by kernel_rfl) (by simp) ?_
                refine AllReadyH.cons (i := 7) (o := ?o419) ?i419 ?g419 AllReadyH.nil
                case i419 => exact rfl
                case g419 =>
                  intro K hK
                  go_simp
                  (with_reducible refine (H2 g v406 (hW.row Hl.out) (HS15.out hB_v406)).mono ?_)
                  rintro e v407 ⟨rfl, hb_v407⟩
                  have hB_v407 := hB_v406.trans (hb_v407.mono hB_v406.size)
                  replace hW := hW.below hb_v407 (Array.getElem?_eq_some_iff.1 hW).1
                  replace hA := (hb_v407.block _ (Array.getElem?_eq_some_iff.1 hA).1).trans hA
                  have hS_v407 := HKr.out hB_v407
                  go_wp2_with fail
                  refine hK.out _ _ (hS_v407) (fun hHeld => ?_)
                  clear hK K
                  try simp only [Act.put, List.getElem_toArray, List.getElem_cons_zero, List.getElem_cons_succ, List.setIfInBounds_toArray, List.set_cons_zero, List.set_cons_succ]
                  refine wpAnyH_take (i := 8) (oi := ?o420) (v := ?v420) ?i420 (by kernel_rfl) (by kernel_rfl) (by kernel_rfl) ?q420 ?y420 (hHeld) ?r420
                  case i420 => exact rfl
                  case q420 => exact (fun _ _ _ h => h)
                  case y420 =>
                    refine Or.inl ⟨by rfl, ?_⟩
                    intro w hSw
                    (try dsimp only at hSw)
                    go_simp
                    first | done | rfl
                  try simp only [Act.put, List.getElem_toArray, List.getElem_cons_zero, List.getElem_cons_succ, List.setIfInBounds_toArray, List.set_cons_zero, List.set_cons_succ]
                  refine wpAnyH_take (i := 9) (oi := ?o421) (v := ?v421) ?i421 (by kernel_rfl) (by kernel_rfl) (by kernel_rfl) ?q421 ?y421 (hHeld) ?r421
                  case i421 => exact rfl
                  case q421 => exact (fun _ _ _ h => h)
                  case y421 =>
                    refine Or.inl ⟨by rfl, ?_⟩
                    intro w hSw
                    (try dsimp only at hSw)
                    go_simp
                    first | done | rfl
                  try simp only [Act.put, List.getElem_toArray, List.getElem_cons_zero, List.getElem_cons_succ, List.setIfInBounds_toArray, List.set_cons_zero, List.set_cons_succ]
                  refine wpAnyH_take (i := 10) (oi := ?o422) (v := ?v422) ?i422 (by kernel_rfl) (by kernel_rfl) (by kernel_rfl) ?q422 ?y422 (hHeld) ?r422
                  case i422 => exact rfl
                  case q422 => exact (fun _ _ _ h => h)
                  case y422 =>
                    refine Or.inl ⟨by rfl, ?_⟩
                    intro w hSw
                    (try dsimp only at hSw)
                    go_simp
                    first | done | rfl
                  try simp only [Act.put, List.getElem_toArray, List.getElem_cons_zero, List.getElem_cons_succ, List.setIfInBounds_toArray, List.set_cons_zero, List.set_cons_succ]
                  obtain ⟨r0, f0⟩ := one_facts hA
                  have hBW := below_set0 (hB_v407) hA_ge (.slice none 0 0)
                  have hbW := heap_setCell_same v407 _ 0 _ _ (.slice none 0 0) hA
                  have HbW : Hid _ := hbW
                  have HBW : Hid _ := hBW
                  have HSW : Hid _ := HKr.out hBW
                  clear hbW hBW
                  refine wpAnyH_ready (rs := [12]) (by kernel_rfl) (by simp) ?_
                  refine AllReadyH.cons (i := 12) (o := ?o423) ?i423 (fun K hK => ?_) AllReadyH.nil
                  case i423 => exact rfl
                  go_simp
                  refine hK.out _ _ (HSW.out) (fun hHeld => ?_)
                  clear hK K
                  try simp only [Act.put, List.getElem_toArray, List.getElem_cons_zero, List.getElem_cons_succ, List.setIfInBounds_toArray, List.set_cons_zero, List.set_cons_succ]
                  refine wpAnyH_take (i := 13) (oi := ?o424) (v := ?v424) ?i424 (by kernel_rfl) (by kernel_rfl) (by kernel_rfl) ?q424 ?y424 (hHeld) ?r424
                  case i424 => exact rfl
                  case q424 => exact (fun _ _ _ h => h)
                  case y424 =>
                    refine Or.inl ⟨by rfl, ?_⟩
                    intro w hSw
                    (try dsimp only at hSw)
                    go_simp
                    first | done | rfl
                  try simp only [Act.put, List.getElem_toArray, List.getElem_cons_zero, List.getElem_cons_succ, List.setIfInBounds_toArray, List.set_cons_zero, List.set_cons_succ]
                  refine wpAnyH_done (by kernel_rfl) ?_ _
                  go_wp2_with fail
                  go_meet
                  case rel => exact ⟨_, rfl, rfl, HbW.out, HBW.out, hA_ge⟩
            case g410 =>
              intro K hK
              go_simp
              obtain ⟨v408, e_v408⟩ : ∃ x, x = v402.alloc (.cells #[.slice none 0 0] 33) := ⟨_, rfl⟩
              rw [← e_v408]
              have hb_v408 : Below v402.heap.size v402 v408 := by rw [e_v408]; exact (Below.refl _ _).alloc (Nat.le_refl _) _
              have hA := heap_alloc_new v402 (.cells #[.slice none 0 0] 33)
              rw [← e_v408] at hA
              have hA_ge : w15.heap.size ≤ v402.heap.size := hB_v402.size
              have hB_v408 := hB_v402.trans (hb_v408.mono hB_v402.size)
              clear e_v408
              replace hW := hW.below hb_v408 (Array.getElem?_eq_some_iff.1 hW).1
              have hS_v408 := HKr.out hB_v408
              refine hK.out _ _ (hS_v408) (fun hHeld => ?_)
              clear hK K
              try simp only [Act.put, List.getElem_toArray, List.getElem_cons_zero, List.getElem_cons_succ, List.setIfInBounds_toArray, List.set_cons_zero, List.set_cons_succ]
              refine wpAnyH_ready (rs := [6]) (by kernel_rfl) (by simp) ?_
              refine AllReadyH.cons (i := 6) (o := ?o425) ?i425 ?g425 AllReadyH.nil
              case i425 => exact rfl
              case g425 =>
                intro K hK
                go_simp
                (with_reducible refine (toWordM yt yn yl yh ya yp ys v408).mono ?_)
                rintro e v409 ⟨rfl, hb_v409⟩
                have hB_v409 := hB_v408.trans (hb_v409.mono hB_v408.size)
                replace hW := hW.below hb_v409 (Array.getElem?_eq_some_iff.1 hW).1
                replace hA := (hb_v409.block _ (Array.getElem?_eq_some_iff.1 hA).1).trans hA
                have hS_v409 := HKr.out hB_v409
                go_wp2_with fail
                refine hK.out _ _ (hS_v409) (fun hHeld => ?_)
                clear hK K
                try simp only [Act.put, List.getElem_toArray, List.getElem_cons_zero, List.getElem_cons_succ, List.setIfInBounds_toArray, List.set_cons_zero, List.set_cons_succ]
                refine wpAnyH_ready (rs := [7]) (by kernel_rfl) (by simp) ?_
                refine AllReadyH.cons (i := 7) (o := ?o426) ?i426 ?g426 AllReadyH.nil
                case i426 => exact rfl
                case g426 =>
                  intro K hK
                  go_simp
                  (with_reducible refine (H2 g v409 (hW.row Hl.out) (HS15.out hB_v409)).mono ?_)
                  rintro e v410 ⟨rfl, hb_v410⟩
                  have hB_v410 := hB_v409.trans (hb_v410.mono hB_v409.size)
                  replace hW := hW.below hb_v410 (Array.getElem?_eq_some_iff.1 hW).1
                  replace hA := (hb_v410.block _ (Array.getElem?_eq_some_iff.1 hA).1).trans hA
                  have hS_v410 := HKr.out hB_v410
                  go_wp2_with fail
                  refine hK.out _ _ (hS_v410) (fun hHeld => ?_)
                  clear hK K
                  try simp only [Act.put, List.getElem_toArray, List.getElem_cons_zero, List.getElem_cons_succ, List.setIfInBounds_toArray, List.set_cons_zero, List.set_cons_succ]
                  refine wpAnyH_take (i := 8) (oi := ?o427) (v := ?v427) ?i427 (by kernel_rfl) (by kernel_rfl) (by kernel_rfl) ?q427 ?y427 (hHeld) ?r427
                  case i427 => exact rfl
                  case q427 => exact (fun _ _ _ h => h)
                  case y427 =>
                    refine Or.inl ⟨by rfl, ?_⟩
                    intro w hSw
                    (try dsimp only at hSw)
                    go_simp
                    first | done | rfl
                  try simp only [Act.put, List.getElem_toArray, List.getElem_cons_zero, List.getElem_cons_succ, List.setIfInBounds_toArray, List.set_cons_zero, List.set_cons_succ]
                  refine wpAnyH_take (i := 9) (oi := ?o428) (v := ?v428) ?i428 (by kernel_rfl) (by kernel_rfl) (by kernel_rfl) ?q428 ?y428 (hHeld) ?r428
                  case i428 => exact rfl
                  case q428 => exact (fun _ _ _ h => h)
                  case y428 =>
                    refine Or.inl ⟨by rfl, ?_⟩
                    intro w hSw
                    (try dsimp only at hSw)
                    go_simp
                    first | done | rfl
                  try simp only [Act.put, List.getElem_toArray, List.getElem_cons_zero, List.getElem_cons_succ, List.setIfInBounds_toArray, List.set_cons_zero, List.set_cons_succ]
                  refine wpAnyH_take (i := 10) (oi := ?o429) (v := ?v429) ?i429 (by kernel_rfl) (by kernel_rfl) (by kernel_rfl) ?q429 ?y429 (hHeld) ?r429
                  case i429 => exact rfl
                  case q429 => exact (fun _ _ _ h => h)
                  case y429 =>
                    refine Or.inl ⟨by rfl, ?_⟩
                    intro w hSw
                    (try dsimp only at hSw)
                    go_simp
                    first | done | rfl
                  try simp only [Act.put, List.getElem_toArray, List.getElem_cons_zero, List.getElem_cons_succ, List.setIfInBounds_toArray, List.set_cons_zero, List.set_cons_succ]
                  obtain ⟨r0, f0⟩ := one_facts hA
                  have hBW := below_set0 (hB_v410) hA_ge (.slice none 0 0)
                  have hbW := heap_setCell_same v410 _ 0 _ _ (.slice none 0 0) hA
                  have HbW : Hid _ := hbW
                  have HBW : Hid _ := hBW
                  have HSW : Hid _ := HKr.out hBW
                  clear hbW hBW
                  refine wpAnyH_ready (rs := [12]) (by kernel_rfl) (by simp) ?_
                  refine AllReadyH.cons (i := 12) (o := ?o430) ?i430 (fun K hK => ?_) AllReadyH.nil
                  case i430 => exact rfl
                  go_simp
                  refine hK.out _ _ (HSW.out) (fun hHeld => ?_)
                  clear hK K
                  try simp only [Act.put, List.getElem_toArray, List.getElem_cons_zero, List.getElem_cons_succ, List.setIfInBounds_toArray, List.set_cons_zero, List.set_cons_succ]
                  refine wpAnyH_take (i := 13) (oi := ?o431) (v := ?v431) ?i431 (by kernel_rfl) (by kernel_rfl) (by kernel_rfl) ?q431 ?y431 (hHeld) ?r431
                  case i431 => exact rfl
                  case q431 => exact (fun _ _ _ h => h)
                  case y431 =>
                    refine Or.inl ⟨by rfl, ?_⟩
                    intro w hSw
                    (try dsimp only at hSw)
                    go_simp
                    first | done | rfl
                  try simp only [Act.put, List.getElem_toArray, List.getElem_cons_zero, List.getElem_cons_succ, List.setIfInBounds_toArray, List.set_cons_zero, List.set_cons_succ]
                  refine wpAnyH_done (by kernel_rfl) ?_ _
                  go_wp2_with fail
                  go_meet
                  case rel => exact ⟨_, rfl, rfl, HbW.out, HBW.out, hA_ge⟩
          case g408 =>
            intro K hK
            go_simp
            obtain ⟨v411, e_v411⟩ : ∃ x, x = v401.alloc (.cells #[.slice none 0 0] 33) := ⟨_, rfl⟩
            rw [← e_v411]
            have hb_v411 : Below v401.heap.size v401 v411 := by rw [e_v411]; exact (Below.refl _ _).alloc (Nat.le_refl _) _
            have hA := heap_alloc_new v401 (.cells #[.slice none 0 0] 33)
            rw [← e_v411] at hA
            have hA_ge : w15.heap.size ≤ v401.heap.size := hB_v401.size
            have hB_v411 := hB_v401.trans (hb_v411.mono hB_v401.size)
            clear e_v411
            replace hW := hW.below hb_v411 (Array.getElem?_eq_some_iff.1 hW).1
            have hS_v411 := HKr.out hB_v411
            refine hK.out _ _ (hS_v411) (fun hHeld => ?_)
            clear hK K
            try simp only [Act.put, List.getElem_toArray, List.getElem_cons_zero, List.getElem_cons_succ, List.setIfInBounds_toArray, List.set_cons_zero, List.set_cons_succ]
            refine wpAnyH_ready (rs := [3]) (by kernel_rfl) (by simp) ?_
            refine AllReadyH.cons (i := 3) (o := ?o432) ?i432 ?g432 AllReadyH.nil
            case i432 => exact rfl
            case g432 =>
              intro K hK
              go_simp
              (with_reducible refine (toWordM xt xn xl xh xa xp xs v411).mono ?_)
              rintro e v412 ⟨rfl, hb_v412⟩
              have hB_v412 := hB_v411.trans (hb_v412.mono hB_v411.size)
              replace hW := hW.below hb_v412 (Array.getElem?_eq_some_iff.1 hW).1
              replace hA := (hb_v412.block _ (Array.getElem?_eq_some_iff.1 hA).1).trans hA
              have hS_v412 := HKr.out hB_v412
              go_wp2_with fail
              refine hK.out _ _ (hS_v412) (fun hHeld => ?_)
              clear hK K
              try simp only [Act.put, List.getElem_toArray, List.getElem_cons_zero, List.getElem_cons_succ, List.setIfInBounds_toArray, List.set_cons_zero, List.set_cons_succ]
              refine wpAnyH_ready (rs := [6]) (by kernel_rfl) (by simp) ?_
              refine AllReadyH.cons (i := 6) (o := ?o433) ?i433 ?g433 AllReadyH.nil
              case i433 => exact rfl
              case g433 =>
                intro K hK
                go_simp
                (with_reducible refine (toWordM yt yn yl yh ya yp ys v412).mono ?_)
                rintro e v413 ⟨rfl, hb_v413⟩
                have hB_v413 := hB_v412.trans (hb_v413.mono hB_v412.size)
                replace hW := hW.below hb_v413 (Array.getElem?_eq_some_iff.1 hW).1
                replace hA := (hb_v413.block _ (Array.getElem?_eq_some_iff.1 hA).1).trans hA
                have hS_v413 := HKr.out hB_v413
                go_wp2_with fail
                refine hK.out _ _ (hS_v413) (fun hHeld => ?_)
                clear hK K
                try simp only [Act.put, List.getElem_toArray, List.getElem_cons_zero, List.getElem_cons_succ, List.setIfInBounds_toArray, List.set_cons_zero, List.set_cons_succ]
                refine wpAnyH_ready (rs := [7]) (by kernel_rfl) (by simp) ?_
                refine AllReadyH.cons (i := 7) (o := ?o434) ?i434 ?g434 AllReadyH.nil
                case i434 => exact rfl
                case g434 =>
                  intro K hK
                  go_simp
                  (with_reducible refine (H2 g v413 (hW.row Hl.out) (HS15.out hB_v413)).mono ?_)
                  rintro e v414 ⟨rfl, hb_v414⟩
                  have hB_v414 := hB_v413.trans (hb_v414.mono hB_v413.size)
                  replace hW := hW.below hb_v414 (Array.getElem?_eq_some_iff.1 hW).1
                  replace hA := (hb_v414.block _ (Array.getElem?_eq_some_iff.1 hA).1).trans hA
                  have hS_v414 := HKr.out hB_v414
                  go_wp2_with fail
                  refine hK.out _ _ (hS_v414) (fun hHeld => ?_)
                  clear hK K
                  try simp only [Act.put, List.getElem_toArray, List.getElem_cons_zero, List.getElem_cons_succ, List.setIfInBounds_toArray, List.set_cons_zero, List.set_cons_succ]
                  refine wpAnyH_take (i := 8) (oi := ?o435) (v := ?v435) ?i435 (by kernel_rfl) (by kernel_rfl) (by kernel_rfl) ?q435 ?y435 (hHeld) ?r435
                  case i435 => exact rfl
                  case q435 => exact (fun _ _ _ h => h)
                  case y435 =>
                    refine Or.inl ⟨by rfl, ?_⟩
                    intro w hSw
                    (try dsimp only at hSw)
                    go_simp
                    first | done | rfl
                  try simp only [Act.put, List.getElem_toArray, List.getElem_cons_zero, List.getElem_cons_succ, List.setIfInBounds_toArray, List.set_cons_zero, List.set_cons_succ]
                  refine wpAnyH_take (i := 9) (oi := ?o436) (v := ?v436) ?i436 (by kernel_rfl) (by kernel_rfl) (by kernel_rfl) ?q436 ?y436 (hHeld) ?r436
                  case i436 => exact rfl
                  case q436 => exact (fun _ _ _ h => h)
                  case y436 =>
                    refine Or.inl ⟨by rfl, ?_⟩
                    intro w hSw
                    (try dsimp only at hSw)
                    go_simp
                    first | done | rfl
                  try simp only [Act.put, List.getElem_toArray, List.getElem_cons_zero, List.getElem_cons_succ, List.setIfInBounds_toArray, List.set_cons_zero, List.set_cons_succ]
                  refine wpAnyH_take (i := 10) (oi := ?o437) (v := ?v437) ?i437 (by kernel_rfl) (by kernel_rfl) (by kernel_rfl) ?q437 ?y437 (hHeld) ?r437
                  case i437 => exact rfl
                  case q437 => exact (fun _ _ _ h => h)
                  case y437 =>
                    refine Or.inl ⟨by rfl, ?_⟩
                    intro w hSw
                    (try dsimp only at hSw)
                    go_simp
                    first | done | rfl
                  try simp only [Act.put, List.getElem_toArray, List.getElem_cons_zero, List.getElem_cons_succ, List.setIfInBounds_toArray, List.set_cons_zero, List.set_cons_succ]
                  obtain ⟨r0, f0⟩ := one_facts hA
                  have hBW := below_set0 (hB_v414) hA_ge (.slice none 0 0)
                  have hbW := heap_setCell_same v414 _ 0 _ _ (.slice none 0 0) hA
                  have HbW : Hid _ := hbW
                  have HBW : Hid _ := hBW
                  have HSW : Hid _ := HKr.out hBW
                  clear hbW hBW
                  refine wpAnyH_ready (rs := [12]) (by kernel_rfl) (by simp) ?_
                  refine AllReadyH.cons (i := 12) (o := ?o438) ?i438 (fun K hK => ?_) AllReadyH.nil
                  case i438 => exact rfl
                  go_simp
                  refine hK.out _ _ (HSW.out) (fun hHeld => ?_)
                  clear hK K
                  try simp only [Act.put, List.getElem_toArray, List.getElem_cons_zero, List.getElem_cons_succ, List.setIfInBounds_toArray, List.set_cons_zero, List.set_cons_succ]
                  refine wpAnyH_take (i := 13) (oi := ?o439) (v := ?v439) ?i439 (by kernel_rfl) (by kernel_rfl) (by kernel_rfl) ?q439 ?y439 (hHeld) ?r439
                  case i439 => exact rfl
                  case q439 => exact (fun _ _ _ h => h)
                  case y439 =>
                    refine Or.inl ⟨by rfl, ?_⟩
                    intro w hSw
                    (try dsimp only at hSw)
                    go_simp
                    first | done | rfl
                  try simp only [Act.put, List.getElem_toArray, List.getElem_cons_zero, List.getElem_cons_succ, List.setIfInBounds_toArray, List.set_cons_zero, List.set_cons_succ]
                  refine wpAnyH_done (by kernel_rfl) ?_ _
                  go_wp2_with fail
                  go_meet
                  case rel => exact ⟨_, rfl, rfl, HbW.out, HBW.out, hA_ge⟩
        case g406 =>
          intro K hK
          go_simp
          obtain ⟨v415, e_v415⟩ : ∃ x, x = wS.alloc (.cells #[.slice none 0 0] 33) := ⟨_, rfl⟩
          rw [← e_v415]
          have hb_v415 : Below wS.heap.size wS v415 := by rw [e_v415]; exact (Below.refl _ _).alloc (Nat.le_refl _) _
          have hA := heap_alloc_new wS (.cells #[.slice none 0 0] 33)
          rw [← e_v415] at hA
          have hA_ge : w15.heap.size ≤ wS.heap.size := hB0.size
          have hB_v415 := hB0.trans (hb_v415.mono hB0.size)
          clear e_v415
          have hS_v415 := HKr.out hB_v415
          refine hK.out _ _ (hS_v415) (fun hHeld => ?_)
          clear hK K
          try simp only [Act.put, List.getElem_toArray, List.getElem_cons_zero, List.getElem_cons_succ, List.setIfInBounds_toArray, List.set_cons_zero, List.set_cons_succ]
          refine wpAnyH_ready (rs := [1]) (by kernel_rfl) (by simp) ?_
          refine AllReadyH.cons (i := 1) (o := ?o440) ?i440 ?g440 AllReadyH.nil
          case i440 => exact rfl
          case g440 =>
            intro K hK
            go_simp
            (with_reducible refine (toM a n c l v415 (HW15.out hB_v415) hn).mono ?_)
            rintro e v416 ⟨g, rfl, hgg, hW, hb_v416⟩
            have hB_v416 := hB_v415.trans (hb_v416.mono hB_v415.size)
            replace hA := (hb_v416.block _ (Array.getElem?_eq_some_iff.1 hA).1).trans hA
            have hS_v416 := HKr.out hB_v416
            go_wp2_with fail
            refine hK.out _ _ (hS_v416) (fun hHeld => ?_)
            clear hK K
            try simp only [Act.put, List.getElem_toArray, List.getElem_cons_zero, List.getElem_cons_succ, List.setIfInBounds_toArray, List.set_cons_zero, List.set_cons_succ]
            refine wpAnyH_ready (rs := [3]) (by kernel_rfl) (by simp) ?_
            refine AllReadyH.cons (i := 3) (o := ?o441) ?i441 ?g441 AllReadyH.nil
            case i441 => exact rfl
            case g441 =>
              intro K hK
              go_simp
              (with_reducible refine (toWordM xt xn xl xh xa xp xs v416).mono ?_)
              rintro e v417 ⟨rfl, hb_v417⟩
              have hB_v417 := hB_v416.trans (hb_v417.mono hB_v416.size)
              replace hA := (hb_v417.block _ (Array.getElem?_eq_some_iff.1 hA).1).trans hA
              replace hW := hW.below hb_v417 (Array.getElem?_eq_some_iff.1 hW).1
              have hS_v417 := HKr.out hB_v417
              go_wp2_with fail
              refine hK.out _ _ (hS_v417) (fun hHeld => ?_)
              clear hK K
              try simp only [Act.put, List.getElem_toArray, List.getElem_cons_zero, List.getElem_cons_succ, List.setIfInBounds_toArray, List.set_cons_zero, List.set_cons_succ]
              refine wpAnyH_ready (rs := [6]) (by kernel_rfl) (by simp) ?_
              refine AllReadyH.cons (i := 6) (o := ?o442) ?i442 ?g442 AllReadyH.nil
              case i442 => exact rfl
              case g442 =>
                intro K hK
                go_simp
                (with_reducible refine (toWordM yt yn yl yh ya yp ys v417).mono ?_)
                rintro e v418 ⟨rfl, hb_v418⟩
                have hB_v418 := hB_v417.trans (hb_v418.mono hB_v417.size)
                replace hA := (hb_v418.block _ (Array.getElem?_eq_some_iff.1 hA).1).trans hA
                replace hW := hW.below hb_v418 (Array.getElem?_eq_some_iff.1 hW).1
                have hS_v418 := HKr.out hB_v418
                go_wp2_with fail
                refine hK.out _ _ (hS_v418) (fun hHeld => ?_)
                clear hK K
                try simp only [Act.put, List.getElem_toArray, List.getElem_cons_zero, List.getElem_cons_succ, List.setIfInBounds_toArray, List.set_cons_zero, List.set_cons_succ]
                refine wpAnyH_ready (rs := [7]) (by kernel_rfl) (by simp) ?_
                refine AllReadyH.cons (i := 7) (o := ?o443) ?i443 ?g443 AllReadyH.nil
                case i443 => exact rfl
                case g443 =>
                  intro K hK
                  go_simp
                  (with_reducible refine (H2 g v418 (hW.row Hl.out) (HS15.out hB_v418)).mono ?_)
                  rintro e v419 ⟨rfl, hb_v419⟩
                  have hB_v419 := hB_v418.trans (hb_v419.mono hB_v418.size)
                  replace hA := (hb_v419.block _ (Array.getElem?_eq_some_iff.1 hA).1).trans hA
                  replace hW := hW.below hb_v419 (Array.getElem?_eq_some_iff.1 hW).1
                  have hS_v419 := HKr.out hB_v419
                  go_wp2_with fail
                  refine hK.out _ _ (hS_v419) (fun hHeld => ?_)
                  clear hK K
                  try simp only [Act.put, List.getElem_toArray, List.getElem_cons_zero, List.getElem_cons_succ, List.setIfInBounds_toArray, List.set_cons_zero, List.set_cons_succ]
                  refine wpAnyH_take (i := 8) (oi := ?o444) (v := ?v444) ?i444 (by kernel_rfl) (by kernel_rfl) (by kernel_rfl) ?q444 ?y444 (hHeld) ?r444
                  case i444 => exact rfl
                  case q444 => exact (fun _ _ _ h => h)
                  case y444 =>
                    refine Or.inl ⟨by rfl, ?_⟩
                    intro w hSw
                    (try dsimp only at hSw)
                    go_simp
                    first | done | rfl
                  try simp only [Act.put, List.getElem_toArray, List.getElem_cons_zero, List.getElem_cons_succ, List.setIfInBounds_toArray, List.set_cons_zero, List.set_cons_succ]
                  refine wpAnyH_take (i := 9) (oi := ?o445) (v := ?v445) ?i445 (by kernel_rfl) (by kernel_rfl) (by kernel_rfl) ?q445 ?y445 (hHeld) ?r445
                  case i445 => exact rfl
                  case q445 => exact (fun _ _ _ h => h)
                  case y445 =>
                    refine Or.inl ⟨by rfl, ?_⟩
                    intro w hSw
                    (try dsimp only at hSw)
                    go_simp
                    first | done | rfl
                  try simp only [Act.put, List.getElem_toArray, List.getElem_cons_zero, List.getElem_cons_succ, List.setIfInBounds_toArray, List.set_cons_zero, List.set_cons_succ]
                  refine wpAnyH_take (i := 10) (oi := ?o446) (v := ?v446) ?i446 (by kernel_rfl) (by kernel_rfl) (by kernel_rfl) ?q446 ?y446 (hHeld) ?r446
                  case i446 => exact rfl
                  case q446 => exact (fun _ _ _ h => h)
                  case y446 =>
                    refine Or.inl ⟨by rfl, ?_⟩
                    intro w hSw
                    (try dsimp only at hSw)
                    go_simp
                    first | done | rfl
                  try simp only [Act.put, List.getElem_toArray, List.getElem_cons_zero, List.getElem_cons_succ, List.setIfInBounds_toArray, List.set_cons_zero, List.set_cons_succ]
                  obtain ⟨r0, f0⟩ := one_facts hA
                  have hBW := below_set0 (hB_v419) hA_ge (.slice none 0 0)
                  have hbW := heap_setCell_same v419 _ 0 _ _ (.slice none 0 0) hA
                  have HbW : Hid _ := hbW
                  have HBW : Hid _ := hBW
                  have HSW : Hid _ := HKr.out hBW
                  clear hbW hBW
                  refine wpAnyH_ready (rs := [12]) (by kernel_rfl) (by simp) ?_
                  refine AllReadyH.cons (i := 12) (o := ?o447) ?i447 (fun K hK => ?_) AllReadyH.nil
                  case i447 => exact rfl
                  go_simp
                  refine hK.out _ _ (HSW.out) (fun hHeld => ?_)
                  clear hK K
                  try simp only [Act.put, List.getElem_toArray, List.getElem_cons_zero, List.getElem_cons_succ, List.setIfInBounds_toArray, List.set_cons_zero, List.set_cons_succ]
                  refine wpAnyH_take (i := 13) (oi := ?o448) (v := ?v448) ?i448 (by kernel_rfl) (by kernel_rfl) (by kernel_rfl) ?q448 ?y448 (hHeld) ?r448
                  case i448 => exact rfl
                  case q448 => exact (fun _ _ _ h => h)
                  case y448 =>
                    refine Or.inl ⟨by rfl, ?_⟩
                    intro w hSw
                    (try dsimp only at hSw)
                    go_simp
                    first | done | rfl
                  try simp only [Act.put, List.getElem_toArray, List.getElem_cons_zero, List.getElem_cons_succ, List.setIfInBounds_toArray, List.set_cons_zero, List.set_cons_succ]
                  refine wpAnyH_done (by kernel_rfl) ?_ _
                  go_wp2_with fail
                  go_meet
                  case rel => exact ⟨_, rfl, rfl, HbW.out, HBW.out, hA_ge⟩
      case rest =>
        obtain ⟨g18, rfl, rfl, h18, hbe, hge18⟩ := hcut
        obtain ⟨c18, _⟩ := one_facts h18
        have hst := HST.out.next hbe
        clear HST hbe HKs HW15 HS15 h18
        have HST : Hid _ := hst
        clear hst
        have hst := HST.out
        obtain ⟨cm, _⟩ := one_facts hst.m
        obtain ⟨c10, _⟩ := one_facts hst.b8
        obtain ⟨c12, _⟩ := one_facts hst.b10
        obtain ⟨c13, _⟩ := one_facts hst.b11
        clear hst
        go_wp2_with fail
        refine (eqM none 0 0 [] none 0 wc (nil_row _) (nil_row _) (by omega)).mono ?_
        rintro e w19 ⟨rfl, hb_w19⟩
        have hst := HST.out.next hb_w19
        clear HST cm c10 c12 c13 hb_w19
        have HST : Hid _ := hst
        clear hst
        have hst := HST.out
        obtain ⟨cm, _⟩ := one_facts hst.m
        obtain ⟨c10, _⟩ := one_facts hst.b8
        obtain ⟨c12, _⟩ := one_facts hst.b10
        obtain ⟨c13, _⟩ := one_facts hst.b11
        clear hst
        go_wp2_with fail
        refine (heldM0 none 0 w19).mono ?_
        rintro e w20 ⟨rfl, o20, rfl⟩
        have hbl := HST.out.below.trans (((Below.refl w19.heap.size w19).alloc (Nat.le_refl _) o20).mono HST.out.below.size)
        generalize w19.alloc o20 = w20 at hbl ⊢
        go_wp2_with fail
        go_ret
        exact ⟨rfl, hbl⟩

end Go.Proofs.YtchchigiafacbaaDoor

/- Decode, built and model: both answer the same at every slice of bytes and place. -/
import Derived.Test.YtjhnfmapjpfjcaaDoorDecIns
import Derived.Test.YtjhnfmapjpfjcaaDoorInsOk
import Derived.Deep.Cut
import Derived.Deep.CutRange
namespace Go.Proofs.YtjhnfmapjpfjcaaDoor
open Go.RowKit
set_option linter.unusedVariables false
set_option linter.unusedSimpArgs false
set_option maxRecDepth 100000

def sel (b : Bool) (x : Int) : Int := bif b then x else 0

theorem wrap_byte {x : Int} (h : 0 ≤ x ∧ x ≤ 255) : IntKind.i64.wrap x = x := by rw [IntKind.wrap_i64]; omega

theorem zero_keep {w w' : World} {g : Nat} {o : Obj} (h : w.heap[g]? = some o) (hb : Below w.heap.size w w') : w'.heap[g]? = some o := (hb.block _ (Array.getElem?_eq_some_iff.1 h).1).trans h

set_option maxHeartbeats 8000000 in
theorem specDecode12 (b off n c k : Nat) (x0 x1 x2 x3 x4 x5 x6 x7 x8 x9 x10 x11 : Int) (w : World) (h : Twelve w b (off + 12 * k) x0 x1 x2 x3 x4 x5 x6 x7 x8 x9 x10 x11) (hx : Bytes12 x0 x1 x2 x3 x4 x5 x6 x7 x8 x9 x10 x11) (hk : 12 * k + 12 ≤ n) (hc : n ≤ c) (hm : c ≤ maxLen) (ok : Bool) (hok : insB x0 x1 x2 x3 (num4 x4 x5 x6 x7) (num4 x8 x9 x10 x11) = ok) :
    Calls Tryd.prog 18 #[.slice (some ⟨b, off, none⟩) n c, .int .i64 k] w fun e w' => e = .returned (.tuple #[.agg #[.int .i64 (sel ok x0), .int .i64 (sel ok x1), .int .i64 (sel ok x2), .int .i64 (sel ok x3), .int .i64 (sel ok (num4 x4 x5 x6 x7)), .int .i64 (sel ok (num4 x8 x9 x10 x11))], .bool ok]) ∧ Below w.heap.size w w' := by
  unfold maxLen at hm
  have hb : Below w.heap.size w (w.alloc (.cells #[.int .i64 0, .int .i64 0, .int .i64 0, .int .i64 0, .int .i64 0, .int .i64 0] 25)) := (Below.refl _ _).alloc (Nat.le_refl _) _
  have hz := heap_new w #[.int .i64 0, .int .i64 0, .int .i64 0, .int .i64 0, .int .i64 0, .int .i64 0] 25
  have ht := h.below hb
  have HI := specInsOkM x0 x1 x2 x3 (num4 x4 x5 x6 x7) (num4 x8 x9 x10 x11)
  rw [hok] at HI
  have HN1 : ∀ w, Twelve w b (off + 12 * k) x0 x1 x2 x3 x4 x5 x6 x7 x8 x9 x10 x11 → Calls Tryd.prog 30 #[.slice (some ⟨b, off + 12 * k + 4, none⟩) 8 (c - 12 * k - 4)] w fun e w' => e = .returned (.int .i64 (num4 x4 x5 x6 x7)) ∧ Below w.heap.size w w' := fun w ⟨_, _, _, _, f0, f1, f2, f3, _⟩ => (specNumM b (off + 12 * k + 4) _ 8 x4 x5 x6 x7 w (by omega) f0 f1 f2 f3 hx.2.2.2.2.1 hx.2.2.2.2.2.1 hx.2.2.2.2.2.2.1 hx.2.2.2.2.2.2.2.1).mono (by rintro e w1 ⟨rfl, d, rfl⟩; exact ⟨rfl, below_drewN (Below.refl _ _) _⟩)
  have HN2 : ∀ w, Twelve w b (off + 12 * k) x0 x1 x2 x3 x4 x5 x6 x7 x8 x9 x10 x11 → Calls Tryd.prog 30 #[.slice (some ⟨b, off + 12 * k + 8, none⟩) 4 (c - 12 * k - 8)] w fun e w' => e = .returned (.int .i64 (num4 x8 x9 x10 x11)) ∧ Below w.heap.size w w' := fun w ⟨_, _, _, _, _, _, _, _, f0, f1, f2, f3⟩ => (specNumM b (off + 12 * k + 8) _ 4 x8 x9 x10 x11 w (by omega) f0 f1 f2 f3 hx.2.2.2.2.2.2.2.2.1 hx.2.2.2.2.2.2.2.2.2.1 hx.2.2.2.2.2.2.2.2.2.2.1 hx.2.2.2.2.2.2.2.2.2.2.2).mono (by rintro e w1 ⟨rfl, d, rfl⟩; exact ⟨rfl, below_drewN (Below.refl _ _) _⟩)
  have HE : Hid (IntKind.i64.wrap x0 = x0 ∧ IntKind.i64.wrap x1 = x1 ∧ IntKind.i64.wrap x2 = x2 ∧ IntKind.i64.wrap x3 = x3) := ⟨wrap_byte hx.1, wrap_byte hx.2.1, wrap_byte hx.2.2.1, wrap_byte hx.2.2.2.1⟩
  generalize num4 x4 x5 x6 x7 = n1 at *
  generalize num4 x8 x9 x10 x11 = m1 at *
  have HL : Hid (b < w.heap.size) := h.lt
  clear hok h hx
  go_enter Tryd.func18, Tryd.ntmps18
  go_upto_region 4 with fail
  have e12 : 12 * k + 12 - 12 * k = 12 := by omega
  rw [e12]
  have hc4 : ¬ c - 12 * k = 4 := by omega
  have hc8 : ¬ c - 12 * k = 8 := by omega
  generalize c - 12 * k = c' at *
  have hgs : w.heap.size < (w.alloc (.cells #[.int .i64 0, .int .i64 0, .int .i64 0, .int .i64 0, .int .i64 0, .int .i64 0] 25)).heap.size := by simp
  generalize w.alloc (.cells #[.int .i64 0, .int .i64 0, .int .i64 0, .int .i64 0, .int .i64 0, .int .i64 0] 25) = w1 at *
  have HZ : Hid _ := hz
  have HB : Hid _ := hb
  have HT : Hid (∀ {wx : World}, Below w1.heap.size w1 wx → Twelve wx b (off + 12 * k) x0 x1 x2 x3 x4 x5 x6 x7 x8 x9 x10 x11) := fun hb => ht.below hb
  clear hz hb ht e12
  generalize hg : w.heap.size = g at *
  have HG : Hid (w.heap.size = g) := hg
  clear hg
  go_cut [7] from 8 to 53 (fun s7 wc => ∃ gA, s7 = .pointer (some ⟨gA, 0, none⟩) ∧ wc.heap[gA]? = some (.cells #[.int .i64 (IntKind.i64.wrap x0), .int .i64 (IntKind.i64.wrap x1), .int .i64 (IntKind.i64.wrap x2), .int .i64 (IntKind.i64.wrap x3), .int .i64 n1, .int .i64 m1] 25 (0, 0)) ∧ Below w1.heap.size w1 wc ∧ w1.heap.size ≤ gA)
  case first =>
    have HK : Hid (∀ {wx : World}, Below w1.heap.size w1 wx → wx.cell? ⟨b, off + 12 * k, none⟩ = some (.int .u8 x0) ∧ wx.cell? ⟨b, off + 12 * k + 1, none⟩ = some (.int .u8 x1) ∧ wx.cell? ⟨b, off + 12 * k + 2, none⟩ = some (.int .u8 x2) ∧ wx.cell? ⟨b, off + 12 * k + 3, none⟩ = some (.int .u8 x3) ∧ wx.cell? ⟨b, off + 12 * k + 4, none⟩ = some (.int .u8 x4) ∧ wx.cell? ⟨b, off + 12 * k + 5, none⟩ = some (.int .u8 x5) ∧ wx.cell? ⟨b, off + 12 * k + 6, none⟩ = some (.int .u8 x6) ∧ wx.cell? ⟨b, off + 12 * k + 7, none⟩ = some (.int .u8 x7) ∧ wx.cell? ⟨b, off + 12 * k + 8, none⟩ = some (.int .u8 x8) ∧ wx.cell? ⟨b, off + 12 * k + 9, none⟩ = some (.int .u8 x9) ∧ wx.cell? ⟨b, off + 12 * k + 10, none⟩ = some (.int .u8 x10) ∧ wx.cell? ⟨b, off + 12 * k + 11, none⟩ = some (.int .u8 x11)) := fun hb => HT.out hb
    refine wp_region_held_drew (S := fun wx => wx.cell? ⟨b, off + 12 * k, none⟩ = some (.int .u8 x0) ∧ wx.cell? ⟨b, off + 12 * k + 1, none⟩ = some (.int .u8 x1) ∧ wx.cell? ⟨b, off + 12 * k + 2, none⟩ = some (.int .u8 x2) ∧ wx.cell? ⟨b, off + 12 * k + 3, none⟩ = some (.int .u8 x3) ∧ wx.cell? ⟨b, off + 12 * k + 4, none⟩ = some (.int .u8 x4) ∧ wx.cell? ⟨b, off + 12 * k + 5, none⟩ = some (.int .u8 x5) ∧ wx.cell? ⟨b, off + 12 * k + 6, none⟩ = some (.int .u8 x6) ∧ wx.cell? ⟨b, off + 12 * k + 7, none⟩ = some (.int .u8 x7) ∧ wx.cell? ⟨b, off + 12 * k + 8, none⟩ = some (.int .u8 x8) ∧ wx.cell? ⟨b, off + 12 * k + 9, none⟩ = some (.int .u8 x9) ∧ wx.cell? ⟨b, off + 12 * k + 10, none⟩ = some (.int .u8 x10) ∧ wx.cell? ⟨b, off + 12 * k + 11, none⟩ = some (.int .u8 x11)) (by kernel_rfl) (HK.out (Below.refl _ _).drew) (fun hHeld => ?_)
    have hB0 : Below w1.heap.size w1 w1.drew := (Below.refl _ _).drew
    generalize w1.drew = wS at hB0 hHeld ⊢
    refine wpAnyH_take (i := 0) (oi := ?o301) (v := ?v301) ?i301 (by kernel_rfl) (by kernel_rfl) (by kernel_rfl) ?q301 ?y301 (hHeld) ?r301
    case i301 => exact rfl
    case q301 => exact (fun _ _ _ h => h)
    case y301 =>
      refine Or.inl ⟨by rfl, ?_⟩
      intro w hSw
      (try dsimp only at hSw)
      go_simp
      first | done | rfl
    try simp only [Act.put, List.getElem_toArray, List.getElem_cons_zero, List.getElem_cons_succ, List.setIfInBounds_toArray, List.set_cons_zero, List.set_cons_succ]
    refine wpAnyH_take (i := 1) (oi := ?o302) (v := ?v302) ?i302 (by kernel_rfl) (by kernel_rfl) (by kernel_rfl) ?q302 ?y302 (hHeld) ?r302
    case i302 => exact rfl
    case q302 => exact (fun _ _ _ h => h)
    case y302 =>
      refine Or.inl ⟨by rfl, ?_⟩
      intro w hSw
      (try dsimp only at hSw)
      go_simp
      first | done | rfl
    try simp only [Act.put, List.getElem_toArray, List.getElem_cons_zero, List.getElem_cons_succ, List.setIfInBounds_toArray, List.set_cons_zero, List.set_cons_succ]
    refine wpAnyH_take (i := 2) (oi := ?o303) (v := ?v303) ?i303 (by kernel_rfl) (by kernel_rfl) (by kernel_rfl) ?q303 ?y303 (hHeld) ?r303
    case i303 => exact rfl
    case q303 => exact (fun _ _ _ h => h)
    case y303 =>
      refine Or.inl ⟨by rfl, ?_⟩
      intro w hSw
      (try dsimp only at hSw)
      go_simp
      first | done | rfl
    try simp only [Act.put, List.getElem_toArray, List.getElem_cons_zero, List.getElem_cons_succ, List.setIfInBounds_toArray, List.set_cons_zero, List.set_cons_succ]
    refine wpAnyH_take (i := 3) (oi := ?o304) (v := ?v304) ?i304 (by kernel_rfl) (by kernel_rfl) (by kernel_rfl) ?q304 ?y304 (hHeld) ?r304
    case i304 => exact rfl
    case q304 => exact (fun _ _ _ h => h)
    case y304 =>
      refine Or.inl ⟨by rfl, ?_⟩
      intro w hSw
      (try dsimp only at hSw)
      go_simp
      first | done | rfl
    try simp only [Act.put, List.getElem_toArray, List.getElem_cons_zero, List.getElem_cons_succ, List.setIfInBounds_toArray, List.set_cons_zero, List.set_cons_succ]
    refine wpAnyH_take (i := 4) (oi := ?o305) (v := ?v305) ?i305 (by kernel_rfl) (by kernel_rfl) (by kernel_rfl) ?q305 ?y305 (hHeld) ?r305
    case i305 => exact rfl
    case q305 => exact (fun _ _ _ h => h)
    case y305 =>
      refine Or.inl ⟨by rfl, ?_⟩
      intro w hSw
      (try dsimp only at hSw)
      go_simp
      first | done | rfl
    try simp only [Act.put, List.getElem_toArray, List.getElem_cons_zero, List.getElem_cons_succ, List.setIfInBounds_toArray, List.set_cons_zero, List.set_cons_succ]
    refine wpAnyH_take (i := 5) (oi := ?o306) (v := ?v306) ?i306 (by kernel_rfl) (by kernel_rfl) (by kernel_rfl) ?q306 ?y306 (hHeld) ?r306
    case i306 => exact rfl
    case q306 => exact (fun _ _ _ h => h)
    case y306 =>
      refine Or.inl ⟨by rfl, ?_⟩
      intro w hSw
      (try dsimp only at hSw)
      go_simp
      first | done | rfl
    try simp only [Act.put, List.getElem_toArray, List.getElem_cons_zero, List.getElem_cons_succ, List.setIfInBounds_toArray, List.set_cons_zero, List.set_cons_succ]
    refine wpAnyH_take (i := 6) (oi := ?o307) (v := ?v307) ?i307 (by kernel_rfl) (by kernel_rfl) (by kernel_rfl) ?q307 ?y307 (hHeld) ?r307
    case i307 => exact rfl
    case q307 => exact (fun _ _ _ h => h)
    case y307 =>
      refine Or.inl ⟨by rfl, ?_⟩
      intro w hSw
      (try dsimp only at hSw)
      go_simp
      first | done | rfl
    try simp only [Act.put, List.getElem_toArray, List.getElem_cons_zero, List.getElem_cons_succ, List.setIfInBounds_toArray, List.set_cons_zero, List.set_cons_succ]
    refine wpAnyH_take (i := 7) (oi := ?o308) (v := ?v308) ?i308 (by kernel_rfl) (by kernel_rfl) (by kernel_rfl) ?q308 ?y308 (hHeld) ?r308
    case i308 => exact rfl
    case q308 => exact (fun _ _ _ h => h)
    case y308 =>
      refine Or.inl ⟨by rfl, ?_⟩
      intro w hSw
      (try dsimp only at hSw)
      go_simp
      first | done | rfl
    try simp only [Act.put, List.getElem_toArray, List.getElem_cons_zero, List.getElem_cons_succ, List.setIfInBounds_toArray, List.set_cons_zero, List.set_cons_succ]
    refine wpAnyH_take (i := 8) (oi := ?o309) (v := ?v309) ?i309 (by kernel_rfl) (by kernel_rfl) (by kernel_rfl) ?q309 ?y309 (hHeld) ?r309
    case i309 => exact rfl
    case q309 => exact (fun _ _ _ h => h)
    case y309 =>
      refine Or.inl ⟨by rfl, ?_⟩
      intro w hSw
      (try dsimp only at hSw)
      go_simp
      first | done | rfl
    try simp only [Act.put, List.getElem_toArray, List.getElem_cons_zero, List.getElem_cons_succ, List.setIfInBounds_toArray, List.set_cons_zero, List.set_cons_succ]
    refine wpAnyH_take (i := 9) (oi := ?o310) (v := ?v310) ?i310 (by kernel_rfl) (by kernel_rfl) (by kernel_rfl) ?q310 ?y310 (hHeld) ?r310
    case i310 => exact rfl
    case q310 => exact (fun _ _ _ h => h)
    case y310 =>
      refine Or.inl ⟨by rfl, ?_⟩
      intro w hSw
      (try dsimp only at hSw)
      go_simp
      first | done | rfl
    try simp only [Act.put, List.getElem_toArray, List.getElem_cons_zero, List.getElem_cons_succ, List.setIfInBounds_toArray, List.set_cons_zero, List.set_cons_succ]
    refine wpAnyH_take (i := 10) (oi := ?o311) (v := ?v311) ?i311 (by kernel_rfl) (by kernel_rfl) (by kernel_rfl) ?q311 ?y311 (hHeld) ?r311
    case i311 => exact rfl
    case q311 => exact (fun _ _ _ h => h)
    case y311 =>
      refine Or.inl ⟨by rfl, ?_⟩
      intro w hSw
      (try dsimp only at hSw)
      go_simp
      first | done | rfl
    try simp only [Act.put, List.getElem_toArray, List.getElem_cons_zero, List.getElem_cons_succ, List.setIfInBounds_toArray, List.set_cons_zero, List.set_cons_succ]
    refine wpAnyH_take (i := 11) (oi := ?o312) (v := ?v312) ?i312 (by kernel_rfl) (by kernel_rfl) (by kernel_rfl) ?q312 ?y312 (hHeld) ?r312
    case i312 => exact rfl
    case q312 => exact (fun _ _ _ h => h)
    case y312 =>
      refine Or.inl ⟨by rfl, ?_⟩
      intro w hSw
      (try dsimp only at hSw)
      go_simp
      first | done | rfl
    try simp only [Act.put, List.getElem_toArray, List.getElem_cons_zero, List.getElem_cons_succ, List.setIfInBounds_toArray, List.set_cons_zero, List.set_cons_succ]
    refine wpAnyH_take (i := 12) (oi := ?o313) (v := ?v313) ?i313 (by kernel_rfl) (by kernel_rfl) (by kernel_rfl) ?q313 ?y313 (hHeld) ?r313
    case i313 => exact rfl
    case q313 => exact (fun _ _ _ h => h)
    case y313 =>
      refine Or.inl ⟨by rfl, ?_⟩
      intro w hSw
      (try dsimp only at hSw)
      go_simp
      first | done | rfl
    try simp only [Act.put, List.getElem_toArray, List.getElem_cons_zero, List.getElem_cons_succ, List.setIfInBounds_toArray, List.set_cons_zero, List.set_cons_succ]
    refine wpAnyH_take (i := 13) (oi := ?o314) (v := ?v314) ?i314 (by kernel_rfl) (by kernel_rfl) (by kernel_rfl) ?q314 ?y314 (hHeld) ?r314
    case i314 => exact rfl
    case q314 => exact (fun _ _ _ h => h)
    case y314 =>
      refine Or.inl ⟨by rfl, ?_⟩
      intro w hSw
      (try dsimp only at hSw)
      go_simp
      first | done | rfl
    try simp only [Act.put, List.getElem_toArray, List.getElem_cons_zero, List.getElem_cons_succ, List.setIfInBounds_toArray, List.set_cons_zero, List.set_cons_succ]
    refine wpAnyH_take (i := 14) (oi := ?o315) (v := ?v315) ?i315 (by kernel_rfl) (by kernel_rfl) (by kernel_rfl) ?q315 ?y315 (hHeld) ?r315
    case i315 => exact rfl
    case q315 => exact (fun _ _ _ h => h)
    case y315 =>
      refine Or.inl ⟨by rfl, ?_⟩
      intro w hSw
      (try dsimp only at hSw)
      go_simp
      first | done | rfl
    try simp only [Act.put, List.getElem_toArray, List.getElem_cons_zero, List.getElem_cons_succ, List.setIfInBounds_toArray, List.set_cons_zero, List.set_cons_succ]
    refine wpAnyH_take (i := 15) (oi := ?o316) (v := ?v316) ?i316 (by kernel_rfl) (by kernel_rfl) (by kernel_rfl) ?q316 ?y316 (hHeld) ?r316
    case i316 => exact rfl
    case q316 => exact (fun _ _ _ h => h)
    case y316 =>
      refine Or.inl ⟨by rfl, ?_⟩
      intro w hSw
      (try dsimp only at hSw)
      go_simp
      first | done | rfl
    try simp only [Act.put, List.getElem_toArray, List.getElem_cons_zero, List.getElem_cons_succ, List.setIfInBounds_toArray, List.set_cons_zero, List.set_cons_succ]
    refine wpAnyH_take (i := 16) (oi := ?o317) (v := ?v317) ?i317 (by kernel_rfl) (by kernel_rfl) (by kernel_rfl) ?q317 ?y317 (hHeld) ?r317
    case i317 => exact rfl
    case q317 => exact (fun _ _ _ h => h)
    case y317 =>
      refine Or.inl ⟨by rfl, ?_⟩
      intro w hSw
      (try dsimp only at hSw)
      go_simp
      first | done | rfl
    try simp only [Act.put, List.getElem_toArray, List.getElem_cons_zero, List.getElem_cons_succ, List.setIfInBounds_toArray, List.set_cons_zero, List.set_cons_succ]
    refine wpAnyH_take (i := 17) (oi := ?o318) (v := ?v318) ?i318 (by kernel_rfl) (by kernel_rfl) (by kernel_rfl) ?q318 ?y318 (hHeld) ?r318
    case i318 => exact rfl
    case q318 => exact (fun _ _ _ h => h)
    case y318 =>
      refine Or.inl ⟨by rfl, ?_⟩
      intro w hSw
      (try dsimp only at hSw)
      go_simp
      first | done | rfl
    try simp only [Act.put, List.getElem_toArray, List.getElem_cons_zero, List.getElem_cons_succ, List.setIfInBounds_toArray, List.set_cons_zero, List.set_cons_succ]
    refine wpAnyH_take (i := 19) (oi := ?o319) (v := ?v319) ?i319 (by kernel_rfl) (by kernel_rfl) (by kernel_rfl) ?q319 ?y319 (hHeld) ?r319
    case i319 => exact rfl
    case q319 => exact (fun _ _ _ h => h)
    case y319 =>
      refine Or.inl ⟨by rfl, ?_⟩
      intro w hSw
      (try dsimp only at hSw)
      go_simp
      first | done | rfl
    try simp only [Act.put, List.getElem_toArray, List.getElem_cons_zero, List.getElem_cons_succ, List.setIfInBounds_toArray, List.set_cons_zero, List.set_cons_succ]
    refine wpAnyH_take (i := 20) (oi := ?o320) (v := ?v320) ?i320 (by kernel_rfl) (by kernel_rfl) (by kernel_rfl) ?q320 ?y320 (hHeld) ?r320
    case i320 => exact rfl
    case q320 => exact (fun _ _ _ h => h)
    case y320 =>
      refine Or.inl ⟨by rfl, ?_⟩
      intro w hSw
      (try dsimp only at hSw)
      go_simp
      first | done | rfl
    try simp only [Act.put, List.getElem_toArray, List.getElem_cons_zero, List.getElem_cons_succ, List.setIfInBounds_toArray, List.set_cons_zero, List.set_cons_succ]
    refine wpAnyH_ready (rs := [18, 23]) (by kernel_rfl) (by simp) ?_
    refine AllReadyH.cons (i := 18) (o := ?o321) ?i321 ?g321 (AllReadyH.cons (i := 23) (o := ?o322) ?i322 ?g322 AllReadyH.nil)
    case i321 => exact rfl
    case i322 => exact rfl
    case g321 =>
      intro K hK
      go_simp
      (with_reducible refine (HN1 wS (HT.out hB0)).mono ?_)
      rintro e v1 ⟨rfl, hb_v1⟩
      have hB_v1 := hB0.trans (hb_v1.mono hB0.size)
      have hS_v1 := HK.out hB_v1
      go_wp2_with fail
      refine hK.out _ _ (hS_v1) (fun hHeld => ?_)
      clear hK K
      try simp only [Act.put, List.getElem_toArray, List.getElem_cons_zero, List.getElem_cons_succ, List.setIfInBounds_toArray, List.set_cons_zero, List.set_cons_succ]
      refine wpAnyH_ready (rs := [21, 23]) (by kernel_rfl) (by simp) ?_
      refine AllReadyH.cons (i := 21) (o := ?o323) ?i323 ?g323 (AllReadyH.cons (i := 23) (o := ?o324) ?i324 ?g324 AllReadyH.nil)
      case i323 => exact rfl
      case i324 => exact rfl
      case g323 =>
        intro K hK
        go_simp
        (with_reducible refine (HN2 v1 (HT.out hB_v1)).mono ?_)
        rintro e v2 ⟨rfl, hb_v2⟩
        have hB_v2 := hB_v1.trans (hb_v2.mono hB_v1.size)
        have hS_v2 := HK.out hB_v2
        go_wp2_with fail
        refine hK.out _ _ (hS_v2) (fun hHeld => ?_)
        clear hK K
        try simp only [Act.put, List.getElem_toArray, List.getElem_cons_zero, List.getElem_cons_succ, List.setIfInBounds_toArray, List.set_cons_zero, List.set_cons_succ]
        refine wpAnyH_take (i := 22) (oi := ?o325) (v := ?v325) ?i325 (by kernel_rfl) (by kernel_rfl) (by kernel_rfl) ?q325 ?y325 (hHeld) ?r325
        case i325 => exact rfl
        case q325 => exact (fun _ _ _ h => h)
        case y325 =>
          refine Or.inl ⟨by rfl, ?_⟩
          intro w hSw
          (try dsimp only at hSw)
          go_simp
          first | done | rfl
        try simp only [Act.put, List.getElem_toArray, List.getElem_cons_zero, List.getElem_cons_succ, List.setIfInBounds_toArray, List.set_cons_zero, List.set_cons_succ]
        refine wpAnyH_ready (rs := [23]) (by kernel_rfl) (by simp) ?_
        refine AllReadyH.cons (i := 23) (o := ?o326) ?i326 ?g326 AllReadyH.nil
        case i326 => exact rfl
        case g326 =>
          intro K hK
          go_simp
          obtain ⟨v3, e_v3⟩ : ∃ x, x = v2.alloc (.cells #[.int .i64 0, .int .i64 0, .int .i64 0, .int .i64 0, .int .i64 0, .int .i64 0] 25) := ⟨_, rfl⟩
          rw [← e_v3]
          have hb_v3 : Below v2.heap.size v2 v3 := by rw [e_v3]; exact (Below.refl _ _).alloc (Nat.le_refl _) _
          have hA := heap_alloc_new v2 (.cells #[.int .i64 0, .int .i64 0, .int .i64 0, .int .i64 0, .int .i64 0, .int .i64 0] 25)
          rw [← e_v3] at hA
          have hA_ge : w1.heap.size ≤ v2.heap.size := hB_v2.size
          have hB_v3 := hB_v2.trans (hb_v3.mono hB_v2.size)
          clear e_v3
          have hS_v3 := HK.out hB_v3
          refine hK.out _ _ (hS_v3) (fun hHeld => ?_)
          clear hK K
          try simp only [Act.put, List.getElem_toArray, List.getElem_cons_zero, List.getElem_cons_succ, List.setIfInBounds_toArray, List.set_cons_zero, List.set_cons_succ]
          obtain ⟨r0, r1, r2, r3, r4, r5, q0, q1, q2, q3, q4, q5⟩ := row6 hA
          have hBW := put6_below hB_v3 hA_ge (.int .i64 (IntKind.i64.wrap x0)) (.int .i64 (IntKind.i64.wrap x1)) (.int .i64 (IntKind.i64.wrap x2)) (.int .i64 (IntKind.i64.wrap x3)) (.int .i64 n1) (.int .i64 m1)
          have hbW := put6_block (.int .i64 (IntKind.i64.wrap x0)) (.int .i64 (IntKind.i64.wrap x1)) (.int .i64 (IntKind.i64.wrap x2)) (.int .i64 (IntKind.i64.wrap x3)) (.int .i64 n1) (.int .i64 m1) hA
          have HbW : Hid _ := hbW
          have HBW : Hid _ := hBW
          have HSW : Hid _ := HK.out hBW
          clear hbW hBW
          refine wpAnyH_ready (rs := [24]) (by kernel_rfl) (by simp) ?_
          refine AllReadyH.cons (i := 24) (o := ?o327) ?i327 (fun K hK => ?_) AllReadyH.nil
          case i327 => exact rfl
          go_simp
          refine hK.out _ _ (HSW.out) (fun hHeld => ?_)
          clear hK K
          try simp only [Act.put, List.getElem_toArray, List.getElem_cons_zero, List.getElem_cons_succ, List.setIfInBounds_toArray, List.set_cons_zero, List.set_cons_succ]
          refine wpAnyH_done (by kernel_rfl) ?_ _
          go_wp2_with fail
          go_meet
          case rel => exact ⟨_, rfl, HbW.out, HBW.out, hA_ge⟩
      case g324 =>
        intro K hK
        go_simp
        obtain ⟨v4, e_v4⟩ : ∃ x, x = v1.alloc (.cells #[.int .i64 0, .int .i64 0, .int .i64 0, .int .i64 0, .int .i64 0, .int .i64 0] 25) := ⟨_, rfl⟩
        rw [← e_v4]
        have hb_v4 : Below v1.heap.size v1 v4 := by rw [e_v4]; exact (Below.refl _ _).alloc (Nat.le_refl _) _
        have hA := heap_alloc_new v1 (.cells #[.int .i64 0, .int .i64 0, .int .i64 0, .int .i64 0, .int .i64 0, .int .i64 0] 25)
        rw [← e_v4] at hA
        have hA_ge : w1.heap.size ≤ v1.heap.size := hB_v1.size
        have hB_v4 := hB_v1.trans (hb_v4.mono hB_v1.size)
        clear e_v4
        have hS_v4 := HK.out hB_v4
        refine hK.out _ _ (hS_v4) (fun hHeld => ?_)
        clear hK K
        try simp only [Act.put, List.getElem_toArray, List.getElem_cons_zero, List.getElem_cons_succ, List.setIfInBounds_toArray, List.set_cons_zero, List.set_cons_succ]
        refine wpAnyH_ready (rs := [21]) (by kernel_rfl) (by simp) ?_
        refine AllReadyH.cons (i := 21) (o := ?o328) ?i328 ?g328 AllReadyH.nil
        case i328 => exact rfl
        case g328 =>
          intro K hK
          go_simp
          (with_reducible refine (HN2 v4 (HT.out hB_v4)).mono ?_)
          rintro e v5 ⟨rfl, hb_v5⟩
          have hB_v5 := hB_v4.trans (hb_v5.mono hB_v4.size)
          replace hA := (hb_v5.block _ (Array.getElem?_eq_some_iff.1 hA).1).trans hA
          have hS_v5 := HK.out hB_v5
          go_wp2_with fail
          refine hK.out _ _ (hS_v5) (fun hHeld => ?_)
          clear hK K
          try simp only [Act.put, List.getElem_toArray, List.getElem_cons_zero, List.getElem_cons_succ, List.setIfInBounds_toArray, List.set_cons_zero, List.set_cons_succ]
          refine wpAnyH_take (i := 22) (oi := ?o329) (v := ?v329) ?i329 (by kernel_rfl) (by kernel_rfl) (by kernel_rfl) ?q329 ?y329 (hHeld) ?r329
          case i329 => exact rfl
          case q329 => exact (fun _ _ _ h => h)
          case y329 =>
            refine Or.inl ⟨by rfl, ?_⟩
            intro w hSw
            (try dsimp only at hSw)
            go_simp
            first | done | rfl
          try simp only [Act.put, List.getElem_toArray, List.getElem_cons_zero, List.getElem_cons_succ, List.setIfInBounds_toArray, List.set_cons_zero, List.set_cons_succ]
          obtain ⟨r0, r1, r2, r3, r4, r5, q0, q1, q2, q3, q4, q5⟩ := row6 hA
          have hBW := put6_below hB_v5 hA_ge (.int .i64 (IntKind.i64.wrap x0)) (.int .i64 (IntKind.i64.wrap x1)) (.int .i64 (IntKind.i64.wrap x2)) (.int .i64 (IntKind.i64.wrap x3)) (.int .i64 n1) (.int .i64 m1)
          have hbW := put6_block (.int .i64 (IntKind.i64.wrap x0)) (.int .i64 (IntKind.i64.wrap x1)) (.int .i64 (IntKind.i64.wrap x2)) (.int .i64 (IntKind.i64.wrap x3)) (.int .i64 n1) (.int .i64 m1) hA
          have HbW : Hid _ := hbW
          have HBW : Hid _ := hBW
          have HSW : Hid _ := HK.out hBW
          clear hbW hBW
          refine wpAnyH_ready (rs := [24]) (by kernel_rfl) (by simp) ?_
          refine AllReadyH.cons (i := 24) (o := ?o330) ?i330 (fun K hK => ?_) AllReadyH.nil
          case i330 => exact rfl
          go_simp
          refine hK.out _ _ (HSW.out) (fun hHeld => ?_)
          clear hK K
          try simp only [Act.put, List.getElem_toArray, List.getElem_cons_zero, List.getElem_cons_succ, List.setIfInBounds_toArray, List.set_cons_zero, List.set_cons_succ]
          refine wpAnyH_done (by kernel_rfl) ?_ _
          go_wp2_with fail
          go_meet
          case rel => exact ⟨_, rfl, HbW.out, HBW.out, hA_ge⟩
    case g322 =>
      intro K hK
      go_simp
      obtain ⟨v6, e_v6⟩ : ∃ x, x = wS.alloc (.cells #[.int .i64 0, .int .i64 0, .int .i64 0, .int .i64 0, .int .i64 0, .int .i64 0] 25) := ⟨_, rfl⟩
      rw [← e_v6]
      have hb_v6 : Below wS.heap.size wS v6 := by rw [e_v6]; exact (Below.refl _ _).alloc (Nat.le_refl _) _
      have hA := heap_alloc_new wS (.cells #[.int .i64 0, .int .i64 0, .int .i64 0, .int .i64 0, .int .i64 0, .int .i64 0] 25)
      rw [← e_v6] at hA
      have hA_ge : w1.heap.size ≤ wS.heap.size := hB0.size
      have hB_v6 := hB0.trans (hb_v6.mono hB0.size)
      clear e_v6
      have hS_v6 := HK.out hB_v6
      refine hK.out _ _ (hS_v6) (fun hHeld => ?_)
      clear hK K
      try simp only [Act.put, List.getElem_toArray, List.getElem_cons_zero, List.getElem_cons_succ, List.setIfInBounds_toArray, List.set_cons_zero, List.set_cons_succ]
      refine wpAnyH_ready (rs := [18]) (by kernel_rfl) (by simp) ?_
      refine AllReadyH.cons (i := 18) (o := ?o331) ?i331 ?g331 AllReadyH.nil
      case i331 => exact rfl
      case g331 =>
        intro K hK
        go_simp
        (with_reducible refine (HN1 v6 (HT.out hB_v6)).mono ?_)
        rintro e v7 ⟨rfl, hb_v7⟩
        have hB_v7 := hB_v6.trans (hb_v7.mono hB_v6.size)
        replace hA := (hb_v7.block _ (Array.getElem?_eq_some_iff.1 hA).1).trans hA
        have hS_v7 := HK.out hB_v7
        go_wp2_with fail
        refine hK.out _ _ (hS_v7) (fun hHeld => ?_)
        clear hK K
        try simp only [Act.put, List.getElem_toArray, List.getElem_cons_zero, List.getElem_cons_succ, List.setIfInBounds_toArray, List.set_cons_zero, List.set_cons_succ]
        refine wpAnyH_ready (rs := [21]) (by kernel_rfl) (by simp) ?_
        refine AllReadyH.cons (i := 21) (o := ?o332) ?i332 ?g332 AllReadyH.nil
        case i332 => exact rfl
        case g332 =>
          intro K hK
          go_simp
          (with_reducible refine (HN2 v7 (HT.out hB_v7)).mono ?_)
          rintro e v8 ⟨rfl, hb_v8⟩
          have hB_v8 := hB_v7.trans (hb_v8.mono hB_v7.size)
          replace hA := (hb_v8.block _ (Array.getElem?_eq_some_iff.1 hA).1).trans hA
          have hS_v8 := HK.out hB_v8
          go_wp2_with fail
          refine hK.out _ _ (hS_v8) (fun hHeld => ?_)
          clear hK K
          try simp only [Act.put, List.getElem_toArray, List.getElem_cons_zero, List.getElem_cons_succ, List.setIfInBounds_toArray, List.set_cons_zero, List.set_cons_succ]
          refine wpAnyH_take (i := 22) (oi := ?o333) (v := ?v333) ?i333 (by kernel_rfl) (by kernel_rfl) (by kernel_rfl) ?q333 ?y333 (hHeld) ?r333
          case i333 => exact rfl
          case q333 => exact (fun _ _ _ h => h)
          case y333 =>
            refine Or.inl ⟨by rfl, ?_⟩
            intro w hSw
            (try dsimp only at hSw)
            go_simp
            first | done | rfl
          try simp only [Act.put, List.getElem_toArray, List.getElem_cons_zero, List.getElem_cons_succ, List.setIfInBounds_toArray, List.set_cons_zero, List.set_cons_succ]
          obtain ⟨r0, r1, r2, r3, r4, r5, q0, q1, q2, q3, q4, q5⟩ := row6 hA
          have hBW := put6_below hB_v8 hA_ge (.int .i64 (IntKind.i64.wrap x0)) (.int .i64 (IntKind.i64.wrap x1)) (.int .i64 (IntKind.i64.wrap x2)) (.int .i64 (IntKind.i64.wrap x3)) (.int .i64 n1) (.int .i64 m1)
          have hbW := put6_block (.int .i64 (IntKind.i64.wrap x0)) (.int .i64 (IntKind.i64.wrap x1)) (.int .i64 (IntKind.i64.wrap x2)) (.int .i64 (IntKind.i64.wrap x3)) (.int .i64 n1) (.int .i64 m1) hA
          have HbW : Hid _ := hbW
          have HBW : Hid _ := hBW
          have HSW : Hid _ := HK.out hBW
          clear hbW hBW
          refine wpAnyH_ready (rs := [24]) (by kernel_rfl) (by simp) ?_
          refine AllReadyH.cons (i := 24) (o := ?o334) ?i334 (fun K hK => ?_) AllReadyH.nil
          case i334 => exact rfl
          go_simp
          refine hK.out _ _ (HSW.out) (fun hHeld => ?_)
          clear hK K
          try simp only [Act.put, List.getElem_toArray, List.getElem_cons_zero, List.getElem_cons_succ, List.setIfInBounds_toArray, List.set_cons_zero, List.set_cons_succ]
          refine wpAnyH_done (by kernel_rfl) ?_ _
          go_wp2_with fail
          go_meet
          case rel => exact ⟨_, rfl, HbW.out, HBW.out, hA_ge⟩
  case rest =>
    obtain ⟨gA, rfl, hA, hbc, hge⟩ := hcut
    obtain ⟨E0, E1, E2, E3⟩ := HE.out
    rw [E0, E1, E2, E3] at hA
    clear E0 E1 E2 E3 HE HN1 HN2 HT
    have hgc : g < wc.heap.size := Nat.lt_of_lt_of_le hgs hbc.size
    have hz := (hbc.block g hgs).trans HZ.out
    have hb := HB.out.trans (hbc.mono (Nat.le_of_lt hgs))
    have hAl := (Array.getElem?_eq_some_iff.1 hA).1
    obtain ⟨a0, a1, a2, a3, a4, a5, _⟩ := row6 hA
    have Hz : Hid _ := hz
    have Hb : Hid _ := hb
    have HA : Hid _ := hA
    clear hz hb hA hbc HZ HB
    go_wp2_with fail
    refine (HI _).mono ?_
    rintro e w2 ⟨rfl, o, d, rfl⟩
    have hb2 : Below wc.heap.size wc ((wc.alloc o).drewN d) := below_drewN ((Below.refl _ _).alloc (Nat.le_refl _) _) _
    have hz2 := (hb2.block g hgc).trans Hz.out
    have hA2 := (hb2.block gA hAl).trans HA.out
    have hB2 := Hb.out.trans (hb2.mono (Nat.le_of_lt hgc))
    clear hb2 Hz HA Hb a0 a1 a2 a3 a4 a5 HI
    generalize (wc.alloc o).drewN d = w2 at *
    obtain ⟨z0, z1, z2, z3, z4, z5, y0, y1, y2, y3, y4, y5⟩ := row6 hz2
    obtain ⟨a0, a1, a2, a3, a4, a5, _⟩ := row6 hA2
    have HZ : Hid _ := hz2
    have HB : Hid _ := hB2
    clear hz2 hB2 hA2
    cases ok
    · go_wp2_with fail
      have hb3 := put6_block (.int .i64 0) (.int .i64 0) (.int .i64 0) (.int .i64 0) (.int .i64 0) (.int .i64 0) HZ.out
      have hd3 := put6_below HB.out (Nat.le_refl g) (.int .i64 0) (.int .i64 0) (.int .i64 0) (.int .i64 0) (.int .i64 0) (.int .i64 0)
      show bodyPost _ _ _ _ _ (put6 w2 g (.int .i64 0) (.int .i64 0) (.int .i64 0) (.int .i64 0) (.int .i64 0) (.int .i64 0))
      generalize put6 w2 g (.int .i64 0) (.int .i64 0) (.int .i64 0) (.int .i64 0) (.int .i64 0) (.int .i64 0) = W at hb3 hd3 ⊢
      obtain ⟨d0, d1, d2, d3, d4, d5, _⟩ := row6 hb3
      refine bodyPost_ret (v := .tuple #[.agg #[.int .i64 0, .int .i64 0, .int .i64 0, .int .i64 0, .int .i64 0, .int .i64 0], .bool false]) (by simp [results, Tryd.results18, go_sem, d0, d1, d2, d3, d4, d5]) rfl ⟨rfl, by rw [HG.out]; exact hd3⟩
    · go_wp2_with fail
      have hb3 := put6_block (.int .i64 x0) (.int .i64 x1) (.int .i64 x2) (.int .i64 x3) (.int .i64 n1) (.int .i64 m1) HZ.out
      have hd3 := put6_below HB.out (Nat.le_refl g) (.int .i64 x0) (.int .i64 x1) (.int .i64 x2) (.int .i64 x3) (.int .i64 n1) (.int .i64 m1)
      show bodyPost _ _ _ _ _ (put6 w2 g (.int .i64 x0) (.int .i64 x1) (.int .i64 x2) (.int .i64 x3) (.int .i64 n1) (.int .i64 m1))
      generalize put6 w2 g (.int .i64 x0) (.int .i64 x1) (.int .i64 x2) (.int .i64 x3) (.int .i64 n1) (.int .i64 m1) = W at hb3 hd3 ⊢
      obtain ⟨d0, d1, d2, d3, d4, d5, _⟩ := row6 hb3
      refine bodyPost_ret (v := .tuple #[.agg #[.int .i64 x0, .int .i64 x1, .int .i64 x2, .int .i64 x3, .int .i64 n1, .int .i64 m1], .bool true]) (by simp [results, Tryd.results18, go_sem, d0, d1, d2, d3, d4, d5]) rfl ⟨rfl, by rw [HG.out]; exact hd3⟩
end Go.Proofs.YtjhnfmapjpfjcaaDoor

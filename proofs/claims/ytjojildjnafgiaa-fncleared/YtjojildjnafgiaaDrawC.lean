/- The drawn arguments of Clear: a memory and two ints. -/
import Derived.Test.YtjojildjnafgiaaDrawM
namespace Go.Proofs.Ytjojildjnafgiaa
open Go.RowKit
set_option linter.unusedVariables false
set_option linter.unusedSimpArgs false
set_option maxRecDepth 100000

/-- Where the draw stands: the result's block gs, the cursor g, the memory's variable gm. -/
structure C0 (w : World) (gs : Nat) (wr : World) (g gm : Nat) (a : Option Addr) (n c : Nat) (l : List Wd) : Prop where
  r0 : wr.heap[gs]? = some (.cells #[.slice none 0 0] 25 (0, 0))
  bl : Below gs w wr
  cu : Cur wr g
  mm : wr.heap[gm]? = some (.cells #[.slice a n c] 25 (0, 0))
  md : MemD (g + 1) wr a n l
  o1 : gs < g
  o2 : g < gm
  sz : gm < wr.heap.size

theorem C0.grow {w wr w' : World} {gs g gm n c : Nat} {a : Option Addr} {l : List Wd} {row : Option Nat} (h : C0 w gs wr g gm a n c l) (hgr : wr.grownBy w' row) (hrow : ∀ k, row = some k → k = g) (hc : Cur w' g) : C0 w gs w' g gm a n c l := by
  have h1 := h.o1
  have h2 := h.o2
  have h4 := h.sz
  have hne : ∀ k, k ≠ g → some k ≠ row := fun k hk e => hk (hrow k e.symm)
  exact ⟨(hgr.block _ (by omega) (hne _ (by omega))).trans h.r0, h.bl.grown hgr (by omega) (fun k hk => by have := hrow k hk; omega), hc, (hgr.block _ (by omega) (hne _ (by omega))).trans h.mm, h.md.kept hgr (fun k hk => by have := hrow k hk; omega), h1, h2, Nat.lt_of_lt_of_le h4 hgr.size⟩
theorem C0.drawn {w wr w' : World} {gs g gm n c : Nat} {a : Option Addr} {l : List Wd} (h : C0 w gs wr g gm a n c l) (hd : Drawn wr w' g) : C0 w gs w' g gm a n c l := h.grow hd.2 (by intro k hk; cases hk; rfl) hd.1
theorem C0.alloc {w wr : World} {gs g gm n c : Nat} {a : Option Addr} {l : List Wd} (h : C0 w gs wr g gm a n c l) (o : Obj) : C0 w gs (wr.alloc o) g gm a n c l := h.grow (row := none) (World.grownBy_alloc wr o none) (by intro k hk; cases hk) (h.cu.alloc o)
theorem C0.drew {w wr : World} {gs g gm n c : Nat} {a : Option Addr} {l : List Wd} (h : C0 w gs wr g gm a n c l) : C0 w gs wr.drew g gm a n c l :=
  h.grow (row := none) (below_grows (Below.refl _ _).drew) (by intro k hk; cases hk) (h.cu.kept (row := none) (below_grows (Below.refl _ _).drew) (by intro k hk; cases hk))

theorem C0.done {w wr : World} {gs g gm n c : Nat} {a : Option Addr} {l : List Wd} (h : C0 w gs wr g gm a n c l) :
    (wr.setCell ⟨gs, 0, none⟩ (.slice a n c)).heap[gs]? = some (.cells #[.slice a n c] 25 (0, 0)) ∧ (wr.setCell ⟨gs, 0, none⟩ (.slice a n c)).heap[gm]? = some (.cells #[.slice a n c] 25 (0, 0)) ∧ MemD gs (wr.setCell ⟨gs, 0, none⟩ (.slice a n c)) a n l ∧ Below gs w (wr.setCell ⟨gs, 0, none⟩ (.slice a n c)) := by
  have h1 := h.o1
  have h2 := h.o2
  have h4 := h.sz
  have g1 := set_grown wr gs 0 (.slice a n c)
  refine ⟨by rw [heap_setCell_same wr gs 0 _ _ _ h.r0]; rfl, (g1.block gm (by omega) (by simp; omega)).trans h.mm, (h.md.kept g1 (by intro k hk; cases hk; omega)).mono (by omega), h.bl.grown g1 (by omega) (fun k hk => by cases hk; omega)⟩

theorem five_in (a b c d e : Int) (h1 : InInt a) (h2 : InInt b) (h3 : InInt c) (h4 : InInt d) (h5 : InInt e) : ∀ x ∈ [a, b, c, d, e], InInt x := by
  intro x hx
  simp only [List.mem_cons, List.not_mem_nil, or_false] at hx
  rcases hx with rfl | rfl | rfl | rfl | rfl <;> assumption

set_option maxHeartbeats 8000000 in
theorem drawClearM (ar : Option Addr) (nr cr : Nat) (lr : List Int) (w : World) (h : BRow w ar nr lr) (hnr : nr ≤ 9223372036854775807) :
    Calls Try.prog 5 #[.slice ar nr cr] w fun e w' => ∃ a n c l lo hi, e = .returned (.tuple #[.agg #[.slice a n c], .int .i64 lo, .int .i64 hi]) ∧ MemD w.heap.size w' a n l ∧ Below w.heap.size w w' := by
  have hb0 : Below w.heap.size w (w.alloc (.cells #[.slice none 0 0] 25)) := (Below.refl _ _).alloc (Nat.le_refl _) _
  have hr0 := heap_alloc_new w (.cells #[.slice none 0 0] 25)
  have hsz : (w.alloc (.cells #[.slice none 0 0] 25)).heap.size = w.heap.size + 1 := by simp
  have hR := h.below hb0
  clear h
  go_enter Try.func5, Try.ntmps5
  go_upto_region 1 with fail
  generalize w.alloc (.cells #[.slice none 0 0] 25) = w1 at *
  generalize hg : w.heap.size = gs at *
  have HG : Hid (w.heap.size = gs) := hg
  have HR : Hid (BRow w1 ar nr lr) := hR
  have H0 : Hid (w1.heap[gs]? = some (.cells #[.slice none 0 0] 25 (0, 0)) ∧ Below gs w w1 ∧ w1.heap.size = gs + 1) := ⟨hr0, hb0, hsz⟩
  clear hg hR hr0 hb0 hsz
  go_wp2_with fail
  refine (newM ar nr cr lr w1 HR.out hnr).mono ?_
  rintro e w2 ⟨g, rfl, hg2, hc2, hb2⟩
  have HC2 : Hid (Cur w2 g) := hc2
  have HB2 : Hid (Below w1.heap.size w1 w2) := hb2
  have HG2 : Hid (w1.heap.size ≤ g) := hg2
  clear hg2 hc2 hb2 HR
  go_wp2_with fail
  refine (memoryM g w2 HC2.out).mono ?_
  rintro e w3 ⟨a, n, c, l, rfl, hmd, hd3⟩
  have hn40 : n ≤ 40 := hmd.2.1
  have L3 : Hid (C0 w gs (w3.alloc (.cells #[.slice a n c] 25)) g w3.heap.size a n c l) := by
    obtain ⟨q0, qb, qs⟩ := H0.out
    have hge := HG2.out
    have hb := HB2.out
    have hgl := HC2.out.lt
    have hs3 := hd3.2.size
    have hne : ∀ k, k ≠ g → some k ≠ some g := fun k hk e => hk (by simpa using e)
    have k0 := (hd3.2.block gs (by have := hb.size; omega) (hne _ (by omega))).trans ((hb.block gs (by omega)).trans q0)
    have kb := (qb.trans (hb.mono (by omega))).grown hd3.2 (by have := hb.size; omega) (fun k hk => by cases hk; omega)
    have kmd := hmd.mono (show g + 1 ≤ w2.heap.size by omega)
    exact ⟨(alloc_block (by omega)).trans k0, kb.alloc (by omega) _, hd3.1.alloc _, heap_alloc_new w3 _, kmd.kept (row := none) (World.grownBy_alloc w3 _ none) (by intro k hk; cases hk), by omega, by omega, by simp⟩
  clear hmd hd3 H0 HC2 HB2 HG2
  go_upto_region 3 with fail
  generalize w3.alloc (.cells #[.slice a n c] 25) = w4 at *
  generalize w3.heap.size = gm at *
  obtain ⟨cm, _⟩ := one_facts L3.out.mm
  go_wp2_with fail
  refine (belowM g _ w4 L3.out.cu (by omega)).mono ?_
  rintro e w5 ⟨z, rfl, z0, z1, _, hd5⟩
  replace z1 := z1 (by omega)
  have L5 : Hid (C0 w gs w5 g gm a n c l) := L3.out.drawn hd5
  clear hd5 L3 cm
  go_upto_region 4 with fail
  have L6 : Hid (C0 w gs w5.drew g gm a n c l) := L5.out.drew
  clear L5
  refine wp_region_held_drew (S := fun wx => wx.cell? ⟨gm, 0, none⟩ = some (.slice a n c)) (by kernel_rfl) (one_facts L6.out.mm).1 (fun hHeld => ?_)
  generalize w5.drew = wS at L6 hHeld ⊢
  refine wpAnyH_take (i := 0) (oi := ?o501) (v := ?v501) ?i501 (by kernel_rfl) (by kernel_rfl) (by kernel_rfl) ?q501 ?y501 (hHeld) ?r501
  case i501 => exact rfl
  case q501 => exact (fun _ _ _ h => h)
  case y501 =>
    refine Or.inl ⟨by rfl, ?_⟩
    intro w hSw
    (try dsimp only at hSw)
    go_simp
    first | done | rfl
  try simp only [Act.put, List.getElem_toArray, List.getElem_cons_zero, List.getElem_cons_succ, List.setIfInBounds_toArray, List.set_cons_zero, List.set_cons_succ]
  refine wpAnyH_take (i := 1) (oi := ?o502) (v := ?v502) ?i502 (by kernel_rfl) (by kernel_rfl) (by kernel_rfl) ?q502 ?y502 (hHeld) ?r502
  case i502 => exact rfl
  case q502 => exact (fun _ _ _ h => h)
  case y502 =>
    refine Or.inl ⟨by rfl, ?_⟩
    intro w hSw
    (try dsimp only at hSw)
    go_simp
    first | done | rfl
  try simp only [Act.put, List.getElem_toArray, List.getElem_cons_zero, List.getElem_cons_succ, List.setIfInBounds_toArray, List.set_cons_zero, List.set_cons_succ]
  refine wpAnyH_take (i := 2) (oi := ?o503) (v := ?v503) ?i503 (by kernel_rfl) (by kernel_rfl) (by kernel_rfl) ?q503 ?y503 (hHeld) ?r503
  case i503 => exact rfl
  case q503 => exact (fun _ _ _ h => h)
  case y503 =>
    refine Or.inl ⟨by rfl, ?_⟩
    intro w hSw
    (try dsimp only at hSw)
    go_simp
    first | done | rfl
  try simp only [Act.put, List.getElem_toArray, List.getElem_cons_zero, List.getElem_cons_succ, List.setIfInBounds_toArray, List.set_cons_zero, List.set_cons_succ]
  refine wpAnyH_take (i := 3) (oi := ?o504) (v := ?v504) ?i504 (by kernel_rfl) (by kernel_rfl) (by kernel_rfl) ?q504 ?y504 (hHeld) ?r504
  case i504 => exact rfl
  case q504 => exact (fun _ _ _ h => h)
  case y504 =>
    refine Or.inl ⟨by rfl, ?_⟩
    intro w hSw
    (try dsimp only at hSw)
    go_simp
    first | done | rfl
  try simp only [Act.put, List.getElem_toArray, List.getElem_cons_zero, List.getElem_cons_succ, List.setIfInBounds_toArray, List.set_cons_zero, List.set_cons_succ]
  refine wpAnyH_take (i := 4) (oi := ?o505) (v := ?v505) ?i505 (by kernel_rfl) (by kernel_rfl) (by kernel_rfl) ?q505 ?y505 (hHeld) ?r505
  case i505 => exact rfl
  case q505 => exact (fun _ _ _ h => h)
  case y505 =>
    refine Or.inl ⟨by rfl, ?_⟩
    intro w hSw
    (try dsimp only at hSw)
    go_simp
    first | done | rfl
  try simp only [Act.put, List.getElem_toArray, List.getElem_cons_zero, List.getElem_cons_succ, List.setIfInBounds_toArray, List.set_cons_zero, List.set_cons_succ]
  refine wpAnyH_take (i := 5) (oi := ?o506) (v := ?v506) ?i506 (by kernel_rfl) (by kernel_rfl) (by kernel_rfl) ?q506 ?y506 (hHeld) ?r506
  case i506 => exact rfl
  case q506 => exact (fun _ _ _ h => h)
  case y506 =>
    refine Or.inl ⟨by rfl, ?_⟩
    intro w hSw
    (try dsimp only at hSw)
    go_simp
    first | done | rfl
  try simp only [Act.put, List.getElem_toArray, List.getElem_cons_zero, List.getElem_cons_succ, List.setIfInBounds_toArray, List.set_cons_zero, List.set_cons_succ]
  refine wpAnyH_take (i := 6) (oi := ?o507) (v := ?v507) ?i507 (by kernel_rfl) (by kernel_rfl) (by kernel_rfl) ?q507 ?y507 (hHeld) ?r507
  case i507 => exact rfl
  case q507 => exact (fun _ _ _ h => h)
  case y507 =>
    refine Or.inl ⟨by rfl, ?_⟩
    intro w hSw
    (try dsimp only at hSw)
    go_simp
    first | done | rfl
  try simp only [Act.put, List.getElem_toArray, List.getElem_cons_zero, List.getElem_cons_succ, List.setIfInBounds_toArray, List.set_cons_zero, List.set_cons_succ]
  refine wpAnyH_take (i := 7) (oi := ?o508) (v := ?v508) ?i508 (by kernel_rfl) (by kernel_rfl) (by kernel_rfl) ?q508 ?y508 (hHeld) ?r508
  case i508 => exact rfl
  case q508 => exact (fun _ _ _ h => h)
  case y508 =>
    refine Or.inl ⟨by rfl, ?_⟩
    intro w hSw
    (try dsimp only at hSw)
    go_simp
    first | done | rfl
  try simp only [Act.put, List.getElem_toArray, List.getElem_cons_zero, List.getElem_cons_succ, List.setIfInBounds_toArray, List.set_cons_zero, List.set_cons_succ]
  refine wpAnyH_take (i := 8) (oi := ?o509) (v := ?v509) ?i509 (by kernel_rfl) (by kernel_rfl) (by kernel_rfl) ?q509 ?y509 (hHeld) ?r509
  case i509 => exact rfl
  case q509 => exact (fun _ _ _ h => h)
  case y509 =>
    refine Or.inl ⟨by rfl, ?_⟩
    intro w hSw
    (try dsimp only at hSw)
    go_simp
    first | done | rfl
  try simp only [Act.put, List.getElem_toArray, List.getElem_cons_zero, List.getElem_cons_succ, List.setIfInBounds_toArray, List.set_cons_zero, List.set_cons_succ]
  refine wpAnyH_take (i := 9) (oi := ?o510) (v := ?v510) ?i510 (by kernel_rfl) (by kernel_rfl) (by kernel_rfl) ?q510 ?y510 (hHeld) ?r510
  case i510 => exact rfl
  case q510 => exact (fun _ _ _ h => h)
  case y510 =>
    refine Or.inl ⟨by rfl, ?_⟩
    intro w hSw
    (try dsimp only at hSw)
    go_simp
    first | done | rfl
  try simp only [Act.put, List.getElem_toArray, List.getElem_cons_zero, List.getElem_cons_succ, List.setIfInBounds_toArray, List.set_cons_zero, List.set_cons_succ]
  refine wpAnyH_take (i := 10) (oi := ?o511) (v := ?v511) ?i511 (by kernel_rfl) (by kernel_rfl) (by kernel_rfl) ?q511 ?y511 (hHeld) ?r511
  case i511 => exact rfl
  case q511 => exact (fun _ _ _ h => h)
  case y511 =>
    refine Or.inl ⟨by rfl, ?_⟩
    intro w hSw
    (try dsimp only at hSw)
    go_simp
    first | done | rfl
  try simp only [Act.put, List.getElem_toArray, List.getElem_cons_zero, List.getElem_cons_succ, List.setIfInBounds_toArray, List.set_cons_zero, List.set_cons_succ]
  refine wpAnyH_take (i := 11) (oi := ?o512) (v := ?v512) ?i512 (by kernel_rfl) (by kernel_rfl) (by kernel_rfl) ?q512 ?y512 (hHeld) ?r512
  case i512 => exact rfl
  case q512 => exact (fun _ _ _ h => h)
  case y512 =>
    refine Or.inl ⟨by rfl, ?_⟩
    intro w hSw
    (try dsimp only at hSw)
    go_simp
    first | done | rfl
  try simp only [Act.put, List.getElem_toArray, List.getElem_cons_zero, List.getElem_cons_succ, List.setIfInBounds_toArray, List.set_cons_zero, List.set_cons_succ]
  refine wpAnyH_take (i := 12) (oi := ?o513) (v := ?v513) ?i513 (by kernel_rfl) (by kernel_rfl) (by kernel_rfl) ?q513 ?y513 (hHeld) ?r513
  case i513 => exact rfl
  case q513 => exact (fun _ _ _ h => h)
  case y513 =>
    refine Or.inl ⟨by rfl, ?_⟩
    intro w hSw
    (try dsimp only at hSw)
    go_simp
    first | done | rfl
  try simp only [Act.put, List.getElem_toArray, List.getElem_cons_zero, List.getElem_cons_succ, List.setIfInBounds_toArray, List.set_cons_zero, List.set_cons_succ]
  have e1 : IntKind.i64.wrap ((n : Int) + 1) = (n : Int) + 1 := by rw [IntKind.wrap_i64]; omega
  have e2 : IntKind.i64.wrap (z - 1 + 3) = z - 1 + 3 := by rw [IntKind.wrap_i64]; omega
  refine wpAnyH_ready (rs := [13]) (by kernel_rfl) (by simp) ?_
  refine AllReadyH.cons (i := 13) (o := ?o514) ?i514 (fun K hK => ?_) AllReadyH.nil
  case i514 => exact rfl
  go_simp
  have hints := ints_block wS [z - 1, (n : Int), (n : Int) + 1, z - 1 + 3, 4611686018427387904] (five_in _ _ _ _ _ ⟨by omega, by omega⟩ ⟨by omega, by omega⟩ ⟨by omega, by omega⟩ ⟨by omega, by omega⟩ ⟨by omega, by omega⟩)
  have LB : Hid (C0 w gs (wS.alloc (.cells #[.int .i64 (z - 1), .int .i64 (n : Int), .int .i64 ((n : Int) + 1), .int .i64 (z - 1 + 3), .int .i64 4611686018427387904] 3)) g gm a n c l) := L6.out.alloc _
  have hgA : g < wS.heap.size := L6.out.cu.lt
  have HN : Hid (∀ j, j < 5 → ∃ v, (wS.alloc (.cells #[.int .i64 (z - 1), .int .i64 (n : Int), .int .i64 ((n : Int) + 1), .int .i64 (z - 1 + 3), .int .i64 4611686018427387904] 3)).cell? ⟨wS.heap.size, j, none⟩ = some (.int .i64 v) ∧ InInt v) := hints
  clear hints L6 e1 e2
  generalize (wS.alloc (.cells #[.int .i64 (z - 1), .int .i64 (n : Int), .int .i64 ((n : Int) + 1), .int .i64 (z - 1 + 3), .int .i64 4611686018427387904] 3)) = wB at *
  generalize wS.heap.size = gi at *
  have HC : Hid (Cur wB g) := LB.out.cu
  refine hK.out _ _ ((one_facts LB.out.mm).1) (fun hHeld => ?_)
  clear hK K
  try simp only [Act.put, List.getElem_toArray, List.getElem_cons_zero, List.getElem_cons_succ, List.setIfInBounds_toArray, List.set_cons_zero, List.set_cons_succ]
  refine wpAnyH_ready (rs := [14]) (by kernel_rfl) (by simp) ?_
  refine AllReadyH.cons (i := 14) (o := ?o515) ?i515 (fun K hK => ?_) AllReadyH.nil
  case i515 => exact rfl
  go_simp
  (with_reducible refine (pickM g gi 5 5 wB HC.out hgA (by omega) (by omega) HN.out).mono ?_)
  rintro e wC ⟨hi, rfl, hhi, hdC⟩
  have LC : Hid (C0 w gs wC g gm a n c l) := LB.out.drawn hdC
  clear hhi hdC LB HC HN
  go_wp2_with fail
  refine hK.out _ _ ((one_facts LC.out.mm).1) (fun hHeld => ?_)
  clear hK K
  try simp only [Act.put, List.getElem_toArray, List.getElem_cons_zero, List.getElem_cons_succ, List.setIfInBounds_toArray, List.set_cons_zero, List.set_cons_succ]
  obtain ⟨c0, f0⟩ := one_facts LC.out.r0
  have HD : Hid _ := LC.out.done
  refine wpAnyH_ready (rs := [15]) (by kernel_rfl) (by simp) ?_
  refine AllReadyH.cons (i := 15) (o := ?o516) ?i516 (fun K hK => ?_) AllReadyH.nil
  case i516 => exact rfl
  go_simp
  clear LC c0 f0
  generalize wC.setCell ⟨gs, 0, none⟩ (.slice a n c) = wE at *
  refine hK.out _ _ ((one_facts HD.out.2.1).1) (fun hHeld => ?_)
  clear hK K
  try simp only [Act.put, List.getElem_toArray, List.getElem_cons_zero, List.getElem_cons_succ, List.setIfInBounds_toArray, List.set_cons_zero, List.set_cons_succ]
  refine wpAnyH_take (i := 16) (oi := ?o517) (v := ?v517) ?i517 (by kernel_rfl) (by kernel_rfl) (by kernel_rfl) ?q517 ?y517 (hHeld) ?r517
  case i517 => exact rfl
  case q517 => exact (fun _ _ _ h => h)
  case y517 =>
    refine Or.inl ⟨by rfl, ?_⟩
    intro w hSw
    (try dsimp only at hSw)
    go_simp
    first | done | rfl
  try simp only [Act.put, List.getElem_toArray, List.getElem_cons_zero, List.getElem_cons_succ, List.setIfInBounds_toArray, List.set_cons_zero, List.set_cons_succ]
  refine wpAnyH_take (i := 17) (oi := ?o518) (v := ?v518) ?i518 (by kernel_rfl) (by kernel_rfl) (by kernel_rfl) ?q518 ?y518 (hHeld) ?r518
  case i518 => exact rfl
  case q518 => exact (fun _ _ _ h => h)
  case y518 =>
    refine Or.inl ⟨by rfl, ?_⟩
    intro w hSw
    (try dsimp only at hSw)
    go_simp
    first | done | rfl
  try simp only [Act.put, List.getElem_toArray, List.getElem_cons_zero, List.getElem_cons_succ, List.setIfInBounds_toArray, List.set_cons_zero, List.set_cons_succ]
  refine wpAnyH_done (by kernel_rfl) ?_ _
  go_wp2_with fail
  obtain ⟨k0, _, kmd, kb⟩ := HD.out
  obtain ⟨d0, _⟩ := one_facts k0
  refine bodyPost_ret (v := .tuple #[.agg #[.slice a n c], .int .i64 (z - 1), .int .i64 hi]) (by simp [results, Try.results5, go_sem, d0]) rfl ⟨_, _, _, _, _, _, rfl, by rw [HG.out]; exact kmd, by rw [HG.out]; exact kb⟩
end Go.Proofs.Ytjojildjnafgiaa

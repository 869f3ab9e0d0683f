/- The law of entries: whatever the bytes, a drawn entry can be made nothing else of, and leads nowhere. -/
import Derived.Test.YtchchigiafacbaaDoorStoreTrap
import Derived.Test.YtchchigiafacbaaDoorWords4
import Derived.Test.YtchchigiafacbaaDoorDraw2
import Derived.Test.YtchchigiafacbaaDoorMemOkLaw
import Derived.Deep.Cut
namespace Go.Proofs.YtchchigiafacbaaDoor
open Go.RowKit Go.WideShapes Go.ChangeShapes
set_option linter.unusedVariables false
set_option linter.unusedSimpArgs false
set_option maxRecDepth 100000

theorem open_bytes {H : Type} {enc : TypeId × Value → H} {w : World} {b0 : Nat} {v : Value} {d : DataW H} {ps : List MemPlace}
    (hv : Value.okWide Tryd.prog w .any b0 22 v) (h : DataW.Trod enc Tryd.prog w 0 (fun _ => true) true 22 v d ps) : ∃ a n c zs, v = .slice a n c ∧ RowIn .u8 w a n c zs := by
  obtain ⟨a, n, c, rfl⟩ := okWide_slice Tryd.underlying22 hv
  obtain ⟨fuel, hf⟩ := h
  rcases open_ints Tryd.underlying22 Tryd.underlying5 (by kernel_rfl) hf with ⟨hcs, _⟩ | ⟨x, l, c, zs, hcs, _, hl, hm, hz, _, hcell, hwz⟩
  · simp [Value.cells] at hcs
    obtain ⟨rfl, rfl, rfl⟩ := hcs
    exact ⟨_, _, _, [], rfl, .inl ⟨rfl, rfl, rfl, rfl⟩⟩
  · simp [Value.cells] at hcs
    obtain ⟨rfl, rfl, rfl⟩ := hcs
    exact ⟨_, _, _, zs, rfl, .inr ⟨_, rfl, hl, hm, by simpa using hz, hcell, hwz⟩⟩

theorem six_ints (v : Int) (hv : InInt v) : ∀ x ∈ [0, 5, 4000, 4001, -1, v], InInt x := by
  intro x hx
  simp only [List.mem_cons, List.not_mem_nil, or_false] at hx
  rcases hx with rfl | rfl | rfl | rfl | rfl | rfl
  · exact ⟨by omega, by omega⟩
  · exact ⟨by omega, by omega⟩
  · exact ⟨by omega, by omega⟩
  · exact ⟨by omega, by omega⟩
  · exact ⟨by omega, by omega⟩
  · exact hv

set_option maxRecDepth 100000 in
set_option maxHeartbeats 4000000 in
theorem drawEntryM (a : Option Addr) (n c : Nat) (l : List Int) (w : World) (h : BRow w a n l) (hn : n ≤ 9223372036854775807) :
    Calls Tryd.prog 7 #[.slice a n c] w fun e w' => ∃ m q, e = .returned (.tuple #[.int .i64 m, .int .i64 q]) ∧ InInt m ∧ InInt q ∧ Below w.heap.size w w' := by
  go_enter Tryd.func7, Tryd.ntmps7
  go_wp2_with fail
  refine (newM a n c l _ h hn).mono ?_
  rintro e w1 ⟨g, rfl, hg, hc1, hb1⟩
  clear h
  have hl1 := hc1.lt
  go_wp2_with fail
  refine (pickM g w1.heap.size 6 6 _ (hc1.alloc _) hl1 (by omega) (by omega) (ints_block w1 [0, 1, 7, 8, -1, 4611686018427387904] (inInt_all _ (by decide)))).mono ?_
  rintro e w2 ⟨v, rfl, hv, hc2, hd2⟩
  have hb2 : Below w.heap.size w w2 := Below.drawn (hb1.alloc hb1.size _) hd2 (by have := hb1.size; simp; omega) hg
  clear hb1 hd2 hc1
  go_wp2_with fail
  refine (belowM g _ _ hc2 (by omega)).mono ?_
  rintro e w3 ⟨x, rfl, hx0, hx1, _, hc3, hd3⟩
  replace hx1 : x < 99 := hx1 (by omega)
  have hb3 : Below w.heap.size w w3 := Below.drawn hb2 hd3 hb2.size hg
  have hl3 := hc3.lt
  clear hb2 hd3 hc2
  go_wp2_with fail
  refine (pickM g w3.heap.size 6 6 _ (hc3.alloc _) hl3 (by omega) (by omega) (ints_block w3 [0, 5, 4000, 4001, -1, x] (six_ints x ⟨by omega, by omega⟩))).mono ?_
  rintro e w4 ⟨v2, rfl, hv2, hc4, hd4⟩
  have hb4 : Below w.heap.size w w4 := Below.drawn (hb3.alloc hb3.size _) hd4 (by have := hb3.size; simp; omega) hg
  clear hb3 hd4 hc3 hc4
  go_wp2_with fail
  go_ret2
  exact ⟨_, _, rfl, hv, hv2, hb4⟩

theorem zero_ok : okB false 0 0 0 0 0 0 = true := by simp [okB, isIntB, wrap64, wrap32]
theorem one_ok : okB false 1 0 0 0 0 0 = true := by simp [okB, isIntB, wrap64, wrap32]
theorem zeros_mem : memB (List.replicate 5 zeroW) = true := by
  have h : fitW 5 zeroW = true := by rw [fitW, okW]; simp [zeroW, dataW, zero_ok]
  simp [memB, h]
theorem zeros_in : ∀ x ∈ List.replicate 5 zeroW, In64 x.s := fun x hx => by rw [List.eq_of_mem_replicate hx]; exact ⟨by simp [zeroW], by simp [zeroW]⟩

theorem entry_ok (m q : Int) (h0 : 0 ≤ m) (h1 : m ≤ 7) (h2 : 0 ≤ q) (h3 : q ≤ 4000) : okB true 0 0 0 q 16 (m + 1) = true ∧ wayB true 0 0 0 q 16 (m + 1) = false := by
  have hne : ((m + 1) == (0 : Int)) = false := by rw [beq_eq_false_iff_ne]; omega
  have he : entryB true 0 0 0 q 16 (m + 1) = true := by simp [entryB, inR]; omega
  exact ⟨by rw [okB, he]; simp, by rw [wayB, hne]; simp⟩

theorem entry_load (l : List Wd) (m q : Int) (h0 : 0 ≤ m) (h1 : m ≤ 7) (h2 : 0 ≤ q) (h3 : q ≤ 4000) (hm : memB l = true) : fullT l true 0 0 0 q 16 (m + 1) 0 = 1 ∧ fullV l true 0 0 0 q 16 (m + 1) 0 = zeroW := by
  obtain ⟨e1, e2⟩ := full_J l true 0 0 0 q 16 (m + 1) 0 hm
  rw [e1, e2, loadJ, loadU, (entry_ok m q h0 h1 h2 h3).2]
  exact ⟨rfl, rfl⟩

set_option maxRecDepth 100000 in
set_option maxHeartbeats 8000000 in
theorem sealed_walk (w : World) (p t b : Addr) (hs : Sents w p t b) (a : Option Addr) (n c : Nat) (zs : List Int) (w0 : RowIn .u8 w a n c zs) :
    Calls Tryd.prog 3 #[.slice a n c] w fun e w' => e = .returned (.bool true) ∧ Below w.heap.size w w' := by
  obtain ⟨hr, hlc, hm⟩ := w0.row
  unfold maxLen at hm
  obtain ⟨i0, hi, hz0, hz1, hz2⟩ := info_parts infoW
  have HS : Hid (Sents w p t b) := hs
  clear hs w0
  go_enter Tryd.func3, Tryd.ntmps3
  go_wp2_with fail
  refine (drawEntryM a n c _ _ hr (by omega)).mono ?_
  rintro e w1 ⟨m, q, rfl, hm1, hq1, hb1⟩
  clear hr
  have HE := entryM m q
  cases hE : entB m q
  · have hno : ¬ ((0 ≤ m ∧ m ≤ 7) ∧ 0 ≤ q ∧ q ≤ 4000) := by
      intro h
      rw [entB] at hE
      simp [inR, h.1.1, h.1.2, h.2.1, h.2.2] at hE
    simp only [hE, sel, cond_false] at HE
    go_wp2_with fail
    refine (HE _).mono ?_
    rintro e w2 ⟨rfl, hb2⟩
    have hbw : Below w.heap.size w (w2.alloc (.cells #[.bool false, .int .i64 0, .int .i64 0, .int .i64 0, .int .i64 0, .int .i64 0, .int .i64 0] 26)) := (hb1.trans (hb2.mono hb1.size)).alloc (Nat.le_trans hb1.size hb2.size) _
    clear HE hb1 hb2 hE
    go_wp2_with fail
    all_goals first | (exfalso; omega) | go_ret
    all_goals exact ⟨rb (by first | (simp; done) | (simp; omega)), hbw⟩
  · obtain ⟨⟨m0, m1⟩, q0, q1⟩ : (0 ≤ m ∧ m ≤ 7) ∧ 0 ≤ q ∧ q ≤ 4000 := by simpa [entB, inR] using hE
    obtain ⟨hok, hway⟩ := entry_ok m q m0 m1 q0 q1
    have HN := implNarrowM true 0 0 0 q 16 (m + 1) 0 0 31
    have HF := implShiftM true 0 0 0 q 16 (m + 1) 1
    have HO := implOkM true 0 0 0 q 16 (m + 1) ⟨by omega, by omega⟩
    have HI := implWithinM true 0 0 0 q 16 (m + 1) true 0 0 0 q 16 (m + 1)
    have hnar : narB true 0 0 0 q 16 (m + 1) 0 0 = false := by rw [narB, hway]; rfl
    have hsh : shB true 0 0 0 q 16 (m + 1) 1 = false := by rw [shB, hway]; rfl
    have hwi : withinB true 0 0 0 q 16 (m + 1) true 0 0 0 q 16 (m + 1) = false := by rw [withinB, hway]; rfl
    have htr : trapJ 5 true 0 0 0 q 16 (m + 1) 0 2 = 1 := by rw [trapJ, hway]; rfl
    have HT := fun g w h hs => implStoreTrap (some ⟨g, 0, none⟩) 5 5 (List.replicate 5 zeroW) true 0 0 0 q 16 (m + 1) 0 false 1 0 0 0 0 0 p t b w h zeros_in hs zeros_mem hok ⟨by omega, by omega⟩ one_ok ⟨by omega, by omega⟩ (by rw [htr]; decide)
    obtain ⟨hl1, hl2⟩ := entry_load (List.replicate 5 zeroW) m q m0 m1 q0 q1 zeros_mem
    have HL : ∀ (g : Nat) (w : World), WRow w (some ⟨g, 0, none⟩) 5 (List.replicate 5 zeroW) → Sents w p t b → Calls Tryd.prog 11 #[.agg #[.slice (some ⟨g, 0, none⟩) 5 5], .agg #[.bool true, .int .i64 0, .int .i64 0, .int .i64 0, .int .i64 q, .int .i64 16, .int .i64 (m + 1)], .int .i64 0] w fun e w' => e = .returned (.tuple #[.agg #[.bool false, .int .i64 0, .int .i64 0, .int .i64 0, .int .i64 0, .int .i64 0, .int .i64 0], .int .i64 1]) ∧ Below w.heap.size w w' := by
      intro g w h hs
      have := implLoadM (some ⟨g, 0, none⟩) 5 5 (List.replicate 5 zeroW) true 0 0 0 q 16 (m + 1) 0 p t b w h zeros_in hs (by omega)
      rw [hl1, hl2] at this
      exact this
    simp only [htr] at HT
    simp only [hE, sel, cond_true] at HE
    simp only [hnar, sel, cond_false] at HN
    simp only [hsh, sel, cond_false] at HF
    rw [hok] at HO
    rw [hwi] at HI
    clear hE hnar hsh hwi htr hl1 hl2 hok hway
    go_wp2_with fail
    refine (HE _).mono ?_
    rintro e w2 ⟨rfl, hb2⟩
    replace hb2 := hb1.trans (hb2.mono hb1.size)
    clear hb1 HE
    go_upto_region 5 with fail
    obtain ⟨w3, e3⟩ : ∃ w3, w3 = w2.alloc (.cells #[.bool true, .int .i64 0, .int .i64 0, .int .i64 0, .int .i64 q, .int .i64 16, .int .i64 (m + 1)] 26) := ⟨_, rfl⟩
    have hx := heap_alloc_new w2 (.cells #[.bool true, .int .i64 0, .int .i64 0, .int .i64 0, .int .i64 q, .int .i64 16, .int .i64 (m + 1)] 26)
    have hb : Below w.heap.size w w3 := by rw [e3]; exact hb2.alloc hb2.size _
    rw [← e3] at hx ⊢
    clear e3 hb2
    generalize w2.heap.size = gx at *
    obtain ⟨x0, x1, x2, x3, x4, x5, x6, _⟩ := row_facts hx
    have Hx : Hid _ := hx
    have Hb : Hid _ := hb
    clear hx hb
    go_wp2_with fail
    refine (HN _).mono ?_
    rintro e w4 ⟨rfl, hb4⟩
    go_upto_region 6 with fail
    obtain ⟨w5, e5⟩ : ∃ w5, w5 = w4.alloc (.cells #[.bool false, .int .i64 0, .int .i64 0, .int .i64 0, .int .i64 0, .int .i64 0, .int .i64 0] 26) := ⟨_, rfl⟩
    have hb35 : Below w3.heap.size w3 w5 := by rw [e5]; exact hb4.alloc hb4.size _
    rw [← e5]
    have hx := (hb35.block _ (Array.getElem?_eq_some_iff.1 Hx.out).1).trans Hx.out
    have hb := Hb.out.trans (hb35.mono Hb.out.size)
    clear e5 hb4 hb35 Hx Hb x0 x1 x2 x3 x4 x5 x6 HN
    obtain ⟨x0, x1, x2, x3, x4, x5, x6, _⟩ := row_facts hx
    have Hx : Hid _ := hx
    have Hb : Hid _ := hb
    clear hx hb
    go_wp2_with fail
    refine (HF _).mono ?_
    rintro e w6 ⟨rfl, hb6⟩
    go_upto_region 7 with fail
    obtain ⟨w7, e7⟩ : ∃ w7, w7 = w6.alloc (.cells #[.bool false, .int .i64 0, .int .i64 0, .int .i64 0, .int .i64 0, .int .i64 0, .int .i64 0] 26) := ⟨_, rfl⟩
    have hb57 : Below w5.heap.size w5 w7 := by rw [e7]; exact hb6.alloc hb6.size _
    rw [← e7]
    have hx := (hb57.block _ (Array.getElem?_eq_some_iff.1 Hx.out).1).trans Hx.out
    have hb := Hb.out.trans (hb57.mono Hb.out.size)
    clear e7 hb6 hb57 Hx Hb x0 x1 x2 x3 x4 x5 x6 HF
    have Hx : Hid _ := hx
    have Hb : Hid _ := hb
    clear hx hb
    go_wp2_with (at_make; refine wpList_make_full _ rfl _ _ 31 rfl w7.heap.size 26 i0 _ 7 Tryd.underlying31 hi hz0 hz1 _ _ _ _ 5 rfl rfl rfl rfl (by rw [hz2]; omega) (by unfold maxLen; omega) (Nat.le_refl _) ?_)
    intro w8 hown hgrow
    have hb78 : Below w7.heap.size w7 w8 := (Below.refl _ _).grown hgrow (Nat.le_refl _) (by intro k hk; cases hk)
    have hW : WB w8 w7.heap.size (List.replicate 5 zeroW) := by
      have := block_of_ownsW hown
      rw [show (35 : Nat) = 5 * 7 from rfl] at this
      rw [made_flat] at this
      exact this
    have HW8 : Hid (WB w8 w7.heap.size (List.replicate 5 zeroW)) := hW
    clear hown hgrow hW
    go_upto_region 8 with fail
    obtain ⟨w9, e9⟩ : ∃ w9, w9 = w8.alloc (.cells #[.slice (some ⟨w7.heap.size, 0, none⟩) 5 5] 33) := ⟨_, rfl⟩
    have hb89 : Below w8.heap.size w8 w9 := by rw [e9]; exact (Below.refl _ _).alloc (Nat.le_refl _) _
    have hz := heap_alloc_new w8 (.cells #[.slice (some ⟨w7.heap.size, 0, none⟩) 5 5] 33)
    rw [← e9] at hz ⊢
    have hb79 := hb78.trans (hb89.mono hb78.size)
    have hW : WB w9 w7.heap.size (List.replicate 5 zeroW) := WB.below HW8.out hb89 (Array.getElem?_eq_some_iff.1 HW8.out).1
    have hx := (hb79.block _ (Array.getElem?_eq_some_iff.1 Hx.out).1).trans Hx.out
    have hb := Hb.out.trans (hb79.mono Hb.out.size)
    clear e9 hb89 hb79 hb78 HW8 Hx Hb
    generalize w7.heap.size = gM at *
    generalize w8.heap.size = gz at *
    obtain ⟨x0, x1, x2, x3, x4, x5, x6, _⟩ := row_facts hx
    obtain ⟨z0, _⟩ := one_facts hz
    have Hx : Hid _ := hx
    have Hz : Hid _ := hz
    have Hb : Hid _ := hb
    have HW : Hid (WB w9 gM (List.replicate 5 zeroW)) := hW
    clear hx hz hb hW
    go_wp2_with fail
    refine (HL gM w9 (HW.out.row (by simp)) (HS.out.below Hb.out)).mono ?_
    rintro e w10 ⟨rfl, hb10⟩
    go_upto_region 9 with fail
    obtain ⟨w11, e11⟩ : ∃ x, x = w10.alloc (.cells #[.bool false, .int .i64 0, .int .i64 0, .int .i64 0, .int .i64 0, .int .i64 0, .int .i64 0] 26) := ⟨_, rfl⟩
    have hb911 : Below w9.heap.size w9 w11 := by rw [e11]; exact hb10.alloc hb10.size _
    rw [← e11]
    have hx := (hb911.block _ (Array.getElem?_eq_some_iff.1 Hx.out).1).trans Hx.out
    have hz := (hb911.block _ (Array.getElem?_eq_some_iff.1 Hz.out).1).trans Hz.out
    have hW : WB w11 gM (List.replicate 5 zeroW) := WB.below HW.out hb911 (Array.getElem?_eq_some_iff.1 HW.out).1
    have hb := Hb.out.trans (hb911.mono Hb.out.size)
    clear e11 hb10 hb911 Hx Hz Hb HW HL x0 x1 x2 x3 x4 x5 x6 z0
    obtain ⟨x0, x1, x2, x3, x4, x5, x6, _⟩ := row_facts hx
    obtain ⟨z0, _⟩ := one_facts hz
    have Hx : Hid _ := hx
    have Hb : Hid _ := hb
    have HW : Hid (WB w11 gM (List.replicate 5 zeroW)) := hW
    clear hx hz hb hW
    go_wp2_with fail
    refine (HT gM w11 (HW.out.row (by simp)) (HS.out.below Hb.out)).mono ?_
    rintro e w12 ⟨g', rfl, hb12⟩
    go_upto_region 10 with fail
    obtain ⟨w13, e13⟩ : ∃ x, x = w12.alloc (.cells #[.slice (some ⟨g', 0, none⟩) 5 5] 33) := ⟨_, rfl⟩
    have hb1113 : Below w11.heap.size w11 w13 := by rw [e13]; exact hb12.alloc hb12.size _
    rw [← e13]
    have hx := (hb1113.block _ (Array.getElem?_eq_some_iff.1 Hx.out).1).trans Hx.out
    have hb := Hb.out.trans (hb1113.mono Hb.out.size)
    clear e13 hb12 hb1113 Hx Hb HW HT x0 x1 x2 x3 x4 x5 x6 z0
    obtain ⟨x0, x1, x2, x3, x4, x5, x6, _⟩ := row_facts hx
    have Hx : Hid _ := hx
    have Hb : Hid _ := hb
    clear hx hb
    go_wp2_with fail
    refine (HO _).mono ?_
    rintro e w14 ⟨rfl, hb14⟩
    have hx := (hb14.block _ (Array.getElem?_eq_some_iff.1 Hx.out).1).trans Hx.out
    have hb := Hb.out.trans (hb14.mono Hb.out.size)
    clear hb14 Hx Hb HO x0 x1 x2 x3 x4 x5 x6
    obtain ⟨x0, x1, x2, x3, x4, x5, x6, _⟩ := row_facts hx
    have Hb : Hid _ := hb
    clear hx hb
    go_wp2_with fail
    refine (HI _).mono ?_
    rintro e w15 ⟨rfl, hb15⟩
    have hb := Hb.out.trans (hb15.mono Hb.out.size)
    clear HI hb15 Hb
    go_wp2_with fail
    go_ret
    exact ⟨rfl, hb⟩
end Go.Proofs.YtchchigiafacbaaDoor

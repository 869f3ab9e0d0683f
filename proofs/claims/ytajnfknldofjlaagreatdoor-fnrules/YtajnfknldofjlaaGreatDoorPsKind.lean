/- Tokens: of what kind one is (the program's own look), as a plain function. -/
import Derived.Test.YtajnfknldofjlaaGreatDoorPsTok
import Derived.Lib.ConvBytes
import Derived.Lib.AtoiErrMem
import Derived.Lib.AppendIntMem
namespace Go.Proofs.YtajnfknldofjlaaGreatDoor
open Go.RowKit
set_option linter.unusedVariables false
set_option linter.unusedSimpArgs false
set_option maxRecDepth 100000

theorem str_size (l : List Int) : (strOfNums l).size = l.length := by
  simp [strOfNums, ByteArray.size]

theorem str_cell {l : List Int} (hl : ∀ x ∈ l, 0 ≤ x ∧ x ≤ 255) (j : Nat) : ((strOfNums l).data.toList.getD j 0).toNat = l[j]?.getD 0 := by
  simp only [strOfNums, List.getD, List.toList_toArray, List.getElem?_map]
  cases h : l[j]? with
  | none => simp
  | some x =>
    have := hl x (List.mem_of_getElem? h)
    simp
    omega

theorem conv_row {l : List Int} (hl : ∀ x ∈ l, 0 ≤ x ∧ x ≤ 255) (w : World) : BRow (Lib.bytesWorld w 5 (strOfNums l)) (some ⟨w.heap.size, 0, none⟩) l.length l := by
  refine ⟨rfl, hl, fun _ => ⟨w.heap.size, 0, rfl, fun j hj => ?_⟩⟩
  rw [Nat.zero_add, Lib.bytesWorld_cell w _ _ j (by rw [str_size]; exact hj), str_cell hl]

theorem grownCap_le (w : World) (n : Nat) (T : TypeId) : n ≤ grownCap w n 0 T := by
  unfold grownCap
  simp [Question.cut]

set_option maxHeartbeats 4000000 in
theorem isDecC (l : List Int) (hl : ∀ x ∈ l, 0 ≤ x ∧ x ≤ 255) (hn : l.length ≤ 3000) (w : World) (ht : TabsR w) :
    Calls Tryz.prog 83 #[.string (strOfNums l)] w fun e w' => e = .returned (.bool (decB l)) ∧ Below w.heap.size w w' := by
  have hsz := str_size l
  have HD : Hid (decB l = match Lib.atoiAll (tB l) with | .ok n => fitB n && (Lib.itoa n == (strOfNums l).toList) | _ => false) := rfl
  have HT : Hid (TabsR w) := ht
  generalize hs : strOfNums l = s at *
  unfold tB at HD
  rw [hs] at HD
  clear ht
  cases ha : Lib.atoiAll s.data.toList with
  | ok v =>
    have H1 := Tryz.strconv_Atoi_ok s (by omega) v ha w
    obtain ⟨vb0, vb1⟩ := Lib.atoiAll_bounds ha
    rw [ha] at HD
    have H2 := fitsC v
    have H3 := fun (w' : World) (h : TabsR w') => Tryz.strconv_Itoa v vb0 vb1 w' h.p10
    clear ha
    go_enter Tryz.func83, Tryz.ntmps83
    go_wp2_with fail
    refine H1.mono ?_
    rintro e w1 ⟨rfl, hw⟩
    have hb1 : Hid (Below w.heap.size w w1) := by
      rcases hw with rfl | ⟨t, rfl⟩
      · exact Below.refl _ _
      · exact Lib.bytesWorld_below _ _ _
    clear hw H1
    cases hf : fitB v
    · rw [hf] at HD
      have H2' := H2 w1
      rw [hf] at H2'
      clear H2 H3 hf
      go_wp2_with fail
      refine H2'.mono ?_
      rintro e w2 ⟨rfl, rfl⟩
      go_wp2
      go_ret
      exact ⟨ret_bool (by rw [HD.out]; rfl), hb1.out⟩
    · rw [hf] at HD
      have H2' := H2 w1
      rw [hf] at H2'
      have H3' := H3 w1 (HT.out.below hb1.out)
      clear H2 H3 hf
      go_wp2_with fail
      refine H2'.mono ?_
      rintro e w2 ⟨rfl, rfl⟩
      go_wp2_with fail
      refine H3'.mono ?_
      rintro e w3 ⟨rfl, k, os, rfl⟩
      have hb2 : Hid (Below w.heap.size w (Sort.grow (w2.drewN k) os)) := hb1.out.trans ((Lib.below_grow _ _ (Nat.le_refl _) k os).mono hb1.out.size)
      generalize Sort.grow (w2.drewN k) os = w4 at *
      go_wp2
      go_ret
      exact ⟨ret_bool (by rw [HD.out]; rfl), hb2.out⟩
  | «syntax» =>
    obtain ⟨ev, he1, he2⟩ := HT.out.syn
    have H1 := Tryz.strconv_Atoi_syntax s (by omega) ha ev w he1 he2
    rw [ha] at HD
    clear ha he1 he2
    go_enter Tryz.func83, Tryz.ntmps83
    go_wp2_with fail
    refine H1.mono ?_
    rintro e w1 ⟨N, rfl, _, _, hb1⟩
    clear H1
    go_wp2
    go_ret
    exact ⟨ret_bool (by rw [HD.out]), hb1⟩
  | range =>
    obtain ⟨ev, he1, he2⟩ := HT.out.rng
    have H1 := Tryz.strconv_Atoi_range s (by omega) ha ev w he1 he2
    rw [ha] at HD
    clear ha he1 he2
    go_enter Tryz.func83, Tryz.ntmps83
    go_wp2_with fail
    refine H1.mono ?_
    rintro e w1 ⟨N, rfl, _, _, hb1⟩
    clear H1
    go_wp2
    go_ret
    exact ⟨ret_bool (by rw [HD.out]), hb1⟩

set_option maxHeartbeats 4000000 in
theorem tokKindC (l : List Int) (hl : ∀ x ∈ l, 0 ≤ x ∧ x ≤ 255) (hn : l.length ≤ 3000) (w : World) (ht : TabsR w) :
    Calls Tryz.prog 46 #[.string (strOfNums l)] w fun e w' => e = .returned (.int .i64 (tokKind l)) ∧ Below w.heap.size w w' := by
  have hsz := str_size l
  have HK : Hid (tokKind l = if nameOk l false then 3 else if nameOk l true then 4 else if decB l then 5 else if fixB l then 2 else 0) := rfl
  have HT : Hid (TabsR w) := ht
  have HN : ∀ (g : Bool) (w1 : World), Calls Tryz.prog 58 #[.slice (some ⟨w1.heap.size, 0, none⟩) l.length (grownCap w1 l.length 0 5), .bool g] (Lib.bytesWorld w1 5 (strOfNums l)) fun e w' => e = .returned (.bool (nameOk l g)) ∧ w' = Lib.bytesWorld w1 5 (strOfNums l) :=
    fun g w1 => implNameOk _ _ _ l g _ (conv_row hl w1) (by omega) (grownCap_le _ _ _)
  have kc : ∀ w1 : World, (convert 9 22 (.string (strOfNums l))).run Tryz.prog w1 = .ok (.slice (some ⟨w1.heap.size, 0, none⟩) l.length (grownCap w1 l.length 0 5)) (Lib.bytesWorld w1 5 (strOfNums l)) := by
    intro w1
    have := Lib.run_convert_string_bytes (P := Tryz.prog) w1 9 22 5 (strOfNums l) Tryz.underlying9 Tryz.underlying22 Tryz.underlying5
    rw [hsz] at this
    exact this
  have HD := fun (w1 : World) (h : TabsR w1) => isDecC l hl hn w1 h
  have HC : Hid (∀ (w1 : World), TabsR w1 → Calls Tryz.prog 84 #[.string fixedT, .string (⟨#[32]⟩ ++ strOfNums l ++ ⟨#[32]⟩)] w1 fun e w' => e = .returned (.bool (fixB l)) ∧ w' = w1) := by
    intro w1 h
    obtain ⟨m, hm⟩ := h.most
    exact Tryz.strings_Contains fixedT _ m w1 (by decide) hm
  have hb : ∀ w1 : World, Below w1.heap.size w1 (Lib.bytesWorld w1 5 (strOfNums l)) := fun w1 => Lib.bytesWorld_below _ _ _
  generalize strOfNums l = s at *
  clear ht
  have HN1 := HN false w
  have HB1 : Hid _ := hb w
  have HN2 := HN true (Lib.bytesWorld w 5 s)
  have HB2 : Hid _ := hb (Lib.bytesWorld w 5 s)
  have HBB : Hid (Below w.heap.size w (Lib.bytesWorld (Lib.bytesWorld w 5 s) 5 s)) := HB1.out.trans (HB2.out.mono HB1.out.size)
  have HD3 := HD _ (HT.out.below HBB.out)
  clear HN hb HD
  cases h1 : nameOk l false
  case true =>
    rw [h1] at HK HN1
    clear HN2 HD3
    go_enter Tryz.func46, Tryz.ntmps46
    go_wp2_with fail
    refine HN1.mono ?_
    rintro e w1 ⟨rfl, rfl⟩
    generalize Lib.bytesWorld w 5 s = w2 at *
    go_wp2
    go_ret
    exact ⟨ret_int (by rw [HK.out]; rfl), HB1.out⟩
  rw [h1] at HK HN1
  cases h2 : nameOk l true
  case true =>
    rw [h2] at HK HN2
    go_enter Tryz.func46, Tryz.ntmps46
    go_wp2_with fail
    refine HN1.mono ?_
    rintro e w1 ⟨rfl, rfl⟩
    generalize Lib.bytesWorld w 5 s = w2 at *
    go_wp2_with fail
    refine HN2.mono ?_
    rintro e w1 ⟨rfl, rfl⟩
    generalize Lib.bytesWorld w2 5 s = w3 at *
    go_wp2
    go_ret
    exact ⟨ret_int (by rw [HK.out]; rfl), HBB.out⟩
  rw [h2] at HK HN2
  go_enter Tryz.func46, Tryz.ntmps46
  go_wp2_with fail
  refine HN1.mono ?_
  rintro e w1 ⟨rfl, rfl⟩
  generalize Lib.bytesWorld w 5 s = w2 at *
  go_wp2_with fail
  refine HN2.mono ?_
  rintro e w1 ⟨rfl, rfl⟩
  generalize Lib.bytesWorld w2 5 s = w3 at *
  clear kc HN1 HN2
  go_wp2_with fail
  refine HD3.mono ?_
  rintro e w4 ⟨rfl, hb4⟩
  have HB4 : Hid (Below w.heap.size w w4) := HBB.out.trans (hb4.mono HBB.out.size)
  clear hb4 HD3 HBB HB1 HB2
  cases h3 : decB l
  case true =>
    rw [h3] at HK
    go_wp2
    go_ret
    exact ⟨ret_int (by rw [HK.out]; rfl), HB4.out⟩
  rw [h3] at HK
  have HC4 := HC.out w4 (HT.out.below HB4.out)
  unfold fixedT at HC4
  cases h4 : fixB l
  · rw [h4] at HK HC4
    go_wp2_with fail
    refine HC4.mono ?_
    rintro e w5 ⟨rfl, rfl⟩
    go_wp2
    go_ret
    exact ⟨ret_int (by rw [HK.out]; rfl), HB4.out⟩
  · rw [h4] at HK HC4
    go_wp2_with fail
    refine HC4.mono ?_
    rintro e w5 ⟨rfl, rfl⟩
    go_wp2
    go_ret
    exact ⟨ret_int (by rw [HK.out]; rfl), HB4.out⟩
end Go.Proofs.YtajnfknldofjlaaGreatDoor

/- Tokens: how long one is and of what kind (the program's own looks), as plain functions. -/
import Derived.Test.YtajnfknldofjlaaGreatDoorPsPure
import Derived.Test.YtajnfknldofjlaaGreatDoorTk
import Derived.Lib.SlBytesConst
namespace Go.Proofs.YtajnfknldofjlaaGreatDoor
open Go.RowKit
set_option linter.unusedVariables false
set_option linter.unusedSimpArgs false
set_option maxRecDepth 100000

theorem inPieceC (x : Int) (w : World) : Calls Tryz.prog 81 #[.int .u8 x] w fun e w' => e = .returned (.bool (pieceB x)) ∧ w' = w := by
  have H1 := isFirstC x true w
  have H2 := isSmallC x w
  have H3 := isDigitC x w
  have HP : Hid (pieceB x = (upB x || lowB x || digB x)) := rfl
  simp only [if_true] at H1
  generalize upB x = a at *
  generalize lowB x = b at *
  generalize digB x = c at *
  go_enter Tryz.func81, Tryz.ntmps81
  cases a
  · cases b
    · go_wp2_with fail
      refine H1.mono ?_
      rintro e w1 ⟨rfl, rfl⟩
      go_wp2_with fail
      refine H2.mono ?_
      rintro e w2 ⟨rfl, rfl⟩
      go_wp2_with fail
      refine H3.mono ?_
      rintro e w2 ⟨rfl, rfl⟩
      go_wp2
      go_ret
      exact ⟨ret_bool (by rw [HP.out]; simp), rfl⟩
    · go_wp2_with fail
      refine H1.mono ?_
      rintro e w1 ⟨rfl, rfl⟩
      go_wp2_with fail
      refine H2.mono ?_
      rintro e w2 ⟨rfl, rfl⟩
      go_wp2
      go_ret
      exact ⟨ret_bool (by rw [HP.out]; simp), rfl⟩
  · go_wp2_with fail
    refine H1.mono ?_
    rintro e w1 ⟨rfl, rfl⟩
    go_wp2
    go_ret
    exact ⟨ret_bool (by rw [HP.out]; simp), rfl⟩

theorem notPieceC (x : Int) (w : World) : Calls Tryz.prog 80 #[.int .u8 x] w fun e w' => e = .returned (.bool (!pieceB x)) ∧ w' = w := by
  go_enter Tryz.func80, Tryz.ntmps80
  go_wp2_with fail
  refine (inPieceC x w).mono ?_
  rintro e w1 ⟨rfl, rfl⟩
  go_wp2
  go_ret
  exact ⟨rfl, rfl⟩

set_option maxHeartbeats 2000000 in
theorem beginC (b off n c : Nat) (l : List Int) (w : World) (hl : l.length = n) (hn : 0 < n) (hby : ∀ x ∈ l, 0 ≤ x ∧ x ≤ 255) (hc : ∀ j, j < n → w.cell? ⟨b, off + j, none⟩ = some (.int .u8 (l[j]?.getD 0))) :
    Calls Tryz.prog 78 #[.slice (some ⟨b, off, none⟩) n c] w fun e w' => e = .returned (.bool (beginB l)) ∧ w' = w := by
  have hx0 : w.cell? ⟨b, off, none⟩ = some (.int .u8 (l[0]?.getD 0)) := by have := hc 0 hn; rwa [Nat.add_zero] at this
  have HP : Hid (beginB l = (pieceB (l[0]?.getD 0) || (decide (l[0]?.getD 0 = 45) && (decide (1 < n) && digB (l[1]?.getD 0))))) := by show _ = _; unfold beginB; rw [hl]
  have H1 := inPieceC (l[0]?.getD 0) w
  have H3 := isDigitC (l[1]?.getD 0) w
  have hx1 : 1 < n → w.cell? ⟨b, off + 1, none⟩ = some (.int .u8 (l[1]?.getD 0)) := hc 1
  generalize l[0]?.getD 0 = x at *
  generalize l[1]?.getD 0 = y at *
  have HX : Hid _ := hx1
  clear hc hx1 hby hl
  generalize pieceB x = a at *
  generalize digB y = d at *
  cases a
  · by_cases h45 : x = 45
    · subst h45
      by_cases h1 : 1 < n
      · have hx1 := HX.out h1
        have g1 : (n : Int) > 1 := by omega
        go_enter Tryz.func78, Tryz.ntmps78
        go_wp2_with fail
        refine H1.mono ?_
        rintro e w1 ⟨rfl, rfl⟩
        go_wp2_with fail
        refine H3.mono ?_
        rintro e w1 ⟨rfl, rfl⟩
        go_wp2
        go_ret
        exact ⟨ret_bool (by rw [HP.out]; simp [h1]), rfl⟩
      · have g1 : ¬ ((n : Int) > 1) := by omega
        go_enter Tryz.func78, Tryz.ntmps78
        go_wp2_with fail
        refine H1.mono ?_
        rintro e w1 ⟨rfl, rfl⟩
        go_wp2
        go_ret
        exact ⟨ret_bool (by rw [HP.out]; simp [h1]), rfl⟩
    · go_enter Tryz.func78, Tryz.ntmps78
      go_wp2_with fail
      refine H1.mono ?_
      rintro e w1 ⟨rfl, rfl⟩
      go_wp2
      go_ret
      exact ⟨ret_bool (by rw [HP.out]; simp [h45]), rfl⟩
  · go_enter Tryz.func78, Tryz.ntmps78
    go_wp2_with fail
    refine H1.mono ?_
    rintro e w1 ⟨rfl, rfl⟩
    go_wp2
    go_ret
    exact ⟨ret_bool (by rw [HP.out]; simp), rfl⟩

/-- The first byte that belongs to no piece; -1 where all do. -/
def firstNot (l : List Int) : Int := if pieceLen l = l.length then -1 else pieceLen l
theorem pieceLen_at {l : List Int} {j : Nat} (h : ∀ i, i < j → pieceB (l[i]?.getD 0) = true) (hj : j < l.length) (hn : pieceB (l[j]?.getD 0) = false) : pieceLen l = j := by
  induction l generalizing j with
  | nil => simp at hj
  | cons x l ih =>
    cases j with
    | zero => simp only [List.getElem?_cons_zero, Option.getD_some] at hn; simp [pieceLen, hn]
    | succ j =>
      have h0 := h 0 (by omega)
      simp only [List.getElem?_cons_zero, Option.getD_some] at h0
      have := ih (j := j) (fun i hi => by have := h (i + 1) (by omega); simpa using this) (by simpa using hj) (by simpa using hn)
      simp only [pieceLen, h0, if_true, this]; omega
theorem pieceLen_all {l : List Int} (h : ∀ i, i < l.length → pieceB (l[i]?.getD 0) = true) : pieceLen l = l.length := by
  induction l with
  | nil => rfl
  | cons x l ih =>
    have h0 := h 0 (by simp)
    simp only [List.getElem?_cons_zero, Option.getD_some] at h0
    have := ih (fun i hi => by have := h (i + 1) (by simpa using hi); simpa using this)
    simp only [pieceLen, h0, if_true, this, List.length_cons]; omega

set_option maxHeartbeats 2000000 in
theorem indexC (a : Option Addr) (n c : Nat) (l : List Int) (w : World) (hl : l.length = n) (hn : n ≤ 9223372036854775807) (hc : 0 < n → ∃ b off, a = some ⟨b, off, none⟩ ∧ ∀ j, j < n → w.cell? ⟨b, off + j, none⟩ = some (.int .u8 (l[j]?.getD 0))) :
    Calls Tryz.prog 79 #[.slice a n c, .func (.func 80) #[] #[]] w fun e w' => e = .returned (.int .i64 (firstNot l)) ∧ w' = w := by
  have HF : Hid (∀ j, (∀ i, i < j → pieceB (l[i]?.getD 0) = true) → (j < n → pieceB (l[j]?.getD 0) = false → firstNot l = j) ∧ (j = n → firstNot l = -1)) := by
    intro j h
    refine ⟨fun hj hb => ?_, fun hj => ?_⟩
    · have := pieceLen_at h (by omega) hb
      unfold firstNot; rw [this, if_neg (by omega)]
    · unfold firstNot; rw [if_pos (pieceLen_all (by rw [hl, ← hj]; exact h))]
  rcases Nat.eq_zero_or_pos n with h0 | hpos
  · subst h0
    have HE : Hid (firstNot l = -1) := (HF.out 0 (by intro i hi; omega)).2 rfl
    clear hc HF hl
    go_enter Tryz.func79, Tryz.ntmps79
    go_wp2_with fail
    refine wp_loop_rounds 1 ?_
    rw [rounds_succ]
    go_wp2
    go_ret
    exact ⟨ret_int HE.out.symm, rfl⟩
  · obtain ⟨b, off, rfl, hd⟩ := hc hpos
    clear hc hl
    go_enter Tryz.func79, Tryz.ntmps79
    go_wp2_with fail
    go_loop [5, 8] (fun _ i => ∃ j : Nat, j ≤ n ∧ i = .int .i64 j ∧ Hid (∀ i, i < j → pieceB (l[i]?.getD 0) = true)) (fun _ i => n - (intOf i).toNat)
    case atStart => exact ⟨0, Nat.zero_le _, rfl, by intro i hi; omega⟩
    case round =>
      obtain ⟨j, hj, rfl, hall⟩ := hrel
      by_cases hlt : j < n
      · have hx := hd j hlt
        have H1 := notPieceC (l[j]?.getD 0) w
        cases hp : pieceB (l[j]?.getD 0)
        · have HE : Hid (firstNot l = j) := (HF.out j hall.out).1 hlt hp
          rw [hp] at H1
          clear hd HF hall hp
          go_wp2_with fail
          refine H1.mono ?_
          rintro e w1 ⟨rfl, rfl⟩
          go_wp2
          go_ret
          exact ⟨ret_int HE.out.symm, rfl⟩
        · have HA : Hid (∀ i, i < j + 1 → pieceB (l[i]?.getD 0) = true) := by
            intro i hi
            by_cases hij : i < j
            · exact hall.out i hij
            · have : i = j := by omega
              subst this; exact hp
          rw [hp] at H1
          clear hd hall hp
          go_wp2_with fail
          refine H1.mono ?_
          rintro e w1 ⟨rfl, rfl⟩
          go_wp2
          go_round
          case rel => exact ⟨j + 1, by omega, by go_num, HA⟩
          case measure => simp [intOf]; omega
      · have : j = n := by omega
        subst this
        have HE : Hid (firstNot l = -1) := (HF.out j hall.out).2 rfl
        clear hd HF hall
        go_wp2
        go_ret
        exact ⟨ret_int HE.out.symm, rfl⟩

theorem firstNot_neg {l : List Int} (h : firstNot l < 0) : pieceLen l = l.length := by
  unfold firstNot at h
  split at h <;> omega
theorem firstNot_pos {l : List Int} (h : ¬ firstNot l < 0) : firstNot l = pieceLen l := by
  unfold firstNot at h ⊢
  split at h
  · omega
  · rename_i h2; rw [if_neg h2]

theorem bytesIn_of {w : World} {b off n : Nat} {l : List Int} (hc : ∀ j, j < n → w.cell? ⟨b, off + j, none⟩ = some (.int .u8 (l[j]?.getD 0))) : ∀ i, i < n → w.cell? ⟨b, off + i, none⟩ = some (.int .u8 (l.getD i 0)) := by
  intro i hi
  rw [hc i hi]; simp [List.getD]

set_option maxHeartbeats 4000000 in
theorem tokSizeC (b off n c : Nat) (l : List Int) (w : World) (hl : l.length = n) (hn : 0 < n) (hn2 : n ≤ 3000) (hnc : n ≤ c) (hcm : c ≤ 9223372036854775807) (hby : ∀ x ∈ l, 0 ≤ x ∧ x ≤ 255) (hc : ∀ j, j < n → w.cell? ⟨b, off + j, none⟩ = some (.int .u8 (l[j]?.getD 0))) :
    Calls Tryz.prog 45 #[.slice (some ⟨b, off, none⟩) n c] w fun e w' => e = .returned (.int .i64 (tokSize l)) ∧ Below w.heap.size w w' := by
  have H1 := beginC b off n c l w hl hn hby hc
  cases hb : beginB l
  · rw [hb] at H1
    have HW : Below w.heap.size w (w.alloc (.cells #[.int .u8 58, .int .u8 61] 5 (0, 0))) := (Below.refl _ _).alloc (Nat.le_refl _) _
    have H2 : ∀ m, Calls Tryz.prog 82 #[.slice (some ⟨b, off, none⟩) n c, .slice (some ⟨w.heap.size, 0, none⟩) 2 2] (w.alloc (.cells #[.int .u8 58, .int .u8 61] 5 m)) fun e w' => e = .returned (.bool (Lib.hasPrefix (Lib.bytesOf l) (Lib.bytesOf [58, 61]))) ∧ w' = w.alloc (.cells #[.int .u8 58, .int .u8 61] 5 m) := by
      intro m
      refine Tryz.bytes_HasPrefix b off n c w.heap.size 0 2 2 l [58, 61] _ hl rfl hnc (fun i hi => ?_) (fun i hi => ?_)
      · rw [((Below.refl w.heap.size w).alloc (Nat.le_refl _) _).cell (p := ⟨b, off + i, none⟩) (World.block_lt_of_cell? w _ (hc i hi))]
        exact bytesIn_of hc i hi
      · rw [Nat.zero_add, World.cell?_alloc_mark]
        have : i = 0 ∨ i = 1 := by omega
        rcases this with rfl | rfl <;> rfl
    clear hc hby hl HW
    have HS : Hid (tokSize l = if Lib.hasPrefix (Lib.bytesOf l) (Lib.bytesOf [58, 61]) then 2 else 1) := by show _ = _; unfold tokSize; rw [hb]; rfl
    have H3 := H2 (2, 3)
    generalize Lib.hasPrefix (Lib.bytesOf l) (Lib.bytesOf [58, 61]) = q at *
    clear H2
    have kc := fun (w : World) (C : Array Value) (n c : Nat) => Lib.run_convert_bytes_const (P := Tryz.prog) w 22 5 C n c Tryz.underlying22 Tryz.underlying5
    go_enter Tryz.func45, Tryz.ntmps45
    go_wp2_with fail
    refine H1.mono ?_
    rintro e w1 ⟨rfl, rfl⟩
    go_wp2_with fail
    refine H3.mono ?_
    rintro e w2 ⟨rfl, rfl⟩
    have y0 : Below w1.heap.size w1 (w1.alloc (.cells #[.int .u8 58, .int .u8 61] 5 (2, 3))) := (Below.refl _ _).alloc (Nat.le_refl _) _
    clear kc H1 H3
    cases q
    · go_wp2
      go_ret
      exact ⟨ret_int (by rw [HS.out]; rfl), y0⟩
    · go_wp2
      go_ret
      exact ⟨ret_int (by rw [HS.out]; rfl), y0⟩
  · rw [hb] at H1
    have HS : Hid (tokSize l = 1 + pieceLen l.tail) := by show _ = _; unfold tokSize; rw [hb]; rfl
    have hlt : l.tail.length = n - 1 := by simp [hl]
    have HI : ∀ (a : Option Addr) (c' : Nat), (0 < n - 1 → a = some ⟨b, off + 1, none⟩) → Calls Tryz.prog 79 #[.slice a (n - 1) c', .func (.func 80) #[] #[]] w fun e w' => e = .returned (.int .i64 (firstNot l.tail)) ∧ w' = w := by
      intro a c' ha
      refine indexC a (n - 1) c' l.tail w hlt (by omega) (fun hp => ⟨b, off + 1, ha hp, fun j hj => ?_⟩)
      have := hc (j + 1) (by omega)
      rw [show off + 1 + j = off + (j + 1) by omega, this]
      simp
    have HN := fun h => firstNot_neg (l := l.tail) h
    have HP := fun h => firstNot_pos (l := l.tail) h
    rw [hlt] at HN
    generalize firstNot l.tail = f at *
    have HSN : Hid (f < 0 → tokSize l = n) := fun h => by rw [HS.out, HN h]; omega
    have HSP : Hid (¬ f < 0 → (tokSize l : Int) = 1 + f) := fun h => by rw [HS.out, HP h]; omega
    have hf : ¬ f < 0 → 0 ≤ f ∧ f ≤ 3000 := fun h => by have h1 := pieceLen_le l.tail; rw [hlt] at h1; have := HP h; omega
    clear hc hby hl HN HP HS hlt
    have hi1 : (1 : Int) ≤ (n : Int) := by omega
    obtain ⟨m, rfl⟩ : ∃ m, n = m + 1 := ⟨n - 1, by omega⟩
    simp only [Nat.add_sub_cancel] at HI
    by_cases hc1 : c = 1
    · have hm : m = 0 := by omega
      subst hc1 hm
      go_enter Tryz.func45, Tryz.ntmps45
      go_wp2_with fail
      refine H1.mono ?_
      rintro e w1 ⟨rfl, rfl⟩
      go_wp2_with fail
      refine (HI _ _ (fun h => absurd h (by omega))).mono ?_
      rintro e w2 ⟨rfl, rfl⟩
      clear HI H1
      by_cases hf0 : f < 0
      · have HV : Hid (tokSize l = 1) := HSN.out hf0
        clear HSN HSP hf
        go_wp2
        go_ret
        exact ⟨ret_int (by rw [HV.out]; rfl), Below.refl _ _⟩
      · have HV : Hid ((tokSize l : Int) = 1 + f) := HSP.out (by omega)
        have hf1 := hf (by omega)
        clear HSN HSP hf
        go_wp2
        go_ret
        exact ⟨ret_int HV.out.symm, Below.refl _ _⟩
    · go_enter Tryz.func45, Tryz.ntmps45
      go_wp2_with fail
      refine H1.mono ?_
      rintro e w1 ⟨rfl, rfl⟩
      go_wp2_with fail
      refine (HI _ _ (fun _ => rfl)).mono ?_
      rintro e w2 ⟨rfl, rfl⟩
      clear HI H1
      by_cases hf0 : f < 0
      · have HV : Hid (tokSize l = m + 1) := HSN.out hf0
        clear HSN HSP hf
        go_wp2
        go_ret
        exact ⟨ret_int (by have := HV.out; omega), Below.refl _ _⟩
      · have HV : Hid ((tokSize l : Int) = 1 + f) := HSP.out (by omega)
        have hf1 := hf (by omega)
        clear HSN HSP hf
        go_wp2
        go_ret
        exact ⟨ret_int HV.out.symm, Below.refl _ _⟩

theorem wrapC (n : Int) (w : World) :
    Calls Tryz.prog 138 #[.int .i64 n] w fun e w' => e = .returned (.int .i64 (wr32 n)) ∧ w' = w := by
  go_enter Tryz.func138, Tryz.ntmps138
  go_wp2
  go_ret
  exact ⟨rfl, rfl⟩

theorem fitsC (n : Int) (w : World) :
    Calls Tryz.prog 113 #[.int .i64 n] w fun e w' => e = .returned (.bool (fitB n)) ∧ w' = w := by
  go_enter Tryz.func113, Tryz.ntmps113
  go_wp2_with fail
  refine (wrapC n _).mono ?_
  rintro e w1 ⟨rfl, rfl⟩
  go_wp2
  go_ret
  exact ⟨rfl, rfl⟩

end Go.Proofs.YtajnfknldofjlaaGreatDoor

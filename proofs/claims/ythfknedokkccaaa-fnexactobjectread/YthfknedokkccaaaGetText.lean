/- GetText: the text at a place, in new memory, and where it ends; nothing and -1 where there is none. -/
import Derived.Test.YthfknedokkccaaaGetImpl
import Derived.Test.YthfknedokkccaaaAppendB
import Derived.Test.YthfknedokkccaaaPutImpl
namespace Go.Proofs.Ythfknedokkccaaa
open Go.RowKit
set_option linter.unusedVariables false

/-- What GetText answers at place t of l. -/
def getT (l : List Int) (t : Int) : List Int × Int :=
  if (getL l t).2 < 0 ∨ 40 < (getL l t).1 ∨ (l.length : Int) - (getL l t).2 < (getL l t).1 then ([], -1)
  else ((l.drop (getL l t).2.toNat).take (getL l t).1.toNat, (getL l t).2 + (getL l t).1)

theorem getR_len {f : Nat} {p d : List Int} (h : getR f p = some d) : 0 < d.length ∧ d.length ≤ p.length := by
  induction f generalizing p d with
  | zero => simp [getR] at h
  | succ f ih =>
    cases p with
    | nil => simp [getR] at h
    | cons x r =>
      simp only [getR] at h
      split at h
      · obtain rfl := Option.some.inj h; simp
      · obtain ⟨d', hd', rfl⟩ := Option.map_eq_some_iff.1 h
        have := ih hd'
        simp; omega

theorem getL_ok (l : List Int) (t : Int) (hby : ∀ x ∈ l, 0 ≤ x ∧ x ≤ 255) : getL l t = (0, -1) ∨ (0 ≤ (getL l t).1 ∧ (getL l t).1 ≤ 2147483647 ∧ 0 < (getL l t).2 ∧ (getL l t).2 ≤ l.length) := by
  unfold getL
  split
  · exact .inl rfl
  · cases hg : getR 5 (l.drop t.toNat) with
    | none => exact .inl rfl
    | some d =>
      simp only []
      split
      · exact .inl rfl
      · right
        have h1 := getR_len hg
        have h2 := valI_val d (getR_bytes hg (fun x hx => hby x (List.mem_of_mem_drop hx)))
        rw [List.length_drop] at h1
        rename_i hnb
        refine ⟨?_, ?_, ?_, ?_⟩
        · show 0 ≤ valI d
          omega
        · show valI d ≤ 2147483647
          have := fun h => hnb (.inr h); omega
        · show 0 < t + d.length
          omega
        · show t + d.length ≤ l.length
          omega

theorem getT_len (l : List Int) (t : Int) (hby : ∀ x ∈ l, 0 ≤ x ∧ x ≤ 255) : (getT l t).1.length ≤ 40 := by
  unfold getT
  split
  · simp
  · simp only [List.length_take]
    omega

theorem made_nil (w : World) : Made w w none 0 0 [] :=
  ⟨⟨World.ownsRow_nil _ _ _ _, by simp⟩, ⟨rfl, by simp, by omega⟩, by omega, by unfold maxLen; omega, fun _ => rfl, by simp [Value.ownBlock], Below.refl _ _⟩

theorem made_nil_below {w w' : World} (hb : Below w.heap.size w w') : Made w w' none 0 0 [] :=
  ⟨⟨World.ownsRow_nil _ _ _ _, by simp⟩, ⟨rfl, by simp, by omega⟩, by omega, by unfold maxLen; omega, fun _ => rfl, by simp [Value.ownBlock], hb⟩

/-- A part of a row reads as that part. -/
theorem BRow.part {w : World} {b off n lo m : Nat} {l : List Int} (h : BRow w (some ⟨b, off, none⟩) n l) (hm : lo + m ≤ n) : BRow w (some ⟨b, off + lo, none⟩) m ((l.drop lo).take m) := by
  refine ⟨by simp [h.1]; omega, fun x hx => h.2.1 x (List.mem_of_mem_drop (List.mem_of_mem_take hx)), fun h0 => ⟨b, off + lo, rfl, fun i hi => ?_⟩⟩
  obtain ⟨b', off', e, hc⟩ := h.2.2 (by omega)
  simp only [Option.some.injEq, Addr.mk.injEq, and_true] at e
  obtain ⟨rfl, rfl⟩ := e
  rw [Nat.add_assoc, hc (lo + i) (by omega)]
  simp [hi]

theorem BRow.empty {w : World} (a : Option Addr) : BRow w a 0 [] := ⟨rfl, by simp, by omega⟩

theorem ret_sl {a : Option Addr} {n c : Nat} {x y : Int} {v : Value} (h : v = .slice a n c) (k : x = y) : Ending.returned (.tuple #[v, .int .i64 x]) = .returned (.tuple #[.slice a n c, .int .i64 y]) := by rw [h, k]

set_option maxRecDepth 100000 in
set_option maxHeartbeats 2000000 in
theorem specTextGetM (a : Option Addr) (n c : Nat) (l : List Int) (t : Int) (w : World) (h : BRow w a n l) (hn : n ≤ 1073741824) (hnc : n ≤ c) (hcm : c ≤ maxLen) (hm : t ≤ 9223372036854775807) :
    Calls Try.prog 26 #[.slice a n c, .int .i64 t] w fun e w' => ∃ a' n' c', e = .returned (.tuple #[.slice a' n' c', .int .i64 (getT l t).2]) ∧ Made w w' a' n' c' (getT l t).1 := by
  have hok := getL_ok l t h.2.1
  have hl := h.1
  go_enter Try.func26, Try.ntmps26
  go_wp2_with fail
  refine (specGetM _ _ _ l t _ h hn hm).mono ?_
  rintro e w1 ⟨rfl, rfl⟩
  obtain ⟨x, hx⟩ : ∃ x, x = (getL l t).1 := ⟨_, rfl⟩
  obtain ⟨y, hy⟩ : ∃ y, y = (getL l t).2 := ⟨_, rfl⟩
  rw [← hx, ← hy]
  have hGT : getT l t = if y < 0 ∨ 40 < x ∨ (l.length : Int) - y < x then ([], -1) else ((l.drop y.toNat).take x.toNat, y + x) := by
    unfold getT; rw [← hx, ← hy]
  have HG : Hid _ := hGT
  have hok2 : y = -1 ∨ (0 ≤ x ∧ x ≤ 2147483647 ∧ 0 < y ∧ y ≤ n) := by
    rcases hok with e | e
    · left; rw [hy, e]
    · right; rw [hx, hy, ← hl]; exact e
  have HL : Hid _ := hl
  clear hx hy hGT hok hl
  unfold maxLen at hcm
  by_cases hneg : y < 0
  · have hfin : Hid (getT l t = ([], -1)) := by show _ = _; rw [HG.out, if_pos (.inl hneg)]
    clear hok2 h
    go_wp2
    go_ret2
    rw [hfin.out]
    exact ⟨_, _, _, rfl, made_nil _⟩
  · obtain ⟨hx0, hx1, hy0, hy1⟩ := hok2.resolve_left (by omega)
    clear hok2
    by_cases h40 : 40 < x
    · have hfin : Hid (getT l t = ([], -1)) := by show _ = _; rw [HG.out, if_pos (.inr (.inl h40))]
      clear h
      go_wp2
      go_ret2
      rw [hfin.out]
      exact ⟨_, _, _, rfl, made_nil _⟩
    · by_cases hfar : (n : Int) - y < x
      · have hfin : Hid (getT l t = ([], -1)) := by show _ = _; rw [HG.out, HL.out, if_pos (.inr (.inr hfar))]
        clear h
        go_wp2
        go_ret2
        rw [hfin.out]
        exact ⟨_, _, _, rfl, made_nil _⟩
      · obtain ⟨xn, rfl⟩ := Int.eq_ofNat_of_zero_le hx0
        obtain ⟨yn, rfl⟩ := Int.eq_ofNat_of_zero_le (show 0 ≤ y by omega)
        have hfin : Hid (getT l t = ((l.drop yn).take xn, (yn : Int) + xn)) := by
          show _ = _
          rw [HG.out, HL.out, if_neg (by omega), Int.toNat_natCast, Int.toNat_natCast]
        obtain ⟨b, off, rfl, _⟩ := h.2.2 (by omega)
        have hE := own_empty w1
        have hBE := below_empty w1
        have hrE := (h.part (lo := yn) (m := xn) (by omega)).below hBE
        have hlen : Hid (((l.drop yn).take xn).length = xn) := by show _ = _; simp [HL.out]; omega
        by_cases hcy : c = yn
        · have hx00 : xn = 0 := by omega
          subst hx00
          subst hcy
          have hrN : BRow (w1.alloc (.cells #[] 5)) (some ⟨b, off, none⟩) 0 [] := BRow.empty _
          clear h hrE
          go_wp2_with (at_builtin; refine wpList_appendB rfl _ _ rfl w1.heap.size _ 0 [] rfl hE _ _ _ [] rfl hrN (by intro hh; cases hh) (by omega) (by simp) ?_)
          intro v2 w2 ho2 hg2
          have hb2 := hE.grown hg2 hBE (by simp)
          have ho3 : Own w2 w1.heap.size v2 0 ((l.drop c).take 0) := by simpa using ho2
          clear hg2 ho2 hE hBE hrN
          obtain ⟨a', c', hv, hmade⟩ := ho3.made hb2
          subst hv
          go_wp2
          go_ret2
          rw [hfin.out]
          exact ⟨_, _, _, ret_sl rfl (by omega), hmade⟩
        · have hrF : BRow (w1.alloc (.cells #[] 5)) (some ⟨b, off + yn, none⟩) (yn + xn - yn) ((l.drop yn).take xn) := by rw [Nat.add_sub_cancel_left]; exact hrE
          clear h hrE
          go_wp2_with (at_builtin; refine wpList_appendB rfl _ _ rfl w1.heap.size _ 0 [] rfl hE _ (yn + xn - yn) _ ((l.drop yn).take xn) rfl hrF (by intro hh; cases hh) (by omega) (by simp) ?_)
          intro v2 w2 ho2 hg2
          have hb2 := hE.grown hg2 hBE (by simp)
          have ho3 : Own w2 w1.heap.size v2 xn ((l.drop yn).take xn) := by simpa using ho2
          clear hg2 ho2 hE hBE hrF
          obtain ⟨a', c', hv, hmade⟩ := ho3.made hb2
          subst hv
          go_wp2
          go_ret2
          rw [hfin.out]
          exact ⟨_, _, _, ret_sl rfl rfl, hmade⟩

set_option maxRecDepth 100000 in
set_option maxHeartbeats 2000000 in
theorem implTextGetM (a : Option Addr) (n c : Nat) (l : List Int) (t : Int) (w : World) (h : BRow w a n l) (hn : n ≤ 1073741824) (hnc : n ≤ c) (hcm : c ≤ maxLen) :
    Calls Try.prog 34 #[.slice a n c, .int .i64 t] w fun e w' => ∃ a' n' c', e = .returned (.tuple #[.slice a' n' c', .int .i64 (getT l t).2]) ∧ Made w w' a' n' c' (getT l t).1 := by
  have hok := getL_ok l t h.2.1
  have hl := h.1
  go_enter Try.func34, Try.ntmps34
  go_wp2_with fail
  refine (implGetM _ _ _ l t _ h hn hnc hcm).mono ?_
  rintro e w1 ⟨rfl, hb1⟩
  replace h := h.below hb1
  obtain ⟨x, hx⟩ : ∃ x, x = (getL l t).1 := ⟨_, rfl⟩
  obtain ⟨y, hy⟩ : ∃ y, y = (getL l t).2 := ⟨_, rfl⟩
  rw [← hx, ← hy]
  have hGT : getT l t = if y < 0 ∨ 40 < x ∨ (l.length : Int) - y < x then ([], -1) else ((l.drop y.toNat).take x.toNat, y + x) := by
    unfold getT; rw [← hx, ← hy]
  have HG : Hid _ := hGT
  have hok2 : y = -1 ∨ (0 ≤ x ∧ x ≤ 2147483647 ∧ 0 < y ∧ y ≤ n) := by
    rcases hok with e | e
    · left; rw [hy, e]
    · right; rw [hx, hy, ← hl]; exact e
  have HL : Hid _ := hl
  clear hx hy hGT hok hl
  unfold maxLen at hcm
  by_cases hneg : y < 0
  · have hfin : Hid (getT l t = ([], -1)) := by show _ = _; rw [HG.out, if_pos (.inl hneg)]
    clear hok2 h
    go_wp2
    go_ret2
    rw [hfin.out]
    exact ⟨_, _, _, rfl, made_nil_below hb1⟩
  · obtain ⟨hx0, hx1, hy0, hy1⟩ := hok2.resolve_left (by omega)
    clear hok2
    by_cases h40 : 40 < x
    · have hfin : Hid (getT l t = ([], -1)) := by show _ = _; rw [HG.out, if_pos (.inr (.inl h40))]
      clear h
      go_wp2
      go_ret2
      rw [hfin.out]
      exact ⟨_, _, _, rfl, made_nil_below hb1⟩
    · by_cases hfar : (n : Int) - y < x
      · have hfin : Hid (getT l t = ([], -1)) := by show _ = _; rw [HG.out, HL.out, if_pos (.inr (.inr hfar))]
        clear h
        go_wp2
        go_ret2
        rw [hfin.out]
        exact ⟨_, _, _, rfl, made_nil_below hb1⟩
      · obtain ⟨xn, rfl⟩ := Int.eq_ofNat_of_zero_le hx0
        obtain ⟨yn, rfl⟩ := Int.eq_ofNat_of_zero_le (show 0 ≤ y by omega)
        have hfin : Hid (getT l t = ((l.drop yn).take xn, (yn : Int) + xn)) := by
          show _ = _
          rw [HG.out, HL.out, if_neg (by omega), Int.toNat_natCast, Int.toNat_natCast]
        obtain ⟨b, off, rfl, _⟩ := h.2.2 (by omega)
        have hrE := h.part (lo := yn) (m := xn) (by omega)
        have hs1 := hb1.size
        by_cases hcy : c = yn
        · have hx00 : xn = 0 := by omega
          subst hx00
          subst hcy
          have hrN : BRow w1 (some ⟨b, off, none⟩) 0 [] := BRow.empty _
          clear h hrE
          go_wp2_with fail
          refine (joinedV _ 0 _ [] _ _ _ [] _ (nil_row _) hrN (by omega) (by omega)).mono ?_
          rintro e w2 ⟨v2, rfl, ho2, hb2⟩
          have ho3 : Own w2 w.heap.size v2 0 ((l.drop c).take 0) := by simpa using ho2.mono hs1
          obtain ⟨a', c', hv, hmade⟩ := ho3.made (hb1.trans (hb2.mono hs1))
          subst hv
          clear ho2 hb2 ho3 hrN
          go_wp2
          go_ret2
          rw [hfin.out]
          exact ⟨_, _, _, ret_sl rfl (by omega), hmade⟩
        · have hrF := hrE
          clear h hrE
          go_wp2_with fail
          refine (joinedV _ 0 _ [] _ _ _ ((l.drop yn).take xn) _ (nil_row _) hrF (by omega) (by omega)).mono ?_
          rintro e w2 ⟨v2, rfl, ho2, hb2⟩
          have ho3 : Own w2 w.heap.size v2 xn ((l.drop yn).take xn) := by simpa using ho2.mono hs1
          obtain ⟨a', c', hv, hmade⟩ := ho3.made (hb1.trans (hb2.mono hs1))
          subst hv
          clear ho2 hb2 ho3 hrF
          go_wp2
          go_ret2
          rw [hfin.out]
          exact ⟨_, _, _, ret_sl rfl rfl, hmade⟩

end Go.Proofs.Ythfknedokkccaaa

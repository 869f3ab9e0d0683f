import Derived.Test.YtnhebknckgffoaaAppendB
import Derived.Test.YtnhebknckgffoaaNum
import Derived.Test.YtnhebknckgffoaaRowOf
import Derived.Test.YtnhebknckgffoaaGetImpl
import Derived.Test.YtnhebknckgffoaaRowPart
/- spec.PutNum: the bytes of a number, behind what was there, in new memory. -/
namespace Go.Proofs.Ytnhebknckgffoaa
open Go.RowKit

theorem num_next {m d : List Int} {n k : Nat} (h : d ++ num k = num n) (hk : ¬ k < 128) (e : m = d ++ [((k % 128 + 128 : Nat) : Int)]) : m ++ num (k / 128) = num n := by
  rw [e, List.append_assoc, List.singleton_append, ← num_ge hk]; exact h

set_option maxHeartbeats 1000000 in
theorem specPut (a : Option Addr) (n c : Nat) (l : List Int) (m : Nat) (w : World) (h : BRow w a n l) (hnil : a = none → c = 0) (hn : n ≤ 1073741824) (h1 : m ≤ 2147483647) :
    Calls Try.prog 55 #[.slice a n c, .int .i64 m] w fun e w' => ∃ v, e = .returned v ∧ Own w' w.heap.size v (n + (num m).length) (l ++ num m) ∧ Below w.heap.size w w' := by
  have hE := own_empty w
  have hBE := below_empty w
  have hrE := h.below hBE
  have h5 := num_len5 m h1
  clear h
  go_enter Try.func55, Try.ntmps55
  go_wp2_with (at_builtin; refine wpList_appendB rfl _ _ rfl w.heap.size _ 0 [] rfl hE a n c l rfl hrE hnil (by omega) (by simp) ?_)
  intro v1 w1 ho1 hg1
  have hb1 := hE.grown hg1 hBE (by simp)
  clear hE hBE hrE hnil hg1
  go_wp2
  go_loopw [1, 5] (fun mm out wr => ∃ (k : Nat) (d : List Int), k ≤ m ∧ mm = .int .i64 k ∧ Hid (d ++ num k = num m) ∧ Own wr w.heap.size out (n + d.length) (l ++ d) ∧ Below w.heap.size w wr) (fun mm _ _ => (intOf mm).toNat)
  case atStart => exact ⟨m, [], Nat.le_refl _, rfl, rfl, by simpa using ho1, hb1⟩
  case round =>
    rename_i out
    obtain ⟨k, d, hk, rfl, hd, ho, hb⟩ := hrel
    have hdl : d.length + (num k).length = (num m).length := by rw [← List.length_append, hd.out]
    have hB : w.heap.size ≤ wr.heap.size := hb.size
    clear ho1 hb1
    have hB1 : ∀ o : Obj, Below w.heap.size w (wr.alloc o) := fun o => hb.alloc hB o
    by_cases hlt : k < 128
    · go_wp2_with (at_builtin; refine wpList_appendB rfl _ _ rfl w.heap.size _ (n + d.length) (l ++ d) rfl (ho.alloc _) _ 1 1 _ rfl (one_row _ _ (by omega) (by omega)) (by intro hh; cases hh) (by omega) (by simp; omega) ?_)
      intro v2 w2 ho2 hg2
      have hb2 := (ho.alloc _).grown hg2 (hB1 _) (by simp; omega)
      have hfin : Hid (d ++ [(k : Int)] = num m) := by
        show d ++ [(k : Int)] = num m
        rw [← hd.out, num_lt hlt]
      clear hg2 ho hb hB1 hd
      go_wp2
      go_ret
      refine ⟨_, rfl, ?_, hb2⟩
      rw [← hfin.out, List.length_append]
      exact ho2
    · go_wp2_with (at_builtin; refine wpList_appendB rfl _ _ rfl w.heap.size _ (n + d.length) (l ++ d) rfl (ho.alloc _) _ 1 1 _ rfl (one_row _ _ (by omega) (by omega)) (by intro hh; cases hh) (by omega) (by simp; omega) ?_)
      intro v2 w2 ho2 hg2
      have hb2 := (ho.alloc _).grown hg2 (hB1 _) (by simp; omega)
      have hnext := num_next hd.out hlt rfl
      have HN : Hid _ := hnext
      clear hg2 ho hb hB1 hd hnext
      go_wp2
      go_roundw
      case rel => refine ⟨k / 128, d ++ [((k % 128 + 128 : Nat) : Int)], by omega, by go_num, HN, ?_, hb2⟩; rw [List.length_append]; simpa [Nat.add_assoc] using ho2
      case measure => simp [intOf]; omega
end Go.Proofs.Ytnhebknckgffoaa

/- PutNum: the bytes of a number, behind what was there, in new memory; a number that is out of range adds nothing. -/
namespace Go.Proofs.Ytnhebknckgffoaa
open Go.RowKit

theorem nil_row (w : World) : BRow w none 0 [] := ⟨rfl, by simp, by omega⟩

theorem arr_row (w : World) (d : List Int) (h : d.length ≤ 5) (hby : ∀ x ∈ d, 0 ≤ x ∧ x ≤ 255) :
    BRow (w.alloc (.cells #[.int .u8 (d[0]?.getD 0), .int .u8 (d[1]?.getD 0), .int .u8 (d[2]?.getD 0), .int .u8 (d[3]?.getD 0), .int .u8 (d[4]?.getD 0), .int .i64 d.length] 75)) (some ⟨w.heap.size, 0, none⟩) d.length d := by
  refine ⟨rfl, hby, fun _ => ⟨w.heap.size, 0, rfl, fun i hi => ?_⟩⟩
  have : i = 0 ∨ i = 1 ∨ i = 2 ∨ i = 3 ∨ i = 4 := by omega
  rcases this with rfl | rfl | rfl | rfl | rfl <;> simp

set_option maxRecDepth 100000 in
theorem cut5 (b k : Nat) (hk : k ≤ 5) (wx : World) : (Instr.sliceAt 73 (.pointer (some ⟨b, 0, none⟩)) none (some (.int .i64 (k : Int))) none).run Try.prog wx = .ok (.slice (some ⟨b, 0, none⟩) k 5) wx := by
  have hal : Try.prog.arrayLen 73 = 5 := by kernel_rfl
  have hsz : ((sizeOf (Try.prog.elem 73)).run Try.prog wx) = .ok 1 wx := by kernel_rfl
  rw [run_sliceAt_array_h (P := Try.prog) wx (t := 73) (a := ⟨b, 0, none⟩) Try.underlying73 .i64 (k : Int) (by omega) (by rw [hal]; omega), hsz]
  simp [slicedAt, hal, Result.andThen, Addr.add]

set_option maxRecDepth 100000 in
set_option maxHeartbeats 1000000 in
theorem implPut (a : Option Addr) (n c : Nat) (l : List Int) (m : Nat) (w : World) (h : BRow w a n l) (hn : n ≤ 1073741824) (h1 : m ≤ 2147483647) :
    Calls Try.prog 19 #[.slice a n c, .int .i64 m] w fun e w' => ∃ v, e = .returned v ∧ Own w' w.heap.size v (n + (num m).length) (l ++ num m) ∧ Below w.heap.size w w' := by
  have h5 := num_len5 m h1
  have hby := num_byte m
  go_enter Try.func19, Try.ntmps19
  go_wp2_with fail
  refine (rowOfB m _ h1).mono ?_
  rintro e w1 ⟨rfl, hb1⟩
  unfold rowV
  have hr1 := arr_row w1 (num m) h5 hby
  generalize hd : num m = d at *
  have hb2 : Below w.heap.size w (w1.alloc (.cells #[.int .u8 (d[0]?.getD 0), .int .u8 (d[1]?.getD 0), .int .u8 (d[2]?.getD 0), .int .u8 (d[3]?.getD 0), .int .u8 (d[4]?.getD 0), .int .i64 d.length] 75)) := hb1.alloc hb1.size _
  have hs1 := hb1.size
  have hcut := fun wx : World => cut5 w1.heap.size d.length h5 wx
  have hfin : Hid (d = num m) := hd.symm
  clear hby hd
  go_wp2_with fail
  refine (joinedV _ _ _ l _ _ _ d _ (h.below hb2) hr1 hn (by omega)).mono ?_
  rintro e w3 ⟨v, rfl, ho3, hb3⟩
  have ho4 : Own w3 w.heap.size v (n + d.length) (l ++ d) := ho3.mono (by simp; omega)
  have hb4 : Below w.heap.size w w3 := hb2.trans (hb3.mono (by simp; omega))
  clear ho3 hb3 hr1 hb2 hcut h
  go_wp2
  go_ret
  rw [← hfin.out]
  exact ⟨v, rfl, ho4, hb4⟩

set_option maxRecDepth 100000 in
set_option maxHeartbeats 1000000 in
theorem implPutNo (a : Option Addr) (n c : Nat) (l : List Int) (m : Int) (w : World) (h : BRow w a n l) (hn : n ≤ 1073741824) (hm : m < 0 ∨ 2147483647 < m) :
    Calls Try.prog 19 #[.slice a n c, .int .i64 m] w fun e w' => ∃ v, e = .returned v ∧ Own w' w.heap.size v n l ∧ Below w.heap.size w w' := by
  have hz : ∀ (w' : World) v, Own w' w.heap.size v (n + 0) (l ++ []) → Own w' w.heap.size v n l := by intro w' v ho; simpa using ho
  rcases hm with hm | hm
  all_goals
    go_enter Try.func19, Try.ntmps19
    go_wp2_with fail
    refine (joinedV _ _ _ l _ 0 _ [] _ h (nil_row _) hn (by omega)).mono ?_
    rintro e w3 ⟨v, rfl, ho3, hb3⟩
    have ho4 := hz _ _ ho3
    clear ho3 hz h
    go_wp2
    go_ret
    exact ⟨v, rfl, ho4, hb3⟩

set_option maxRecDepth 100000 in
set_option maxHeartbeats 1000000 in
theorem specPutNo (a : Option Addr) (n c : Nat) (l : List Int) (m : Int) (w : World) (h : BRow w a n l) (hnil : a = none → c = 0) (hn : n ≤ 1073741824) (hm : m < 0 ∨ 2147483647 < m) :
    Calls Try.prog 55 #[.slice a n c, .int .i64 m] w fun e w' => ∃ v, e = .returned v ∧ Own w' w.heap.size v n l ∧ Below w.heap.size w w' := by
  have hE := own_empty w
  have hBE := below_empty w
  have hrE := h.below hBE
  clear h
  rcases hm with hm | hm
  all_goals
    go_enter Try.func55, Try.ntmps55
    go_wp2_with (at_builtin; refine wpList_appendB rfl _ _ rfl w.heap.size _ 0 [] rfl hE a n c l rfl hrE hnil (by omega) (by simp) ?_)
    intro v1 w1 ho1 hg1
    have hb1 := hE.grown hg1 hBE (by simp)
    have ho2 : Own w1 w.heap.size v1 n l := by simpa using ho1
    clear hE hBE hrE hnil hg1 ho1
    go_wp2
    go_ret
    exact ⟨v1, rfl, ho2, hb1⟩

/-- What PutNum puts behind what was there. -/
def putL (m : Int) : List Int := if 0 ≤ m ∧ m ≤ 2147483647 then num m.toNat else []

theorem putL_len (m : Int) : (putL m).length ≤ 5 := by
  unfold putL
  split
  · exact num_len5 _ (by omega)
  · simp

theorem implPutM (a : Option Addr) (n c : Nat) (l : List Int) (m : Int) (w : World) (h : BRow w a n l) (hn : n ≤ 1073741824) :
    Calls Try.prog 19 #[.slice a n c, .int .i64 m] w fun e w' => ∃ a' c', e = .returned (.slice a' (n + (putL m).length) c') ∧ Made w w' a' (n + (putL m).length) c' (l ++ putL m) := by
  refine Calls.made ?_
  by_cases hm : 0 ≤ m ∧ m ≤ 2147483647
  · obtain ⟨k, rfl⟩ := Int.eq_ofNat_of_zero_le hm.1
    simp only [putL, if_pos hm, Int.toNat_natCast]
    exact implPut a n c l k w h hn (by omega)
  · simp only [putL, if_neg hm, List.length_nil, Nat.add_zero, List.append_nil]
    exact implPutNo a n c l m w h hn (by omega)

theorem specPutM (a : Option Addr) (n c : Nat) (l : List Int) (m : Int) (w : World) (h : BRow w a n l) (hnil : a = none → c = 0) (hn : n ≤ 1073741824) :
    Calls Try.prog 55 #[.slice a n c, .int .i64 m] w fun e w' => ∃ a' c', e = .returned (.slice a' (n + (putL m).length) c') ∧ Made w w' a' (n + (putL m).length) c' (l ++ putL m) := by
  refine Calls.made ?_
  by_cases hm : 0 ≤ m ∧ m ≤ 2147483647
  · obtain ⟨k, rfl⟩ := Int.eq_ofNat_of_zero_le hm.1
    simp only [putL, if_pos hm, Int.toNat_natCast]
    exact specPut a n c l k w h hnil hn (by omega)
  · simp only [putL, if_neg hm, List.length_nil, Nat.add_zero, List.append_nil]
    exact specPutNo a n c l m w h hnil hn (by omega)
end Go.Proofs.Ytnhebknckgffoaa

/- GetText: the text at a place, in new memory, and where it ends; nothing and -1 where there is none. -/
namespace Go.Proofs.Ytnhebknckgffoaa
open Go.RowKit
set_option linter.unusedVariables false

/-- What GetText answers at place t of l. -/
def getT (l : List Int) (t : Int) : List Int × Int :=
  if (getL l t).2 < 0 ∨ 40 < (getL l t).1 ∨ (l.length : Int) - (getL l t).2 < (getL l t).1 then ([], -1)
  else ((l.drop (getL l t).2.toNat).take (getL l t).1.toNat, (getL l t).2 + (getL l t).1)

theorem getR_len {f : Nat} {p d : List Int} (h : getR f p = some d) : 0 < d.length ∧ d.length ≤ p.length := by
  induction f generalizing p d with
  | zero => simp [getR] at h
  | succ f ih =>
    cases p with
    | nil => simp [getR] at h
    | cons x r =>
      simp only [getR] at h
      split at h
      · obtain rfl := Option.some.inj h; simp
      · obtain ⟨d', hd', rfl⟩ := Option.map_eq_some_iff.1 h
        have := ih hd'
        simp; omega

theorem getL_ok (l : List Int) (t : Int) (hby : ∀ x ∈ l, 0 ≤ x ∧ x ≤ 255) : getL l t = (0, -1) ∨ (0 ≤ (getL l t).1 ∧ (getL l t).1 ≤ 2147483647 ∧ 0 < (getL l t).2 ∧ (getL l t).2 ≤ l.length) := by
  unfold getL
  split
  · exact .inl rfl
  · cases hg : getR 5 (l.drop t.toNat) with
    | none => exact .inl rfl
    | some d =>
      simp only []
      split
      · exact .inl rfl
      · right
        have h1 := getR_len hg
        have h2 := valI_val d (getR_bytes hg (fun x hx => hby x (List.mem_of_mem_drop hx)))
        rw [List.length_drop] at h1
        rename_i hnb
        refine ⟨?_, ?_, ?_, ?_⟩
        · show 0 ≤ valI d
          omega
        · show valI d ≤ 2147483647
          have := fun h => hnb (.inr h); omega
        · show 0 < t + d.length
          omega
        · show t + d.length ≤ l.length
          omega

theorem getT_len (l : List Int) (t : Int) (hby : ∀ x ∈ l, 0 ≤ x ∧ x ≤ 255) : (getT l t).1.length ≤ 40 := by
  unfold getT
  split
  · simp
  · simp only [List.length_take]
    omega

theorem made_nil (w : World) : Made w w none 0 0 [] :=
  ⟨⟨World.ownsRow_nil _ _ _ _, by simp⟩, ⟨rfl, by simp, by omega⟩, by omega, by unfold maxLen; omega, fun _ => rfl, by simp [Value.ownBlock], Below.refl _ _⟩

theorem made_nil_below {w w' : World} (hb : Below w.heap.size w w') : Made w w' none 0 0 [] :=
  ⟨⟨World.ownsRow_nil _ _ _ _, by simp⟩, ⟨rfl, by simp, by omega⟩, by omega, by unfold maxLen; omega, fun _ => rfl, by simp [Value.ownBlock], hb⟩

theorem ret_sl {a : Option Addr} {n c : Nat} {x y : Int} {v : Value} (h : v = .slice a n c) (k : x = y) : Ending.returned (.tuple #[v, .int .i64 x]) = .returned (.tuple #[.slice a n c, .int .i64 y]) := by rw [h, k]


set_option maxRecDepth 100000 in
set_option maxHeartbeats 2000000 in
theorem implTextGetM (a : Option Addr) (n c : Nat) (l : List Int) (t : Int) (w : World) (h : BRow w a n l) (hn : n ≤ 1073741824) (hnc : n ≤ c) (hcm : c ≤ maxLen) :
    Calls Try.prog 46 #[.slice a n c, .int .i64 t] w fun e w' => ∃ a' n' c', e = .returned (.tuple #[.slice a' n' c', .int .i64 (getT l t).2]) ∧ Made w w' a' n' c' (getT l t).1 := by
  have hok := getL_ok l t h.2.1
  have hl := h.1
  go_enter Try.func46, Try.ntmps46
  go_wp2_with fail
  refine (implGetM _ _ _ l t _ h hn hnc hcm).mono ?_
  rintro e w1 ⟨rfl, hb1⟩
  replace h := h.below hb1
  obtain ⟨x, hx⟩ : ∃ x, x = (getL l t).1 := ⟨_, rfl⟩
  obtain ⟨y, hy⟩ : ∃ y, y = (getL l t).2 := ⟨_, rfl⟩
  rw [← hx, ← hy]
  have hGT : getT l t = if y < 0 ∨ 40 < x ∨ (l.length : Int) - y < x then ([], -1) else ((l.drop y.toNat).take x.toNat, y + x) := by
    unfold getT; rw [← hx, ← hy]
  have HG : Hid _ := hGT
  have hok2 : y = -1 ∨ (0 ≤ x ∧ x ≤ 2147483647 ∧ 0 < y ∧ y ≤ n) := by
    rcases hok with e | e
    · left; rw [hy, e]
    · right; rw [hx, hy, ← hl]; exact e
  have HL : Hid _ := hl
  clear hx hy hGT hok hl
  unfold maxLen at hcm
  by_cases hneg : y < 0
  · have hfin : Hid (getT l t = ([], -1)) := by show _ = _; rw [HG.out, if_pos (.inl hneg)]
    clear hok2 h
    go_wp2
    go_ret2
    rw [hfin.out]
    exact ⟨_, _, _, rfl, made_nil_below hb1⟩
  · obtain ⟨hx0, hx1, hy0, hy1⟩ := hok2.resolve_left (by omega)
    clear hok2
    by_cases h40 : 40 < x
    · have hfin : Hid (getT l t = ([], -1)) := by show _ = _; rw [HG.out, if_pos (.inr (.inl h40))]
      clear h
      go_wp2
      go_ret2
      rw [hfin.out]
      exact ⟨_, _, _, rfl, made_nil_below hb1⟩
    · by_cases hfar : (n : Int) - y < x
      · have hfin : Hid (getT l t = ([], -1)) := by show _ = _; rw [HG.out, HL.out, if_pos (.inr (.inr hfar))]
        clear h
        go_wp2
        go_ret2
        rw [hfin.out]
        exact ⟨_, _, _, rfl, made_nil_below hb1⟩
      · obtain ⟨xn, rfl⟩ := Int.eq_ofNat_of_zero_le hx0
        obtain ⟨yn, rfl⟩ := Int.eq_ofNat_of_zero_le (show 0 ≤ y by omega)
        have hfin : Hid (getT l t = ((l.drop yn).take xn, (yn : Int) + xn)) := by
          show _ = _
          rw [HG.out, HL.out, if_neg (by omega), Int.toNat_natCast, Int.toNat_natCast]
        obtain ⟨b, off, rfl, _⟩ := h.2.2 (by omega)
        have hrE := h.part (lo := yn) (m := xn) (by omega)
        have hs1 := hb1.size
        by_cases hcy : c = yn
        · have hx00 : xn = 0 := by omega
          subst hx00
          subst hcy
          have hrN : BRow w1 (some ⟨b, off, none⟩) 0 [] := BRow.empty _
          clear h hrE
          go_wp2_with fail
          refine (joinedV _ 0 _ [] _ _ _ [] _ (nil_row _) hrN (by omega) (by omega)).mono ?_
          rintro e w2 ⟨v2, rfl, ho2, hb2⟩
          have ho3 : Own w2 w.heap.size v2 0 ((l.drop c).take 0) := by simpa using ho2.mono hs1
          obtain ⟨a', c', hv, hmade⟩ := ho3.made (hb1.trans (hb2.mono hs1))
          subst hv
          clear ho2 hb2 ho3 hrN
          go_wp2
          go_ret2
          rw [hfin.out]
          exact ⟨_, _, _, ret_sl rfl (by omega), hmade⟩
        · have hrF := hrE
          clear h hrE
          go_wp2_with fail
          refine (joinedV _ 0 _ [] _ _ _ ((l.drop yn).take xn) _ (nil_row _) hrF (by omega) (by omega)).mono ?_
          rintro e w2 ⟨v2, rfl, ho2, hb2⟩
          have ho3 : Own w2 w.heap.size v2 xn ((l.drop yn).take xn) := by simpa using ho2.mono hs1
          obtain ⟨a', c', hv, hmade⟩ := ho3.made (hb1.trans (hb2.mono hs1))
          subst hv
          clear ho2 hb2 ho3 hrF
          go_wp2
          go_ret2
          rw [hfin.out]
          exact ⟨_, _, _, ret_sl rfl rfl, hmade⟩

end Go.Proofs.Ytnhebknckgffoaa

/- PutText: both bodies put a text's length and its bytes behind what was there; too long a text adds nothing. -/
namespace Go.Proofs.Ytnhebknckgffoaa
open Go.RowKit

/-- What PutText puts behind what was there. -/
def textL (t : List Int) : List Int := if t.length ≤ 40 then num t.length ++ t else []

theorem textL_le (t : List Int) : (textL t).length ≤ 45 := by
  unfold textL
  split
  · have := num_len5 t.length (by omega); simp; omega
  · simp

set_option maxRecDepth 100000 in
set_option maxHeartbeats 1000000 in
theorem specTextM (a : Option Addr) (n c : Nat) (l : List Int) (a2 : Option Addr) (n2 c2 : Nat) (l2 : List Int) (w : World) (h : BRow w a n l) (hnil : a = none → c = 0) (h2 : BRow w a2 n2 l2) (hnil2 : a2 = none → c2 = 0) (hn : n ≤ 1073741824) (hn2 : n2 ≤ 1073741824) :
    Calls Try.prog 54 #[.slice a n c, .slice a2 n2 c2] w fun e w' => ∃ a' c', e = .returned (.slice a' (n + (textL l2).length) c') ∧ Made w w' a' (n + (textL l2).length) c' (l ++ textL l2) := by
  refine Calls.made ?_
  have hl2 := h2.1
  by_cases hlong : 40 < n2
  · have ht : textL l2 = [] := by unfold textL; rw [if_neg (by omega)]
    have hE := own_empty w
    have hBE := below_empty w
    have hrE := h.below hBE
    have HT : Hid _ := ht
    clear h h2 hl2 ht hnil2
    go_enter Try.func54, Try.ntmps54
    go_wp2_with (at_builtin; refine wpList_appendB rfl _ _ rfl w.heap.size _ 0 [] rfl hE a n c l rfl hrE hnil (by omega) (by simp) ?_)
    intro v1 w1 ho1 hg1
    have hb1 := hE.grown hg1 hBE (by simp)
    have ho2 : Own w1 w.heap.size v1 n l := by simpa using ho1
    clear hE hBE hrE hnil hg1 ho1
    go_wp2
    go_ret
    refine ⟨v1, rfl, ?_, hb1⟩
    rw [HT.out]
    simpa using ho2
  · have ht : textL l2 = num n2 ++ l2 := by unfold textL; rw [if_pos (by omega), hl2]
    have hp : putL (n2 : Int) = num n2 := by unfold putL; rw [if_pos (by omega), Int.toNat_natCast]
    have h5 := num_len5 n2 (by omega)
    have HT : Hid _ := ht
    have HP : Hid _ := hp
    have h2l : Hid _ := hl2
    clear ht hp hl2
    go_enter Try.func54, Try.ntmps54
    go_wp2_with fail
    refine (specPutM _ _ _ l (n2 : Int) _ h hnil hn).mono ?_
    rintro e w1 ⟨a1, c1, rfl, m1⟩
    rw [HP.out] at m1 ⊢
    have o1 := m1.own
    have b1 := m1.below
    have r2 := h2.below b1
    have s1 := b1.size
    clear m1 h h2
    generalize num n2 = d at *
    go_wp2_with (at_builtin; refine wpList_appendB rfl _ _ rfl w.heap.size _ (n + d.length) (l ++ d) rfl o1 a2 n2 c2 l2 rfl r2 hnil2 (by omega) s1 ?_)
    intro v2 w2 ho2 hg2
    have hb2 := o1.grown hg2 b1 s1
    clear hg2 o1 b1 r2 hnil2
    go_wp2
    go_ret
    refine ⟨v2, rfl, ?_, hb2⟩
    rw [HT.out, List.length_append]
    simpa [Nat.add_assoc, h2l.out] using ho2

set_option maxRecDepth 100000 in
set_option maxHeartbeats 1000000 in
theorem implTextM (a : Option Addr) (n c : Nat) (l : List Int) (a2 : Option Addr) (n2 c2 : Nat) (l2 : List Int) (w : World) (h : BRow w a n l) (h2 : BRow w a2 n2 l2) (hn : n ≤ 1000000000) (hn2 : n2 ≤ 1073741824) :
    Calls Try.prog 14 #[.slice a n c, .slice a2 n2 c2] w fun e w' => ∃ a' c', e = .returned (.slice a' (n + (textL l2).length) c') ∧ Made w w' a' (n + (textL l2).length) c' (l ++ textL l2) := by
  refine Calls.made ?_
  have hl2 := h2.1
  by_cases hlong : 40 < n2
  · have ht : textL l2 = [] := by unfold textL; rw [if_neg (by omega)]
    have HT : Hid _ := ht
    clear h2 hl2 ht
    go_enter Try.func14, Try.ntmps14
    go_wp2_with fail
    refine (joinedV _ _ _ l _ 0 _ [] _ h (nil_row _) (by omega) (by omega)).mono ?_
    rintro e w3 ⟨v, rfl, ho3, hb3⟩
    clear h
    go_wp2
    go_ret
    refine ⟨v, rfl, ?_, hb3⟩
    rw [HT.out]
    exact ho3
  · have ht : textL l2 = num n2 ++ l2 := by unfold textL; rw [if_pos (by omega), hl2]
    have hp : putL (n2 : Int) = num n2 := by unfold putL; rw [if_pos (by omega), Int.toNat_natCast]
    have h5 := num_len5 n2 (by omega)
    have HT : Hid _ := ht
    have HP : Hid _ := hp
    have h2l : Hid _ := hl2
    clear ht hp hl2
    go_enter Try.func14, Try.ntmps14
    go_wp2_with fail
    refine (implPutM _ _ _ l (n2 : Int) _ h (by omega)).mono ?_
    rintro e w1 ⟨a1, c1, rfl, m1⟩
    rw [HP.out] at m1 ⊢
    have r1 := m1.row
    have b1 := m1.below
    have r2 := h2.below b1
    have s1 := b1.size
    clear m1 h h2
    generalize num n2 = d at *
    go_wp2_with fail
    refine (joinedV _ _ _ (l ++ d) _ _ _ l2 _ r1 r2 (by omega) (by omega)).mono ?_
    rintro e w3 ⟨v, rfl, ho3, hb3⟩
    have ho4 := ho3.mono s1
    have hb4 : Below w.heap.size w w3 := b1.trans (hb3.mono s1)
    clear ho3 hb3 r1 r2 b1
    go_wp2
    go_ret
    refine ⟨v, rfl, ?_, hb4⟩
    rw [HT.out, List.length_append]
    simpa [Nat.add_assoc, h2l.out] using ho4
end Go.Proofs.Ytnhebknckgffoaa

/- Numbers and texts come back from their bytes: on lists. -/
namespace Go.Proofs.Ytnhebknckgffoaa

theorem badEnd_of_num (k : Nat) : badEnd (num k) = false := (badEnd_num (num k) (num_whole k)).2 (by rw [val_num])

theorem get_put (l r : List Int) (k : Nat) (hk : k ≤ 2147483647) : getL (l ++ num k ++ r) (l.length : Int) = ((k : Int), (l.length : Int) + ((num k).length : Int)) := by
  have hR : getR 5 ((l ++ num k ++ r).drop l.length) = some (num k) := by
    rw [List.append_assoc, List.drop_left]
    exact getR_of_whole (num_whole k) (num_len5 k hk) r
  have hv : valI (num k) = (k : Int) := by rw [valI_val _ (num_byte k), val_num]
  unfold getL
  rw [if_neg (by simp; omega), Int.toNat_natCast, hR]
  simp only []
  rw [if_neg (by rw [badEnd_of_num, hv]; simp; omega), hv]

theorem getT_put (l t : List Int) (ht : t.length ≤ 40) : getT (l ++ textL t) (l.length : Int) = (t, (l.length : Int) + ((textL t).length : Int)) := by
  have e : textL t = num t.length ++ t := by unfold textL; rw [if_pos ht]
  have hg : getL (l ++ textL t) (l.length : Int) = ((t.length : Int), (l.length : Int) + ((num t.length).length : Int)) := by
    rw [e, ← List.append_assoc]; exact get_put l t t.length (by omega)
  unfold getT
  rw [hg]
  simp only []
  rw [if_neg (by rw [e]; simp; omega)]
  have h1 : ((l.length : Int) + ((num t.length).length : Int)).toNat = l.length + (num t.length).length := by omega
  rw [h1, Int.toNat_natCast, e]
  congr 1
  · rw [← List.append_assoc, show l.length + (num t.length).length = (l ++ num t.length).length by simp, List.drop_left, List.take_of_length_le (Nat.le_refl _)]
  · simp; omega

theorem getR_pre {f : Nat} {p d : List Int} (h : getR f p = some d) : p.take d.length = d := by
  induction f generalizing p d with
  | zero => simp [getR] at h
  | succ f ih =>
    cases p with
    | nil => simp [getR] at h
    | cons x r =>
      simp only [getR] at h
      split at h
      · obtain rfl := Option.some.inj h; simp
      · obtain ⟨d', hd', rfl⟩ := Option.map_eq_some_iff.1 h
        simp [ih hd']

/-- What is read is just the bytes of it. -/
theorem put_get (l : List Int) (t : Int) (hby : ∀ x ∈ l, 0 ≤ x ∧ x ≤ 255) (h : ¬ (getL l t).2 < 0) :
    0 ≤ t ∧ t ≤ l.length ∧ l.take t.toNat ++ putL (getL l t).1 = l.take (getL l t).2.toNat ∧ t ≤ (getL l t).2 ∧ (getL l t).2 ≤ l.length ∧ 0 < (getL l t).2 := by
  have hok := getL_ok l t hby
  rcases hok with e | ⟨h1, h2, h3, h4⟩
  · rw [e] at h; exact absurd (show (-1 : Int) < 0 by omega) h
  · revert h h1 h2 h3 h4
    unfold getL
    split
    · intro h; exact absurd (show (-1 : Int) < 0 by omega) h
    · cases hg : getR 5 (l.drop t.toNat) with
      | none => intro h; exact absurd (show (-1 : Int) < 0 by omega) h
      | some d =>
        simp only []
        split
        · intro h; exact absurd (show (-1 : Int) < 0 by omega) h
        · intro h h1 h2 h3 h4
          rename_i hout hnb
          have hbd : ∀ x ∈ l.drop t.toNat, 0 ≤ x ∧ x ≤ 255 := fun x hx => hby x (List.mem_of_mem_drop hx)
          have hw := getR_whole hg hbd
          have hv := valI_val d (getR_bytes hg hbd)
          have hbe : badEnd d = false := by
            cases hb : badEnd d with
            | false => rfl
            | true => exact absurd (.inl hb) hnb
          have hnum := (badEnd_num d hw.1).1 hbe
          have hp : putL (valI d) = d := by
            unfold putL
            rw [if_pos ⟨h1, h2⟩, hv, Int.toNat_natCast, hnum]
          refine ⟨by omega, by omega, ?_, ?_, h4, h3⟩
          · show l.take t.toNat ++ putL (valI d) = l.take (t + d.length).toNat
            rw [hp, show (t + (d.length : Int)).toNat = t.toNat + d.length by omega, List.take_add, getR_pre hg]
          · show t ≤ t + d.length
            omega
end Go.Proofs.Ytnhebknckgffoaa

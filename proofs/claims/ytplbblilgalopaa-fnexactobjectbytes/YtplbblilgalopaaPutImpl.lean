/- PutNum: the bytes of a number, behind what was there, in new memory; a number that is out of range adds nothing. -/
import Derived.Test.YtplbblilgalopaaRowOf
import Derived.Test.YtplbblilgalopaaPutSpec
namespace Go.Proofs.Ytplbblilgalopaa
open Go.RowKit

theorem nil_row (w : World) : BRow w none 0 [] := ⟨rfl, by simp, by omega⟩

theorem arr_row (w : World) (d : List Int) (h : d.length ≤ 5) (hby : ∀ x ∈ d, 0 ≤ x ∧ x ≤ 255) :
    BRow (w.alloc (.cells #[.int .u8 (d[0]?.getD 0), .int .u8 (d[1]?.getD 0), .int .u8 (d[2]?.getD 0), .int .u8 (d[3]?.getD 0), .int .u8 (d[4]?.getD 0), .int .i64 d.length] 97)) (some ⟨w.heap.size, 0, none⟩) d.length d := by
  refine ⟨rfl, hby, fun _ => ⟨w.heap.size, 0, rfl, fun i hi => ?_⟩⟩
  have : i = 0 ∨ i = 1 ∨ i = 2 ∨ i = 3 ∨ i = 4 := by omega
  rcases this with rfl | rfl | rfl | rfl | rfl <;> simp

set_option maxRecDepth 100000 in
theorem cut5 (b k : Nat) (hk : k ≤ 5) (wx : World) : (Instr.sliceAt 95 (.pointer (some ⟨b, 0, none⟩)) none (some (.int .i64 (k : Int))) none).run Try.prog wx = .ok (.slice (some ⟨b, 0, none⟩) k 5) wx := by
  have hal : Try.prog.arrayLen 95 = 5 := by kernel_rfl
  have hsz : ((sizeOf (Try.prog.elem 95)).run Try.prog wx) = .ok 1 wx := by kernel_rfl
  rw [run_sliceAt_array_h (P := Try.prog) wx (t := 95) (a := ⟨b, 0, none⟩) Try.underlying95 .i64 (k : Int) (by omega) (by rw [hal]; omega), hsz]
  simp [slicedAt, hal, Result.andThen, Addr.add]

set_option maxRecDepth 100000 in
set_option maxHeartbeats 1000000 in
theorem implPut (a : Option Addr) (n c : Nat) (l : List Int) (m : Nat) (w : World) (h : BRow w a n l) (hn : n ≤ 1073741824) (h1 : m ≤ 2147483647) :
    Calls Try.prog 40 #[.slice a n c, .int .i64 m] w fun e w' => ∃ v, e = .returned v ∧ Own w' w.heap.size v (n + (num m).length) (l ++ num m) ∧ Below w.heap.size w w' := by
  have h5 := num_len5 m h1
  have hby := num_byte m
  go_enter Try.func40, Try.ntmps40
  go_wp2_with fail
  refine (rowOfB m _ h1).mono ?_
  rintro e w1 ⟨rfl, hb1⟩
  unfold rowV
  have hr1 := arr_row w1 (num m) h5 hby
  generalize hd : num m = d at *
  have hb2 : Below w.heap.size w (w1.alloc (.cells #[.int .u8 (d[0]?.getD 0), .int .u8 (d[1]?.getD 0), .int .u8 (d[2]?.getD 0), .int .u8 (d[3]?.getD 0), .int .u8 (d[4]?.getD 0), .int .i64 d.length] 97)) := hb1.alloc hb1.size _
  have hs1 := hb1.size
  have hcut := fun wx : World => cut5 w1.heap.size d.length h5 wx
  have hfin : Hid (d = num m) := hd.symm
  clear hby hd
  go_wp2_with fail
  refine (joinedV _ _ _ l _ _ _ d _ (h.below hb2) hr1 hn (by omega)).mono ?_
  rintro e w3 ⟨v, rfl, ho3, hb3⟩
  have ho4 : Own w3 w.heap.size v (n + d.length) (l ++ d) := ho3.mono (by simp; omega)
  have hb4 : Below w.heap.size w w3 := hb2.trans (hb3.mono (by simp; omega))
  clear ho3 hb3 hr1 hb2 hcut h
  go_wp2
  go_ret
  rw [← hfin.out]
  exact ⟨v, rfl, ho4, hb4⟩

set_option maxRecDepth 100000 in
set_option maxHeartbeats 1000000 in
theorem implPutNo (a : Option Addr) (n c : Nat) (l : List Int) (m : Int) (w : World) (h : BRow w a n l) (hn : n ≤ 1073741824) (hm : m < 0 ∨ 2147483647 < m) :
    Calls Try.prog 40 #[.slice a n c, .int .i64 m] w fun e w' => ∃ v, e = .returned v ∧ Own w' w.heap.size v n l ∧ Below w.heap.size w w' := by
  have hz : ∀ (w' : World) v, Own w' w.heap.size v (n + 0) (l ++ []) → Own w' w.heap.size v n l := by intro w' v ho; simpa using ho
  rcases hm with hm | hm
  all_goals
    go_enter Try.func40, Try.ntmps40
    go_wp2_with fail
    refine (joinedV _ _ _ l _ 0 _ [] _ h (nil_row _) hn (by omega)).mono ?_
    rintro e w3 ⟨v, rfl, ho3, hb3⟩
    have ho4 := hz _ _ ho3
    clear ho3 hz h
    go_wp2
    go_ret
    exact ⟨v, rfl, ho4, hb3⟩

set_option maxRecDepth 100000 in
set_option maxHeartbeats 1000000 in
theorem specPutNo (a : Option Addr) (n c : Nat) (l : List Int) (m : Int) (w : World) (h : BRow w a n l) (hnil : a = none → c = 0) (hn : n ≤ 1073741824) (hm : m < 0 ∨ 2147483647 < m) :
    Calls Try.prog 64 #[.slice a n c, .int .i64 m] w fun e w' => ∃ v, e = .returned v ∧ Own w' w.heap.size v n l ∧ Below w.heap.size w w' := by
  have hE := own_empty w
  have hBE := below_empty w
  have hrE := h.below hBE
  clear h
  rcases hm with hm | hm
  all_goals
    go_enter Try.func64, Try.ntmps64
    go_wp2_with (at_builtin; refine wpList_appendB rfl _ _ rfl w.heap.size _ 0 [] rfl hE a n c l rfl hrE hnil (by omega) (by simp) ?_)
    intro v1 w1 ho1 hg1
    have hb1 := hE.grown hg1 hBE (by simp)
    have ho2 : Own w1 w.heap.size v1 n l := by simpa using ho1
    clear hE hBE hrE hnil hg1 ho1
    go_wp2
    go_ret
    exact ⟨v1, rfl, ho2, hb1⟩

/-- What PutNum puts behind what was there. -/
def putL (m : Int) : List Int := if 0 ≤ m ∧ m ≤ 2147483647 then num m.toNat else []

theorem putL_len (m : Int) : (putL m).length ≤ 5 := by
  unfold putL
  split
  · exact num_len5 _ (by omega)
  · simp

theorem implPutM (a : Option Addr) (n c : Nat) (l : List Int) (m : Int) (w : World) (h : BRow w a n l) (hn : n ≤ 1073741824) :
    Calls Try.prog 40 #[.slice a n c, .int .i64 m] w fun e w' => ∃ a' c', e = .returned (.slice a' (n + (putL m).length) c') ∧ Made w w' a' (n + (putL m).length) c' (l ++ putL m) := by
  refine Calls.made ?_
  by_cases hm : 0 ≤ m ∧ m ≤ 2147483647
  · obtain ⟨k, rfl⟩ := Int.eq_ofNat_of_zero_le hm.1
    simp only [putL, if_pos hm, Int.toNat_natCast]
    exact implPut a n c l k w h hn (by omega)
  · simp only [putL, if_neg hm, List.length_nil, Nat.add_zero, List.append_nil]
    exact implPutNo a n c l m w h hn (by omega)

theorem specPutM (a : Option Addr) (n c : Nat) (l : List Int) (m : Int) (w : World) (h : BRow w a n l) (hnil : a = none → c = 0) (hn : n ≤ 1073741824) :
    Calls Try.prog 64 #[.slice a n c, .int .i64 m] w fun e w' => ∃ a' c', e = .returned (.slice a' (n + (putL m).length) c') ∧ Made w w' a' (n + (putL m).length) c' (l ++ putL m) := by
  refine Calls.made ?_
  by_cases hm : 0 ≤ m ∧ m ≤ 2147483647
  · obtain ⟨k, rfl⟩ := Int.eq_ofNat_of_zero_le hm.1
    simp only [putL, if_pos hm, Int.toNat_natCast]
    exact specPut a n c l k w h hnil hn (by omega)
  · simp only [putL, if_neg hm, List.length_nil, Nat.add_zero, List.append_nil]
    exact specPutNo a n c l m w h hnil hn (by omega)
end Go.Proofs.Ytplbblilgalopaa

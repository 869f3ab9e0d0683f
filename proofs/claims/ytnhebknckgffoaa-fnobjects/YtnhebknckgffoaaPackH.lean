import Derived.Test.YtnhebknckgffoaaBase
import Derived.Test.YtnhebknckgffoaaPackA
import Derived.Test.YtnhebknckgffoaaAppendB
import Derived.Test.YtnhebknckgffoaaJoined
/- Sum: both bodies reckon the same number, and the law of it returns true at every slice of bytes. -/
namespace Go.Proofs.Ytnhebknckgffoaa
open Go.RowKit

/-- The number that the first bytes of l come to. -/
def sumTo (l : List Int) : Nat → Int
  | 0 => 7
  | k + 1 => (sumTo l k * 257 + l[k]?.getD 0 + 1) % 2147483647

theorem sumTo_bd (l : List Int) (k : Nat) : 0 ≤ sumTo l k ∧ sumTo l k ≤ 2147483646 := by
  cases k with
  | zero => simp [sumTo]
  | succ k => simp only [sumTo]; omega

set_option maxHeartbeats 1000000 in
theorem specSum (a : Option Addr) (n c : Nat) (l : List Int) (w : World) (h : BRow w a n l) (hn : n ≤ 1073741824) :
    Calls Try.prog 65 #[.slice a n c] w fun e w' => e = .returned (.int .i64 (sumTo l n)) ∧ w' = w := by
  obtain ⟨_, hby, hc⟩ := h
  rcases Nat.eq_zero_or_pos n with h0 | hpos
  · subst h0
    clear hc
    go_enter Try.func65, Try.ntmps65
    go_wp2
    refine wp_loop_rounds 1 ?_
    rw [rounds_succ]
    go_wp2
    go_ret
    exact ⟨ret_int rfl, rfl⟩
  · obtain ⟨b, off, rfl, hd⟩ := hc hpos
    clear hc
    go_enter Try.func65, Try.ntmps65
    go_wp2
    go_loop [3, 4] (fun s i => ∃ j : Nat, j ≤ n ∧ i = .int .i64 j ∧ s = .int .i64 (sumTo l j)) (fun _ i => n - (intOf i).toNat)
    case atStart => exact ⟨0, Nat.zero_le _, rfl, rfl⟩
    case round =>
      obtain ⟨j, hj, rfl, rfl⟩ := hrel
      have hs := sumTo_bd l j
      by_cases hlt : j < n
      · have hx := hd j hlt
        have hb := byte_at hby j
        have hnext : Hid (sumTo l (j + 1) = (sumTo l j * 257 + l[j]?.getD 0 + 1) % 2147483647) := rfl
        clear hd
        generalize sumTo l j = s at *
        generalize l[j]?.getD 0 = x at *
        go_wp2
        go_round
        case rel => exact ⟨j + 1, by omega, by go_num, by rw [hnext.out]⟩
        case measure => simp [intOf]; omega
      · clear hd
        go_wp2
        go_ret
        have : j = n := by omega
        subst this
        exact ⟨rfl, rfl⟩

end Go.Proofs.Ytnhebknckgffoaa

/- Slices of ints: what reads there; a copy and a comparison by the laws' helpers. -/
namespace Go.Proofs.Ytnhebknckgffoaa
open Go.RowKit

/-- The slice at address a, of n elements, reads as the ints l. -/
def NRow (w : World) (a : Option Addr) (n : Nat) (l : List Int) : Prop :=
  l.length = n ∧ (∀ x ∈ l, -9223372036854775808 ≤ x ∧ x ≤ 9223372036854775807) ∧ (0 < n → ∃ b off, a = some ⟨b, off, none⟩ ∧ ∀ i, i < n → w.cell? ⟨b, off + i, none⟩ = some (.int .i64 (l[i]?.getD 0)))

theorem NRow.below {w w' : World} {a : Option Addr} {n : Nat} {l : List Int} (h : NRow w a n l) (hb : Below w.heap.size w w') : NRow w' a n l := by
  refine ⟨h.1, h.2.1, fun hn => ?_⟩
  obtain ⟨b, off, ha, hc⟩ := h.2.2 hn
  refine ⟨b, off, ha, fun i hi => ?_⟩
  have := hc i hi
  rw [hb.cell (World.block_lt_of_cell? w _ this)]; exact this

theorem int_at {l : List Int} (h : ∀ x ∈ l, -9223372036854775808 ≤ x ∧ x ≤ 9223372036854775807) (i : Nat) : -9223372036854775808 ≤ l[i]?.getD 0 ∧ l[i]?.getD 0 ≤ 9223372036854775807 := by
  by_cases hi : i < l.length
  · rw [List.getElem?_eq_getElem hi]; exact h _ (List.getElem_mem hi)
  · rw [List.getElem?_eq_none (by omega)]; simp

theorem RowIn.rowI {w : World} {a : Option Addr} {n c : Nat} {zs : List Int} (h : RowIn .i64 w a n c zs) : NRow w a n (zs.take n) ∧ n ≤ c ∧ c ≤ maxLen := by
  rcases h with ⟨rfl, rfl, rfl, rfl⟩ | ⟨x, rfl, hl, hm, hz, hc, hw⟩
  · exact ⟨⟨rfl, by simp, by omega⟩, by omega, by simp⟩
  · refine ⟨⟨by simp; omega, fun x hx => ?_, fun hn => ?_⟩, hl, hm⟩
    · have := hw x (List.mem_of_mem_take hx)
      exact bounds_i64 this
    · obtain ⟨b, off, spot⟩ := x
      have h0 := hc 0 (by omega)
      have hspot : spot = none := by simpa [Addr.add] using World.cell?_spot h0
      subst hspot
      refine ⟨b, off, rfl, fun i hi => ?_⟩
      have := hc i (by omega)
      rw [Addr.add_lit] at this
      rw [this]
      have e : (zs.take n)[i]?.getD 0 = zs.getD i 0 := by simp [List.getD, hi]
      rw [e]

/-- What the call itself made: ints in a row of its own, from block base on. -/
def IOwn (w : World) (base : Nat) (v : Value) (n : Nat) (l : List Int) : Prop :=
  w.ownsRow base 3 1 v n (l.map (Value.int .i64)) ∧ ∀ x ∈ l, -9223372036854775808 ≤ x ∧ x ≤ 9223372036854775807

theorem IOwn.below {w w' : World} {base : Nat} {v : Value} {n : Nat} {l : List Int} (h : IOwn w base v n l) (hb : Below w.heap.size w w') : IOwn w' base v n l := by
  refine ⟨⟨h.1.1, ?_⟩, h.2⟩
  rcases h.1.2 with hn | ⟨g, cap, cur, hv, hg, hh, r⟩
  · exact .inl hn
  · exact .inr ⟨g, cap, cur, hv, hg, by rw [hb.block g (Array.getElem?_eq_some_iff.1 hh).1]; exact hh, r⟩

/-- The shape of what is owned, and what reads there. -/
theorem IOwn.shape {w : World} {base : Nat} {v : Value} {n : Nat} {l : List Int} (h : IOwn w base v n l) :
    ∃ a c, v = .slice a n c ∧ n ≤ c ∧ c ≤ maxLen ∧ NRow w a n l ∧ ∀ k, v.ownBlock = some k → base ≤ k ∧ k < w.heap.size := by
  have hlt := h.1.lt
  obtain ⟨⟨hlen, hr⟩, hby⟩ := h
  rcases hr with ⟨rfl, rfl⟩ | ⟨g, cap, cur, rfl, hg, hh, hnc, hcm, hs, ht⟩
  · exact ⟨none, 0, rfl, by omega, by simp, ⟨by simpa using hlen, hby, by omega⟩, hlt⟩
  · refine ⟨some ⟨g, 0, none⟩, cap, rfl, hnc, hcm, ⟨by simpa using hlen, hby, fun hn => ⟨g, 0, rfl, fun i hi => ?_⟩⟩, hlt⟩
    rw [Nat.zero_add, cell_of_row w g i cur _ (0, 0) hh]
    have hl : l.length = n := by simpa using hlen
    have e : (cur.toList.take (n * 1))[i]? = cur[i]? := by rw [List.getElem?_take, if_pos (by omega)]; simp
    rw [← e, ht]
    simp [show i < l.length by omega]

theorem info3 : (Try.prog.info? 3).map (fun i => (i.zero, i.size, i.bytes)) = some (some (.int .i64 0), 1, 8) := by kernel_rfl

/-- One round of a copy into a row of one's own. -/
theorem copy_roundI {w wr : World} {g n k : Nat} {l m : List Int} (hl : l.length = n) (hm : m.length = n) (hk : k < n) (hB : w.heap.size ≤ g)
    (hown : wr.ownsRow w.heap.size 3 1 (.slice (some ⟨g, 0, none⟩) n n) n ((l.take k ++ m.drop k).map (Value.int .i64))) (hb : Below w.heap.size w wr) :
    (wr.setCell ⟨g, k, none⟩ (.int .i64 (l[k]?.getD 0))).ownsRow w.heap.size 3 1 (.slice (some ⟨g, 0, none⟩) n n) n ((l.take (k + 1) ++ m.drop (k + 1)).map (Value.int .i64)) ∧ Below w.heap.size w (wr.setCell ⟨g, k, none⟩ (.int .i64 (l[k]?.getD 0))) := by
  refine ⟨?_, hb.setCell hB _⟩
  have := (hown.stored k (.int .i64 (l[k]?.getD 0))).1
  rwa [mapset _ _ _ _ (by omega) (by omega)] at this

/-! Marks laid, and looked for -/
end Go.Proofs.Ytnhebknckgffoaa

/- Finger: both bodies sum the name's bytes and a byte for each kind. -/
namespace Go.Proofs.Ytnhebknckgffoaa
open Go.RowKit

/-- The byte of a kind. -/
def kindB (k : Int) : Int := if k = 0 then 0 else 1
def kindsB (l : List Int) : List Int := l.map kindB

theorem kindB_byte (k : Int) : 0 ≤ kindB k ∧ kindB k ≤ 255 := by unfold kindB; split <;> omega
theorem kindsB_len (l : List Int) : (kindsB l).length = l.length := by simp [kindsB]
theorem kindsB_at {l : List Int} {j : Nat} (h : j < l.length) : (kindsB l)[j]?.getD 0 = kindB (l[j]?.getD 0) := by simp [kindsB, h]
theorem kindsB_byte (l : List Int) : ∀ x ∈ kindsB l, 0 ≤ x ∧ x ≤ 255 := by
  intro x hx
  obtain ⟨k, _, rfl⟩ := List.mem_map.1 hx
  exact kindB_byte k

theorem kinds_next {l k : List Int} {j : Nat} (h : j < k.length) : l ++ (kindsB k).take (j + 1) = l ++ ((kindsB k).take j ++ [kindB (k[j]?.getD 0)]) := by
  rw [List.take_succ_eq_append_getElem (by rw [kindsB_len]; exact h)]
  congr 3
  simp [kindsB, h]

set_option maxRecDepth 100000 in
set_option maxHeartbeats 1000000 in
theorem specFinger (a : Option Addr) (n c : Nat) (l : List Int) (a2 : Option Addr) (n2 c2 : Nat) (k : List Int) (w : World) (h : BRow w a n l) (hnil : a = none → c = 0) (h2 : NRow w a2 n2 k) (hn : n ≤ 1048576) (hn2 : n2 ≤ 1048576) :
    Calls Try.prog 59 #[.slice a n c, .slice a2 n2 c2] w fun e w' => e = .returned (.int .i64 (sumTo (l ++ kindsB k) (n + n2))) ∧ Below w.heap.size w w' := by
  obtain ⟨hl2, hin, hc2⟩ := h2
  have hE := own_empty w
  have hBE := below_empty w
  have hrE := h.below hBE
  have Hl2 : Hid (k.length = n2) := hl2
  clear h hl2
  go_enter Try.func59, Try.ntmps59
  go_wp2_with (at_builtin; refine wpList_appendB rfl _ _ rfl w.heap.size _ 0 [] rfl hE a n c l rfl hrE hnil (by omega) (by simp) ?_)
  intro v1 w1 ho1 hg1
  have hb1 := hE.grown hg1 hBE (by simp)
  have ho2 : Own w1 w.heap.size v1 (n + 0) (l ++ (kindsB k).take 0) := by simpa using ho1
  have ho3 : Own w1 w.heap.size v1 n l := by simpa using ho1
  clear hE hBE hrE hnil hg1 ho1
  obtain ⟨a1, c1, rfl, _⟩ := ho3.made (w := w) hb1
  clear ho3
  go_wp2
  go_loopw [5, 6] (fun s i wr => ∃ j : Nat, j ≤ n2 ∧ i = .int .i64 j ∧ Hid (∃ a c, s = .slice a (n + j) c) ∧ Hid (Own wr w.heap.size s (n + j) (l ++ (kindsB k).take j)) ∧ Below w.heap.size w wr) (fun _ i _ => n2 - (intOf i).toNat)
  case atStart => exact ⟨0, Nat.zero_le _, rfl, ⟨_, _, rfl⟩, ho2, hb1⟩
  case round =>
    obtain ⟨j, hj, rfl, hsh, ho, hb⟩ := hrel
    obtain ⟨a3, c3, rfl⟩ := hsh.out
    clear ho2 hb1
    by_cases hlt : j < n2
    · obtain ⟨b, off, rfl, hd⟩ := hc2 (by omega)
      have hx := (hb.cell (World.block_lt_of_cell? w _ (hd j hlt))).trans (hd j hlt)
      have hs := hb.size
      have HK : Hid (l ++ (kindsB k).take (j + 1) = l ++ ((kindsB k).take j ++ [kindB (k[j]?.getD 0)])) := kinds_next (by rw [Hl2.out]; exact hlt)
      have HO := ho.out
      clear hc2 hd ho
      by_cases h0 : k[j]?.getD 0 = 0
      · have hk : kindB (k[j]?.getD 0) = 0 := by simp [kindB, h0]
        rw [h0] at hx
        have HE := HK.out
        rw [hk] at HE
        have HE' : Hid _ := HE
        clear HE hk HK h0
        have hO' := HO.alloc (.cells #[.int .u8 0] 5)
        have hone := one_row wr 0 (by omega) (by omega)
        have hb' : Below w.heap.size w (wr.alloc (.cells #[.int .u8 0] 5)) := hb.alloc hs _
        have hs' := hb'.size
        clear HO
        go_wp2_with (at_builtin; refine wpList_appendB rfl _ _ rfl w.heap.size _ (n + j) _ rfl hO' _ 1 1 [0] rfl hone (by simp) (by omega) hs' ?_)
        intro v4 w4 ho4 hg4
        have hb4 := hO'.grown hg4 hb' hs'
        rw [← HE'.out] at ho4
        have HO4 : Hid (Own w4 w.heap.size v4 (n + (j + 1)) (l ++ (kindsB k).take (j + 1))) := ho4
        obtain ⟨a4, c4, rfl, _⟩ := ho4.made (w := w) hb4
        clear ho4 hO' hone hb' hg4 hb
        go_wp2
        go_roundw
        case rel => exact ⟨j + 1, by omega, by go_num, ⟨_, _, rfl⟩, HO4, hb4⟩
        case measure => simp [intOf]; omega
      · have hk : kindB (k[j]?.getD 0) = 1 := by simp [kindB, h0]
        have HE := HK.out
        rw [hk] at HE
        have HE' : Hid _ := HE
        have hne : (k[j]?.getD 0 != 0) = true := by simp [h0]
        clear HE hk HK
        have hO' := HO.alloc (.cells #[.int .u8 1] 5)
        have hone := one_row wr 1 (by omega) (by omega)
        have hb' : Below w.heap.size w (wr.alloc (.cells #[.int .u8 1] 5)) := hb.alloc hs _
        have hs' := hb'.size
        clear HO
        generalize k[j]?.getD 0 = x at *
        go_wp2_with (at_builtin; refine wpList_appendB rfl _ _ rfl w.heap.size _ (n + j) _ rfl hO' _ 1 1 [1] rfl hone (by simp) (by omega) hs' ?_)
        intro v4 w4 ho4 hg4
        have hb4 := hO'.grown hg4 hb' hs'
        rw [← HE'.out] at ho4
        have HO4 : Hid (Own w4 w.heap.size v4 (n + (j + 1)) (l ++ (kindsB k).take (j + 1))) := ho4
        obtain ⟨a4, c4, rfl, _⟩ := ho4.made (w := w) hb4
        clear ho4 hO' hone hb' hg4 hb
        go_wp2
        go_roundw
        case rel => exact ⟨j + 1, by omega, by go_num, ⟨_, _, rfl⟩, HO4, hb4⟩
        case measure => simp [intOf]; omega
    · have hjn : j = n2 := by omega
      subst hjn
      have hr := ho.out.row
      rw [List.take_of_length_le (by rw [kindsB_len, Hl2.out]; exact Nat.le_refl _)] at hr
      clear hc2 ho
      go_wp2_with fail
      refine (specSum _ _ _ _ _ hr (by omega)).mono ?_
      rintro e w5 ⟨rfl, rfl⟩
      go_wp2
      go_ret
      exact ⟨rfl, hb⟩

end Go.Proofs.Ytnhebknckgffoaa

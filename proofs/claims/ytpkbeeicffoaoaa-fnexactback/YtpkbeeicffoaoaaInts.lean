/- Slices of ints: what reads there; a copy and a comparison by the laws' helpers. -/
import Derived.Test.YtpkbeeicffoaoaaBytes
namespace Go.Proofs.Ytpkbeeicffoaoaa
open Go.RowKit

/-- The slice at address a, of n elements, reads as the ints l. -/
def NRow (w : World) (a : Option Addr) (n : Nat) (l : List Int) : Prop :=
  l.length = n ∧ (∀ x ∈ l, -9223372036854775808 ≤ x ∧ x ≤ 9223372036854775807) ∧ (0 < n → ∃ b off, a = some ⟨b, off, none⟩ ∧ ∀ i, i < n → w.cell? ⟨b, off + i, none⟩ = some (.int .i64 (l[i]?.getD 0)))

theorem NRow.below {w w' : World} {a : Option Addr} {n : Nat} {l : List Int} (h : NRow w a n l) (hb : Below w.heap.size w w') : NRow w' a n l := by
  refine ⟨h.1, h.2.1, fun hn => ?_⟩
  obtain ⟨b, off, ha, hc⟩ := h.2.2 hn
  refine ⟨b, off, ha, fun i hi => ?_⟩
  have := hc i hi
  rw [hb.cell (World.block_lt_of_cell? w _ this)]; exact this

theorem int_at {l : List Int} (h : ∀ x ∈ l, -9223372036854775808 ≤ x ∧ x ≤ 9223372036854775807) (i : Nat) : -9223372036854775808 ≤ l[i]?.getD 0 ∧ l[i]?.getD 0 ≤ 9223372036854775807 := by
  by_cases hi : i < l.length
  · rw [List.getElem?_eq_getElem hi]; exact h _ (List.getElem_mem hi)
  · rw [List.getElem?_eq_none (by omega)]; simp

theorem RowIn.rowI {w : World} {a : Option Addr} {n c : Nat} {zs : List Int} (h : RowIn .i64 w a n c zs) : NRow w a n (zs.take n) ∧ n ≤ c ∧ c ≤ maxLen := by
  rcases h with ⟨rfl, rfl, rfl, rfl⟩ | ⟨x, rfl, hl, hm, hz, hc, hw⟩
  · exact ⟨⟨rfl, by simp, by omega⟩, by omega, by simp⟩
  · refine ⟨⟨by simp; omega, fun x hx => ?_, fun hn => ?_⟩, hl, hm⟩
    · have := hw x (List.mem_of_mem_take hx)
      exact bounds_i64 this
    · obtain ⟨b, off, spot⟩ := x
      have h0 := hc 0 (by omega)
      have hspot : spot = none := by simpa [Addr.add] using World.cell?_spot h0
      subst hspot
      refine ⟨b, off, rfl, fun i hi => ?_⟩
      have := hc i (by omega)
      rw [Addr.add_lit] at this
      rw [this]
      have e : (zs.take n)[i]?.getD 0 = zs.getD i 0 := by simp [List.getD, hi]
      rw [e]

/-- What the call itself made: ints in a row of its own, from block base on. -/
def IOwn (w : World) (base : Nat) (v : Value) (n : Nat) (l : List Int) : Prop :=
  w.ownsRow base 3 1 v n (l.map (Value.int .i64)) ∧ ∀ x ∈ l, -9223372036854775808 ≤ x ∧ x ≤ 9223372036854775807

theorem IOwn.below {w w' : World} {base : Nat} {v : Value} {n : Nat} {l : List Int} (h : IOwn w base v n l) (hb : Below w.heap.size w w') : IOwn w' base v n l := by
  refine ⟨⟨h.1.1, ?_⟩, h.2⟩
  rcases h.1.2 with hn | ⟨g, cap, cur, hv, hg, hh, r⟩
  · exact .inl hn
  · exact .inr ⟨g, cap, cur, hv, hg, by rw [hb.block g (Array.getElem?_eq_some_iff.1 hh).1]; exact hh, r⟩

/-- The shape of what is owned, and what reads there. -/
theorem IOwn.shape {w : World} {base : Nat} {v : Value} {n : Nat} {l : List Int} (h : IOwn w base v n l) :
    ∃ a c, v = .slice a n c ∧ n ≤ c ∧ c ≤ maxLen ∧ NRow w a n l ∧ ∀ k, v.ownBlock = some k → base ≤ k ∧ k < w.heap.size := by
  have hlt := h.1.lt
  obtain ⟨⟨hlen, hr⟩, hby⟩ := h
  rcases hr with ⟨rfl, rfl⟩ | ⟨g, cap, cur, rfl, hg, hh, hnc, hcm, hs, ht⟩
  · exact ⟨none, 0, rfl, by omega, by simp, ⟨by simpa using hlen, hby, by omega⟩, hlt⟩
  · refine ⟨some ⟨g, 0, none⟩, cap, rfl, hnc, hcm, ⟨by simpa using hlen, hby, fun hn => ⟨g, 0, rfl, fun i hi => ?_⟩⟩, hlt⟩
    rw [Nat.zero_add, cell_of_row w g i cur _ (0, 0) hh]
    have hl : l.length = n := by simpa using hlen
    have e : (cur.toList.take (n * 1))[i]? = cur[i]? := by rw [List.getElem?_take, if_pos (by omega)]; simp
    rw [← e, ht]
    simp [show i < l.length by omega]

theorem info3 : (Try.prog.info? 3).map (fun i => (i.zero, i.size, i.bytes)) = some (some (.int .i64 0), 1, 8) := by kernel_rfl

/-- One round of a copy into a row of one's own. -/
theorem copy_roundI {w wr : World} {g n k : Nat} {l m : List Int} (hl : l.length = n) (hm : m.length = n) (hk : k < n) (hB : w.heap.size ≤ g)
    (hown : wr.ownsRow w.heap.size 3 1 (.slice (some ⟨g, 0, none⟩) n n) n ((l.take k ++ m.drop k).map (Value.int .i64))) (hb : Below w.heap.size w wr) :
    (wr.setCell ⟨g, k, none⟩ (.int .i64 (l[k]?.getD 0))).ownsRow w.heap.size 3 1 (.slice (some ⟨g, 0, none⟩) n n) n ((l.take (k + 1) ++ m.drop (k + 1)).map (Value.int .i64)) ∧ Below w.heap.size w (wr.setCell ⟨g, k, none⟩ (.int .i64 (l[k]?.getD 0))) := by
  refine ⟨?_, hb.setCell hB _⟩
  have := (hown.stored k (.int .i64 (l[k]?.getD 0))).1
  rwa [mapset _ _ _ _ (by omega) (by omega)] at this

/-! A copy -/
set_option maxHeartbeats 1000000 in
theorem toI (a : Option Addr) (n c : Nat) (l : List Int) (w : World) (h : NRow w a n l) (hn : n ≤ 1048576) :
    Calls Try.prog 22 #[.slice a n c] w fun e w' => ∃ v, e = .returned v ∧ v = .slice (some ⟨w.heap.size, 0, none⟩) n n ∧ IOwn w' w.heap.size v n l ∧ Below w.heap.size w w' := by
  obtain ⟨i0, hi, hz0, hz1, hz2⟩ := info_parts info3
  obtain ⟨hl, hby, hcells⟩ := h
  have Hl : Hid (l.length = n) := hl
  clear hl
  have hv : ∀ wr : World, Hid (wr.ownsRow w.heap.size 3 1 (.slice (some ⟨w.heap.size, 0, none⟩) n n) n ((l.take n ++ (List.replicate n 0).drop n).map (Value.int .i64))) → IOwn wr w.heap.size (.slice (some ⟨w.heap.size, 0, none⟩) n n) n l := by
    intro wr hw
    have := hw.out
    rw [List.take_of_length_le (by rw [Hl.out]; exact Nat.le_refl _), List.drop_of_length_le (by simp), List.append_nil] at this
    exact ⟨this, hby⟩
  have HV := hv
  clear hv hby
  rcases Nat.eq_zero_or_pos n with h0 | hpos
  · subst h0
    clear hcells
    go_enter Try.func22, Try.ntmps22
    go_wp2_with (at_make; refine wpList_make_full _ rfl _ _ 24 rfl w.heap.size 3 i0 (.int .i64 0) 1 Try.underlying24 hi hz0 hz1 _ _ _ _ 0 rfl rfl rfl rfl (by rw [hz2]; omega) (by unfold maxLen; omega) (Nat.le_refl _) ?_)
    intro w1 hown hgrow
    have hb : Below w.heap.size w w1 := (Below.refl _ _).grown hgrow (Nat.le_refl _) (by intro k hk; cases hk)
    have hown' : Hid (w1.ownsRow w.heap.size 3 1 (.slice (some ⟨w.heap.size, 0, none⟩) 0 0) 0 ((l.take 0 ++ (List.replicate 0 0).drop 0).map (Value.int .i64))) := by
      show World.ownsRow _ _ _ _ _ _ _
      have e : (madeCells #[Value.int IntKind.i64 0] 0).toList = List.replicate 0 (Value.int IntKind.i64 0) := toList_madeCells_one _ _
      rw [e] at hown
      simpa using hown
    clear hown hgrow
    go_wp2
    refine wp_loop_rounds 1 ?_
    rw [rounds_succ]
    go_wp2
    go_ret
    exact ⟨_, rfl, rfl, HV _ hown', hb⟩
  · obtain ⟨b, off, rfl, hc⟩ := hcells hpos
    have hbl : b < w.heap.size := World.block_lt_of_cell? w _ (hc 0 hpos)
    go_enter Try.func22, Try.ntmps22
    go_wp2_with (at_make; refine wpList_make_full _ rfl _ _ 24 rfl w.heap.size 3 i0 (.int .i64 0) 1 Try.underlying24 hi hz0 hz1 _ _ _ _ n rfl rfl rfl rfl (by rw [hz2]; omega) (by unfold maxLen; omega) (Nat.le_refl _) ?_)
    intro w1 hown hgrow
    have hb : Below w.heap.size w w1 := (Below.refl _ _).grown hgrow (Nat.le_refl _) (by intro k hk; cases hk)
    have hown' : w1.ownsRow w.heap.size 3 1 (.slice (some ⟨w.heap.size, 0, none⟩) n n) n ((l.take 0 ++ (List.replicate n 0).drop 0).map (Value.int .i64)) := by
      have e : (madeCells #[Value.int IntKind.i64 0] n).toList = List.replicate n (Value.int IntKind.i64 0) := toList_madeCells_one _ _
      rw [e] at hown
      simpa using hown
    have HO := hown'
    clear hown hgrow hown'
    go_wp2
    go_loopw [4] (fun i wr => ∃ k : Nat, k ≤ n ∧ i = .int .i64 k ∧ Hid (wr.ownsRow w.heap.size 3 1 (.slice (some ⟨w.heap.size, 0, none⟩) n n) n ((l.take k ++ (List.replicate n 0).drop k).map (Value.int .i64))) ∧ Below w.heap.size w wr) (fun i _ => n - (intOf i).toNat)
    case atStart => exact ⟨0, Nat.zero_le _, rfl, HO, hb⟩
    case round =>
      obtain ⟨k, hk, rfl, hown, hbr⟩ := hrel
      clear HO hb
      by_cases hlt : k < n
      · have hcx : wr.cell? ⟨b, off + k, none⟩ = some (.int .i64 (l[k]?.getD 0)) := (hbr.cell (by exact hbl)).trans (hc k hlt)
        have hcy : ∃ u, wr.cell? ⟨w.heap.size, k, none⟩ = some u := by
          rw [hown.out.cellAt k (by omega)]
          exact ⟨_, List.getElem?_eq_getElem (by have := hown.out.1; omega)⟩
        obtain ⟨u, hcy⟩ := hcy
        have hfy : wr.frozen? ⟨w.heap.size, k, none⟩ = false := hown.out.frozenAt k
        have R := copy_roundI Hl.out (List.length_replicate) hlt (Nat.le_refl _) hown.out hbr
        have R1 : Hid _ := R.1
        have R2 := R.2
        clear R hown
        go_wp2
        go_roundw
        case rel => exact ⟨k + 1, by omega, by go_num, R1, R2⟩
        case measure => simp [intOf]; omega
      · go_wp2
        go_ret
        have : k = n := by omega
        subst this
        exact ⟨_, rfl, rfl, HV _ hown, hbr⟩

theorem copyI (a : Option Addr) (n c : Nat) (l : List Int) (w : World) (h : NRow w a n l) (hn : n ≤ 1048576) :
    Calls Try.prog 22 #[.slice a n c] w fun e w' => e = .returned (.slice (some ⟨w.heap.size, 0, none⟩) n n) ∧ IOwn w' w.heap.size (.slice (some ⟨w.heap.size, 0, none⟩) n n) n l ∧ NRow w' (some ⟨w.heap.size, 0, none⟩) n l ∧ Below w.heap.size w w' ∧ w.heap.size < w'.heap.size := by
  refine (toI a n c l w h hn).mono ?_
  rintro e w' ⟨v, rfl, rfl, ho, hb⟩
  obtain ⟨a1, c1, e1, _, _, hr, hlt⟩ := ho.shape
  simp only [Value.slice.injEq, true_and] at e1
  obtain ⟨rfl, rfl⟩ := e1
  exact ⟨rfl, ho, hr, hb, (hlt w.heap.size rfl).2⟩

/-! A comparison -/
set_option maxHeartbeats 1000000 in
theorem eqI (a1 : Option Addr) (n1 c1 : Nat) (l1 : List Int) (a2 : Option Addr) (n2 c2 : Nat) (l2 : List Int) (w : World) (h1 : NRow w a1 n1 l1) (h2 : NRow w a2 n2 l2) (hn : n1 ≤ 1073741824) :
    Calls Try.prog 28 #[.slice a1 n1 c1, .slice a2 n2 c2] w fun e w' => e = .returned (.bool (decide (l1 = l2))) ∧ ∃ k, w' = w.drewN k := by
  obtain ⟨hl1, hby1, hc1⟩ := h1
  obtain ⟨hl2, hby2, hc2⟩ := h2
  have Hl1 : Hid (l1.length = n1) := hl1
  have Hl2 : Hid (l2.length = n2) := hl2
  clear hl1 hl2
  by_cases hne : n1 = n2
  · subst hne
    rcases Nat.eq_zero_or_pos n1 with h0 | hpos
    · subst h0
      have hd : decide (l1 = l2) = true := by
        have e1 : l1 = [] := List.eq_nil_of_length_eq_zero Hl1.out
        have e2 : l2 = [] := List.eq_nil_of_length_eq_zero Hl2.out
        simp [e1, e2]
      have HD : Hid _ := hd
      clear hd hc1 hc2 hby1 hby2
      go_enter Try.func28, Try.ntmps28
      go_wp2
      refine wp_loop_rounds 1 ?_
      rw [rounds_succ]
      go_wp2
      go_ret
      exact ⟨ret_bool HD.out.symm, 0, rfl⟩
    · obtain ⟨b1, o1, rfl, hd1⟩ := hc1 hpos
      obtain ⟨b2, o2, rfl, hd2⟩ := hc2 hpos
      clear hc1 hc2
      go_enter Try.func28, Try.ntmps28
      go_wp2
      go_loopw [5] (fun i wr => ∃ k : Nat, k ≤ n1 ∧ i = .int .i64 k ∧ Hid (l1.take k = l2.take k) ∧ ∃ d, wr = w.drewN d) (fun i _ => n1 - (intOf i).toNat)
      case atStart => exact ⟨0, Nat.zero_le _, rfl, by simp [Hid], 0, rfl⟩
      case round =>
        obtain ⟨k, hk, rfl, heq, d, rfl⟩ := hrel
        by_cases hlt : k < n1
        · have hx1 := hd1 k hlt
          have hx2 := hd2 k hlt
          have hb1 := int_at hby1 k
          have hb2 := int_at hby2 k
          have hlt' : (k : Int) < (n1 : Int) := by omega
          by_cases hxe : l1[k]?.getD 0 = l2[k]?.getD 0
          · have hneq : (l1[k]?.getD 0 != l2[k]?.getD 0) = false := by simp [hxe]
            have hnext : Hid (l1.take (k + 1) = l2.take (k + 1)) := take_next heq.out (by rw [Hl1.out]; exact hlt) (by rw [Hl2.out]; exact hlt) hxe
            have HX : Hid _ := hxe
            clear hd1 hd2 hxe
            go_wp2
            go_quiet (fail)
            go_wp2
            go_roundw
            case rel => exact ⟨k + 1, by omega, by go_num, hnext, _, rfl⟩
            case measure => simp [intOf]; omega
          · have hneq : (l1[k]?.getD 0 != l2[k]?.getD 0) = true := by simpa using hxe
            have hd : Hid (decide (l1 = l2) = false) := by
              show decide (l1 = l2) = false
              rw [decide_eq_false_iff_not]
              rintro rfl
              exact hxe rfl
            clear hd1 hd2 hxe
            go_wp2
            go_quiet (fail)
            go_wp2
            go_ret
            exact ⟨ret_bool hd.out.symm, _, World.drewN_drewN ..⟩
        · have hd : Hid (decide (l1 = l2) = true) := by
            show decide (l1 = l2) = true
            have := heq.out
            rw [List.take_of_length_le (by rw [Hl1.out]; omega), List.take_of_length_le (by rw [Hl2.out]; omega)] at this
            simp [this]
          go_wp2
          go_ret
          exact ⟨ret_bool hd.out.symm, _, rfl⟩
  · have hd : Hid (decide (l1 = l2) = false) := by
      show decide (l1 = l2) = false
      rw [decide_eq_false_iff_not]
      rintro rfl
      exact hne (Hl1.out.symm.trans Hl2.out)
    have hneq : ((n1 : Int) != (n2 : Int)) = true := by simp; omega
    clear hne
    go_enter Try.func28, Try.ntmps28
    go_wp2
    go_ret
    exact ⟨ret_bool hd.out.symm, 0, rfl⟩

/-! Marks laid, and looked for -/
end Go.Proofs.Ytpkbeeicffoaoaa

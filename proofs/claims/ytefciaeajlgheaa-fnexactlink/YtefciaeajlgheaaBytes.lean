/- Contracts of the laws' own helpers over slices of bytes: a copy, a comparison, marks laid and looked for. -/
import Derived.Test.YtefciaeajlgheaaBase
namespace Go.Proofs.Ytefciaeajlgheaa
open Go.RowKit

/-- One round of a copy into a row of one's own. -/
theorem copy_round {w wr : World} {g n k : Nat} {l m : List Int} (hl : l.length = n) (hm : m.length = n) (hk : k < n) (hB : w.heap.size ≤ g)
    (hown : wr.ownsRow w.heap.size 5 1 (.slice (some ⟨g, 0, none⟩) n n) n ((l.take k ++ m.drop k).map (Value.int .u8))) (hb : Below w.heap.size w wr) :
    (wr.setCell ⟨g, k, none⟩ (.int .u8 (l[k]?.getD 0))).ownsRow w.heap.size 5 1 (.slice (some ⟨g, 0, none⟩) n n) n ((l.take (k + 1) ++ m.drop (k + 1)).map (Value.int .u8)) ∧ Below w.heap.size w (wr.setCell ⟨g, k, none⟩ (.int .u8 (l[k]?.getD 0))) := by
  refine ⟨?_, hb.setCell hB _⟩
  have := (hown.stored k (.int .u8 (l[k]?.getD 0))).1
  rwa [mapset _ _ _ _ (by omega) (by omega)] at this

theorem take_next {l1 l2 : List Int} {k : Nat} (h : l1.take k = l2.take k) (h1 : k < l1.length) (h2 : k < l2.length) (hx : l1[k]?.getD 0 = l2[k]?.getD 0) : l1.take (k + 1) = l2.take (k + 1) := by
  rw [List.take_succ_eq_append_getElem h1, List.take_succ_eq_append_getElem h2, h]
  rw [List.getElem?_eq_getElem h1, List.getElem?_eq_getElem h2] at hx
  simp only [Option.getD_some] at hx
  rw [hx]

/-! A copy -/
set_option maxHeartbeats 1000000 in
theorem toB (a : Option Addr) (n c : Nat) (l : List Int) (w : World) (h : BRow w a n l) (hn : n ≤ 1048576) :
    Calls Try.prog 45 #[.slice a n c] w fun e w' => ∃ v, e = .returned v ∧ v = .slice (some ⟨w.heap.size, 0, none⟩) n n ∧ Own w' w.heap.size v n l ∧ Below w.heap.size w w' := by
  obtain ⟨i0, hi, hz0, hz1, hz2⟩ := info_parts info5
  obtain ⟨hl, hby, hcells⟩ := h
  have Hl : Hid (l.length = n) := hl
  clear hl
  have hv : ∀ wr : World, Hid (wr.ownsRow w.heap.size 5 1 (.slice (some ⟨w.heap.size, 0, none⟩) n n) n ((l.take n ++ (List.replicate n 0).drop n).map (Value.int .u8))) → Own wr w.heap.size (.slice (some ⟨w.heap.size, 0, none⟩) n n) n l := by
    intro wr hw
    have := hw.out
    rw [List.take_of_length_le (by rw [Hl.out]; exact Nat.le_refl _), List.drop_of_length_le (by simp), List.append_nil] at this
    exact ⟨this, hby⟩
  have HV := hv
  clear hv hby
  rcases Nat.eq_zero_or_pos n with h0 | hpos
  · subst h0
    clear hcells
    go_enter Try.func45, Try.ntmps45
    go_wp2_with (at_make; refine wpList_make_full _ rfl _ _ 38 rfl w.heap.size 5 i0 (.int .u8 0) 1 Try.underlying38 hi hz0 hz1 _ _ _ _ 0 rfl rfl rfl rfl (by rw [hz2]; omega) (by unfold maxLen; omega) (Nat.le_refl _) ?_)
    intro w1 hown hgrow
    have hb : Below w.heap.size w w1 := (Below.refl _ _).grown hgrow (Nat.le_refl _) (by intro k hk; cases hk)
    have hown' : Hid (w1.ownsRow w.heap.size 5 1 (.slice (some ⟨w.heap.size, 0, none⟩) 0 0) 0 ((l.take 0 ++ (List.replicate 0 0).drop 0).map (Value.int .u8))) := by
      show World.ownsRow _ _ _ _ _ _ _
      have e : (madeCells #[Value.int IntKind.u8 0] 0).toList = List.replicate 0 (Value.int IntKind.u8 0) := toList_madeCells_one _ _
      rw [e] at hown
      simpa using hown
    clear hown hgrow
    go_wp2
    refine wp_loop_rounds 1 ?_
    rw [rounds_succ]
    go_wp2
    go_ret
    exact ⟨_, rfl, rfl, HV _ hown', hb⟩
  · obtain ⟨b, off, rfl, hc⟩ := hcells hpos
    have hbl : b < w.heap.size := World.block_lt_of_cell? w _ (hc 0 hpos)
    go_enter Try.func45, Try.ntmps45
    go_wp2_with (at_make; refine wpList_make_full _ rfl _ _ 38 rfl w.heap.size 5 i0 (.int .u8 0) 1 Try.underlying38 hi hz0 hz1 _ _ _ _ n rfl rfl rfl rfl (by rw [hz2]; omega) (by unfold maxLen; omega) (Nat.le_refl _) ?_)
    intro w1 hown hgrow
    have hb : Below w.heap.size w w1 := (Below.refl _ _).grown hgrow (Nat.le_refl _) (by intro k hk; cases hk)
    have hown' : w1.ownsRow w.heap.size 5 1 (.slice (some ⟨w.heap.size, 0, none⟩) n n) n ((l.take 0 ++ (List.replicate n 0).drop 0).map (Value.int .u8)) := by
      have e : (madeCells #[Value.int IntKind.u8 0] n).toList = List.replicate n (Value.int IntKind.u8 0) := toList_madeCells_one _ _
      rw [e] at hown
      simpa using hown
    have HO := hown'
    clear hown hgrow hown'
    go_wp2
    go_loopw [4] (fun i wr => ∃ k : Nat, k ≤ n ∧ i = .int .i64 k ∧ Hid (wr.ownsRow w.heap.size 5 1 (.slice (some ⟨w.heap.size, 0, none⟩) n n) n ((l.take k ++ (List.replicate n 0).drop k).map (Value.int .u8))) ∧ Below w.heap.size w wr) (fun i _ => n - (intOf i).toNat)
    case atStart => exact ⟨0, Nat.zero_le _, rfl, HO, hb⟩
    case round =>
      obtain ⟨k, hk, rfl, hown, hbr⟩ := hrel
      clear HO hb
      by_cases hlt : k < n
      · have hcx : wr.cell? ⟨b, off + k, none⟩ = some (.int .u8 (l[k]?.getD 0)) := (hbr.cell (by exact hbl)).trans (hc k hlt)
        have hcy : ∃ u, wr.cell? ⟨w.heap.size, k, none⟩ = some u := by
          rw [hown.out.cellAt k (by omega)]
          exact ⟨_, List.getElem?_eq_getElem (by have := hown.out.1; omega)⟩
        obtain ⟨u, hcy⟩ := hcy
        have hfy : wr.frozen? ⟨w.heap.size, k, none⟩ = false := hown.out.frozenAt k
        have R := copy_round Hl.out (List.length_replicate) hlt (Nat.le_refl _) hown.out hbr
        have R1 : Hid _ := R.1
        have R2 := R.2
        clear R hown
        go_wp2
        go_roundw
        case rel => exact ⟨k + 1, by omega, by go_num, R1, R2⟩
        case measure => simp [intOf]; omega
      · go_wp2
        go_ret
        have : k = n := by omega
        subst this
        exact ⟨_, rfl, rfl, HV _ hown, hbr⟩

theorem copyB (a : Option Addr) (n c : Nat) (l : List Int) (w : World) (h : BRow w a n l) (hn : n ≤ 1048576) :
    Calls Try.prog 45 #[.slice a n c] w fun e w' => e = .returned (.slice (some ⟨w.heap.size, 0, none⟩) n n) ∧ Own w' w.heap.size (.slice (some ⟨w.heap.size, 0, none⟩) n n) n l ∧ BRow w' (some ⟨w.heap.size, 0, none⟩) n l ∧ Below w.heap.size w w' ∧ w.heap.size < w'.heap.size := by
  refine (toB a n c l w h hn).mono ?_
  rintro e w' ⟨v, rfl, rfl, ho, hb⟩
  obtain ⟨a1, c1, e1, _, _, hr, hlt⟩ := ho.shape
  simp only [Value.slice.injEq, true_and] at e1
  obtain ⟨rfl, rfl⟩ := e1
  exact ⟨rfl, ho, hr, hb, (hlt w.heap.size rfl).2⟩

/-! A comparison -/
set_option maxHeartbeats 1000000 in
theorem eqB (a1 : Option Addr) (n1 c1 : Nat) (l1 : List Int) (a2 : Option Addr) (n2 c2 : Nat) (l2 : List Int) (w : World) (h1 : BRow w a1 n1 l1) (h2 : BRow w a2 n2 l2) (hn : n1 ≤ 1073741824) :
    Calls Try.prog 65 #[.slice a1 n1 c1, .slice a2 n2 c2] w fun e w' => e = .returned (.bool (decide (l1 = l2))) ∧ ∃ k, w' = w.drewN k := by
  obtain ⟨hl1, hby1, hc1⟩ := h1
  obtain ⟨hl2, hby2, hc2⟩ := h2
  have Hl1 : Hid (l1.length = n1) := hl1
  have Hl2 : Hid (l2.length = n2) := hl2
  clear hl1 hl2
  by_cases hne : n1 = n2
  · subst hne
    rcases Nat.eq_zero_or_pos n1 with h0 | hpos
    · subst h0
      have hd : decide (l1 = l2) = true := by
        have e1 : l1 = [] := List.eq_nil_of_length_eq_zero Hl1.out
        have e2 : l2 = [] := List.eq_nil_of_length_eq_zero Hl2.out
        simp [e1, e2]
      have HD : Hid _ := hd
      clear hd hc1 hc2 hby1 hby2
      go_enter Try.func65, Try.ntmps65
      go_wp2
      refine wp_loop_rounds 1 ?_
      rw [rounds_succ]
      go_wp2
      go_ret
      exact ⟨ret_bool HD.out.symm, 0, rfl⟩
    · obtain ⟨b1, o1, rfl, hd1⟩ := hc1 hpos
      obtain ⟨b2, o2, rfl, hd2⟩ := hc2 hpos
      clear hc1 hc2
      go_enter Try.func65, Try.ntmps65
      go_wp2
      go_loopw [5] (fun i wr => ∃ k : Nat, k ≤ n1 ∧ i = .int .i64 k ∧ Hid (l1.take k = l2.take k) ∧ ∃ d, wr = w.drewN d) (fun i _ => n1 - (intOf i).toNat)
      case atStart => exact ⟨0, Nat.zero_le _, rfl, by simp [Hid], 0, rfl⟩
      case round =>
        obtain ⟨k, hk, rfl, heq, d, rfl⟩ := hrel
        by_cases hlt : k < n1
        · have hx1 := hd1 k hlt
          have hx2 := hd2 k hlt
          have hb1 := byte_at hby1 k
          have hb2 := byte_at hby2 k
          have hlt' : (k : Int) < (n1 : Int) := by omega
          by_cases hxe : l1[k]?.getD 0 = l2[k]?.getD 0
          · have hneq : (l1[k]?.getD 0 != l2[k]?.getD 0) = false := by simp [hxe]
            have hnext : Hid (l1.take (k + 1) = l2.take (k + 1)) := take_next heq.out (by rw [Hl1.out]; exact hlt) (by rw [Hl2.out]; exact hlt) hxe
            have HX : Hid _ := hxe
            clear hd1 hd2 hxe
            go_wp2
            go_quiet (fail)
            go_wp2
            go_roundw
            case rel => exact ⟨k + 1, by omega, by go_num, hnext, _, rfl⟩
            case measure => simp [intOf]; omega
          · have hneq : (l1[k]?.getD 0 != l2[k]?.getD 0) = true := by simpa using hxe
            have hd : Hid (decide (l1 = l2) = false) := by
              show decide (l1 = l2) = false
              rw [decide_eq_false_iff_not]
              rintro rfl
              exact hxe rfl
            clear hd1 hd2 hxe
            go_wp2
            go_quiet (fail)
            go_wp2
            go_ret
            exact ⟨ret_bool hd.out.symm, _, World.drewN_drewN ..⟩
        · have hd : Hid (decide (l1 = l2) = true) := by
            show decide (l1 = l2) = true
            have := heq.out
            rw [List.take_of_length_le (by rw [Hl1.out]; omega), List.take_of_length_le (by rw [Hl2.out]; omega)] at this
            simp [this]
          go_wp2
          go_ret
          exact ⟨ret_bool hd.out.symm, _, rfl⟩
  · have hd : Hid (decide (l1 = l2) = false) := by
      show decide (l1 = l2) = false
      rw [decide_eq_false_iff_not]
      rintro rfl
      exact hne (Hl1.out.symm.trans Hl2.out)
    have hneq : ((n1 : Int) != (n2 : Int)) = true := by simp; omega
    clear hne
    go_enter Try.func65, Try.ntmps65
    go_wp2
    go_ret
    exact ⟨ret_bool hd.out.symm, 0, rfl⟩

/-! Marks laid, and looked for -/
/-- The marks that are laid from k on into n places. -/
def marks (k n : Nat) : List Int := (List.range n).map fun i => (((k + i) % 256 : Nat) : Int)

theorem marks_length (k n : Nat) : (marks k n).length = n := by simp [marks]
theorem marks_byte (k n : Nat) : ∀ x ∈ marks k n, 0 ≤ x ∧ x ≤ 255 := by
  intro x hx
  obtain ⟨i, _, rfl⟩ := List.mem_map.1 hx
  omega
theorem marks_at (k n i : Nat) (h : i < n) : (marks k n)[i]?.getD 0 = (((k + i) % 256 : Nat) : Int) := by simp [marks, h]

theorem mark_round {w wr : World} {base g n cap k i : Nat} {m : List Int} (hm : m.length = n) (hi : i < n) (x : Int) (hx : x = (marks k n)[i]?.getD 0)
    (hown : wr.ownsRow base 5 1 (.slice (some ⟨g, 0, none⟩) n cap) n (((marks k n).take i ++ m.drop i).map (Value.int .u8))) (hg : w.grownBy wr (some g)) :
    (wr.setCell ⟨g, i, none⟩ (.int .u8 x)).ownsRow base 5 1 (.slice (some ⟨g, 0, none⟩) n cap) n (((marks k n).take (i + 1) ++ m.drop (i + 1)).map (Value.int .u8)) ∧ w.grownBy (wr.setCell ⟨g, i, none⟩ (.int .u8 x)) (some g) := by
  subst hx
  obtain ⟨h1, h2⟩ := hown.stored i (.int .u8 ((marks k n)[i]?.getD 0))
  rw [mapset _ _ _ _ (by omega) (by rw [marks_length]; omega)] at h1
  exact ⟨h1, h2.os.trans hg.os, h2.tape.trans hg.tape, h2.output.trans hg.output, Nat.le_trans hg.size h2.size, fun b hb hne => (h2.block b (Nat.lt_of_lt_of_le hb hg.size) hne).trans (hg.block b hb hne)⟩

set_option maxHeartbeats 1000000 in
theorem markB (base : Nat) (v : Value) (n : Nat) (l : List Int) (k : Nat) (w : World) (h : Own w base v n l) (hn : n ≤ 1073741824) (hk : k ≤ 1073741824) :
    Calls Try.prog 32 #[v, .int .i64 k] w fun e w' => e = .returned (.int .i64 ((k + n : Nat) : Int)) ∧ Own w' base v n (marks k n) ∧ w.grownBy w' v.ownBlock := by
  have hlen := h.1.1
  rcases h.1.2 with ⟨rfl, rfl⟩ | ⟨g, cap, cur, rfl, hg, hh, hnc, hcm, hs, ht⟩
  · have hfin : Own w base (.slice none 0 0) 0 (marks k 0) := ⟨World.ownsRow_nil _ _ _ _, marks_byte k 0⟩
    clear h hlen
    go_enter Try.func32, Try.ntmps32
    go_wp2
    refine wp_loop_rounds 1 ?_
    rw [rounds_succ]
    go_wp2
    go_ret
    exact ⟨ret_int (by omega), hfin, World.grownBy.refl _ _⟩
  · have hl : l.length = n := by simpa using hlen
    have Hl : Hid (l.length = n) := hl
    have HO : Hid (w.ownsRow base 5 1 (.slice (some ⟨g, 0, none⟩) n cap) n (((marks k n).take 0 ++ l.drop 0).map (Value.int .u8))) := by
      show World.ownsRow _ _ _ _ _ _ _
      simpa using h.1
    clear h hlen hh hs ht hl
    unfold maxLen at hcm
    go_enter Try.func32, Try.ntmps32
    go_wp2
    go_loopw [1, 5] (fun kk i wr => ∃ j : Nat, j ≤ n ∧ i = .int .i64 j ∧ kk = .int .i64 ((k + j : Nat) : Int) ∧ Hid (wr.ownsRow base 5 1 (.slice (some ⟨g, 0, none⟩) n cap) n (((marks k n).take j ++ l.drop j).map (Value.int .u8))) ∧ w.grownBy wr (some g)) (fun _ i _ => n - (intOf i).toNat)
    case atStart => exact ⟨0, Nat.zero_le _, rfl, rfl, HO, World.grownBy.refl _ _⟩
    case round =>
      obtain ⟨j, hj, rfl, rfl, hown, hgr⟩ := hrel
      clear HO
      by_cases hlt : j < n
      · have hcy : ∃ u, wr.cell? ⟨g, j, none⟩ = some u := by
          rw [hown.out.cellAt j (by omega)]
          exact ⟨_, List.getElem?_eq_getElem (by have := hown.out.1; omega)⟩
        obtain ⟨u, hcy⟩ := hcy
        have hfy : wr.frozen? ⟨g, j, none⟩ = false := hown.out.frozenAt j
        have R := fun x hx => mark_round (k := k) Hl.out hlt x hx hown.out hgr
        have RH := R (((k : Int) + (j : Int)) % 256) (by rw [marks_at k n j hlt]; omega)
        have R1 : Hid _ := RH.1
        have R2 := RH.2
        clear R RH hown
        go_wp2
        go_roundw
        case rel => exact ⟨j + 1, by omega, by go_num, by go_num, R1, R2⟩
        case measure => simp [intOf]; omega
      · go_wp2
        go_ret
        have : j = n := by omega
        subst this
        refine ⟨ret_int (by omega), ⟨?_, marks_byte k j⟩, hgr⟩
        have := hown.out
        rwa [List.take_of_length_le (by rw [marks_length]; exact Nat.le_refl _), List.drop_of_length_le (by rw [Hl.out]; exact Nat.le_refl _), List.append_nil] at this

set_option maxHeartbeats 1000000 in
theorem heldB (a : Option Addr) (n c : Nat) (k : Nat) (w : World) (h : BRow w a n (marks k n)) (hn : n ≤ 1073741824) (hk : k ≤ 1073741824) :
    Calls Try.prog 68 #[.slice a n c, .int .i64 k] w fun e w' => e = .returned (.int .i64 ((k + n : Nat) : Int)) ∧ w' = w := by
  obtain ⟨_, _, hc⟩ := h
  rcases Nat.eq_zero_or_pos n with h0 | hpos
  · subst h0
    clear hc
    go_enter Try.func68, Try.ntmps68
    go_wp2
    refine wp_loop_rounds 1 ?_
    rw [rounds_succ]
    go_wp2
    go_ret
    exact ⟨ret_int (by omega), rfl⟩
  · obtain ⟨b, off, rfl, hd⟩ := hc hpos
    clear hc
    go_enter Try.func68, Try.ntmps68
    go_wp2
    go_loop [1, 5] (fun kk i => ∃ j : Nat, j ≤ n ∧ i = .int .i64 j ∧ kk = .int .i64 ((k + j : Nat) : Int)) (fun _ i => n - (intOf i).toNat)
    case atStart => exact ⟨0, Nat.zero_le _, rfl, rfl⟩
    case round =>
      obtain ⟨j, hj, rfl, rfl⟩ := hrel
      by_cases hlt : j < n
      · have hx := hd j hlt
        rw [marks_at k n j hlt] at hx
        clear hd
        go_wp2
        go_round
        case rel => exact ⟨j + 1, by omega, by go_num, by go_num⟩
        case measure => simp [intOf]; omega
      · clear hd
        go_wp2
        go_ret
        exact ⟨ret_int (by omega), rfl⟩

theorem copyM (a : Option Addr) (n c : Nat) (l : List Int) (w : World) (h : BRow w a n l) (hn : n ≤ 1048576) :
    Calls Try.prog 45 #[.slice a n c] w fun e w' => ∃ a' c', e = .returned (.slice a' n c') ∧ Made w w' a' n c' l := by
  refine Calls.made ?_
  refine (copyB a n c l w h hn).mono ?_
  rintro e w' ⟨rfl, ho, _, hb, _⟩
  exact ⟨_, rfl, ho, hb⟩

theorem eqT (a1 : Option Addr) (n1 c1 : Nat) (l : List Int) (a2 : Option Addr) (n2 c2 : Nat) (w : World) (h1 : BRow w a1 n1 l) (h2 : BRow w a2 n2 l) (hn : n1 ≤ 1073741824) :
    Calls Try.prog 65 #[.slice a1 n1 c1, .slice a2 n2 c2] w fun e w' => e = .returned (.bool true) ∧ Below w.heap.size w w' := by
  refine (eqB a1 n1 c1 l a2 n2 c2 l w h1 h2 hn).mono ?_
  rintro e w' ⟨rfl, d, rfl⟩
  exact ⟨by rw [decide_eq_true rfl], below_drewN (Below.refl _ _) d⟩

theorem markM (base : Nat) (v : Value) (n : Nat) (l : List Int) (k : Int) (w : World) (h : Own w base v n l) (hn : n ≤ 1073741824) (h0 : 0 ≤ k) (hk : k ≤ 1073741824) :
    Calls Try.prog 32 #[v, .int .i64 k] w fun e w' => e = .returned (.int .i64 (k + n)) ∧ Own w' base v n (marks k.toNat n) ∧ w.grownBy w' v.ownBlock := by
  obtain ⟨j, rfl⟩ := Int.eq_ofNat_of_zero_le h0
  rw [Int.toNat_natCast]
  refine (markB base v n l j w h hn (by omega)).mono ?_
  rintro e w' ⟨rfl, h1, h2⟩
  exact ⟨ret_int (by omega), h1, h2⟩

theorem heldM (a : Option Addr) (n c : Nat) (k : Int) (w : World) (h : BRow w a n (marks k.toNat n)) (hn : n ≤ 1073741824) (h0 : 0 ≤ k) (hk : k ≤ 1073741824) :
    Calls Try.prog 68 #[.slice a n c, .int .i64 k] w fun e w' => e = .returned (.int .i64 (k + n)) ∧ w' = w := by
  obtain ⟨j, rfl⟩ := Int.eq_ofNat_of_zero_le h0
  rw [Int.toNat_natCast] at h
  refine (heldB a n c j w h hn (by omega)).mono ?_
  rintro e w' ⟨rfl, h1⟩
  exact ⟨ret_int (by omega), h1⟩
end Go.Proofs.Ytefciaeajlgheaa

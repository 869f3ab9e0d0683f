/- Encode, the model: whole bytes just where every instruction may be one, and there are no more than MaxWords. -/
import Derived.Test.YtjhnfmapjpfjcaaDoorEncBytes
namespace Go.Proofs.YtjhnfmapjpfjcaaDoor
open Go.RowKit
set_option linter.unusedVariables false
set_option linter.unusedSimpArgs false
set_option maxRecDepth 100000

def okI (x : In6) : Bool := insB x.o x.a x.b x.c x.n x.m
def encOk (l : List In6) (n : Nat) : Bool := decide (n ≤ 4000) && l.all okI
def encR (l : List In6) (n : Nat) : List Int := bif encOk l n then encL l else []

theorem bytes0 (a : Option Addr) (c : Nat) (w : World) :
    Calls Tryd.prog 27 #[.slice a 0 c] w fun e w' => e = .returned (.slice none 0 0) ∧ w' = w := by
  go_enter Tryd.func27, Tryd.ntmps27
  go_wp2_with fail
  refine wp_loop_rounds 1 ?_
  rw [rounds_succ]
  go_wp2_with fail
  go_ret
  exact ⟨rfl, rfl⟩

theorem bytesAll (a : Option Addr) (n c : Nat) (l : List In6) (w : World) (h : IRow w a n l) (hn : n ≤ 4000) :
    Calls Tryd.prog 27 #[.slice a n c] w fun e w' => ∃ v, e = .returned v ∧ Own w' w.heap.size v (12 * n) (encL l) ∧ Below w.heap.size w w' := by
  rcases Nat.eq_zero_or_pos n with h0 | hp
  · subst h0
    have : l = [] := List.length_eq_zero_iff.1 h.1
    subst this
    refine (bytes0 a c w).mono ?_
    rintro e w' ⟨rfl, rfl⟩
    exact ⟨_, rfl, own_nil _ _, Below.refl _ _⟩
  · obtain ⟨b, off, rfl, _⟩ := h.2 hp
    exact bytesM b off n c l w h hp hn

theorem all_take {l : List In6} {k : Nat} {x : In6} (h : (l.take k).all okI = true) (hx : l[k]? = some x) (ho : okI x = true) : (l.take (k + 1)).all okI = true := by
  obtain ⟨hk, rfl⟩ := List.getElem?_eq_some_iff.1 hx
  rw [List.take_succ_eq_append_getElem hk, List.all_append, h]
  simp [ho]

theorem ok_of_all {l : List In6} {k : Nat} {x : In6} (h : l.all okI = true) (hx : l[k]? = some x) : okI x = true :=
  List.all_eq_true.1 h x (List.mem_of_getElem? hx)

set_option maxHeartbeats 4000000 in
theorem specEncodeM (a : Option Addr) (n c : Nat) (l : List In6) (w : World) (h : IRow w a n l) (hn : n ≤ 1048576) :
    Calls Tryd.prog 10 #[.slice a n c] w fun e w' => ∃ v, e = .returned (.tuple #[v, .bool (encOk l n)]) ∧ Own w' w.heap.size v (encR l n).length (encR l n) ∧ Below w.heap.size w w' := by
  have HI : Hid (IRow w a n l) := h
  have Hl : Hid (l.length = n) := h.1
  clear h
  unfold encR
  by_cases h4 : n ≤ 4000
  · have HOK : Hid (∀ b, l.all okI = b → encOk l n = b) := by
      intro b hb
      simp [encOk, h4, hb]
    have hcut : ¬ (4000 : Int) < n := by omega
    cases hall : l.all okI
    · rw [HOK.out _ hall]
      simp only [cond_false, List.length_nil]
      have HF : Hid (l.all okI = false) := hall
      clear HOK hall
      rcases Nat.eq_zero_or_pos n with h0 | hp
      · exfalso
        have : l = [] := List.length_eq_zero_iff.1 (Hl.out.trans h0)
        have hf := HF.out
        rw [this] at hf
        simp at hf
      · obtain ⟨b, off, rfl, _⟩ := HI.out.2 hp
        go_enter Tryd.func10, Tryd.ntmps10
        go_wp2_with fail
        go_loopw [4] (fun i wr => ∃ k : Nat, k ≤ n ∧ i = .int .i64 k ∧ Hid ((l.take k).all okI = true) ∧ Hid (Below w.heap.size w wr)) (fun i _ => n - (intOf i).toNat)
        case atStart => exact ⟨0, Nat.zero_le _, rfl, by show _ = _; simp, Below.refl _ _⟩
        case round =>
          obtain ⟨k, hk, rfl, ha, hb⟩ := hrel
          by_cases hlt : k < n
          · obtain ⟨x, hx, p0, p1, p2, p3, p4, p5⟩ := IRow.el (IRow.below (show IRow w (some ⟨b, off, none⟩) n l from HI.out) hb.out) hlt
            have HX : Hid _ := hx
            have HS := specInsOkM x.o x.a x.b x.c x.n x.m
            have HE : Hid (okI x = insB x.o x.a x.b x.c x.n x.m) := rfl
            generalize insB x.o x.a x.b x.c x.n x.m = ok at *
            clear hx
            go_wp2_with fail
            refine (HS _).mono ?_
            rintro e w2 ⟨rfl, o, d, rfl⟩
            have hb2 : Below w.heap.size w ((wr.alloc o).drewN d) := below_drewN (hb.out.alloc hb.out.size _) _
            have HB2 : Hid _ := hb2
            clear hb2 hb p0 p1 p2 p3 p4 p5 HS
            generalize (wr.alloc o).drewN d = w2 at *
            cases ok
            · go_wp2_with fail
              go_ret2
              exact ⟨_, rfl, own_nil _ _, HB2.out⟩
            · go_wp2_with fail
              go_roundw
              case rel => exact ⟨k + 1, by omega, by go_num, all_take ha.out HX.out HE.out, HB2⟩
              case measure => simp [intOf]; omega
          · exfalso
            have : k = n := by omega
            subst this
            have hf := ha.out
            rw [List.take_of_length_le (by rw [Hl.out]; exact Nat.le_refl _), HF.out] at hf
            cases hf
    · rw [HOK.out _ hall]
      simp only [cond_true]
      have HT : Hid (l.all okI = true) := hall
      have HLen : Hid ((encL l).length = 12 * n) := by show _ = _; rw [encL_len, Hl.out]
      clear HOK hall
      go_enter Tryd.func10, Tryd.ntmps10
      go_wp2_with fail
      go_loopw [4] (fun i wr => ∃ k : Nat, k ≤ n ∧ i = .int .i64 k ∧ Hid (Below w.heap.size w wr)) (fun i _ => n - (intOf i).toNat)
      case atStart => exact ⟨0, Nat.zero_le _, rfl, Below.refl _ _⟩
      case round =>
        obtain ⟨k, hk, rfl, hb⟩ := hrel
        by_cases hlt : k < n
        · obtain ⟨b, off, rfl, _⟩ := HI.out.2 (Nat.lt_of_le_of_lt (Nat.zero_le _) hlt)
          obtain ⟨x, hx, p0, p1, p2, p3, p4, p5⟩ := IRow.el (IRow.below (show IRow w (some ⟨b, off, none⟩) n l from HI.out) hb.out) hlt
          have HS := specInsOkM x.o x.a x.b x.c x.n x.m
          rw [show insB x.o x.a x.b x.c x.n x.m = true from ok_of_all HT.out hx] at HS
          clear hx
          go_wp2_with fail
          refine (HS _).mono ?_
          rintro e w2 ⟨rfl, o, d, rfl⟩
          have hb2 : Below w.heap.size w ((wr.alloc o).drewN d) := below_drewN (hb.out.alloc hb.out.size _) _
          have HB2 : Hid _ := hb2
          clear hb2 hb p0 p1 p2 p3 p4 p5 HS
          generalize (wr.alloc o).drewN d = w2 at *
          go_wp2_with fail
          go_roundw
          case rel => exact ⟨k + 1, by omega, by go_num, HB2⟩
          case measure => simp [intOf]; omega
        · go_wp2_with fail
          refine (bytesAll a n c l wr (IRow.below HI.out hb.out) h4).mono ?_
          rintro e w3 ⟨v, rfl, ho, hb3⟩
          have hB3 := hb.out.trans (hb3.mono hb.out.size)
          have hO3 := ho.mono hb.out.size
          clear ho hb3
          go_wp2_with fail
          go_ret2
          exact ⟨_, rfl, by rw [HLen.out]; exact hO3, hB3⟩
  · have HOK : encOk l n = false := by simp [encOk, h4]
    rw [HOK]
    simp only [cond_false, List.length_nil]
    have hcut : (4000 : Int) < n := by omega
    go_enter Tryd.func10, Tryd.ntmps10
    go_wp2_with fail
    go_ret2
    exact ⟨_, rfl, own_nil _ _, Below.refl _ _⟩
end Go.Proofs.YtjhnfmapjpfjcaaDoor

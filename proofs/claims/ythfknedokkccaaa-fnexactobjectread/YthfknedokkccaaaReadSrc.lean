/- The five functions that close over one place: each tells what stands there and moves it. -/
import Derived.Test.YthfknedokkccaaaReadPure
import Derived.Test.YthfknedokkccaaaReadOwn
namespace Go.Proofs.Ythfknedokkccaaa
open Go.RowKit
set_option linter.unusedVariables false
set_option linter.unusedSimpArgs false
set_option maxRecDepth 100000

def pt (b : Nat) : Value := .pointer (some ⟨b, 0, none⟩)
def fNum (pb pa : Nat) : Value := .func (Fn.func 31) #[] #[.pointer (some ⟨pb, 0, none⟩), .pointer (some ⟨pa, 0, none⟩)]
def fText (pb pa : Nat) : Value := .func (Fn.func 33) #[] #[.pointer (some ⟨pb, 0, none⟩), .pointer (some ⟨pa, 0, none⟩)]
def fCount (ps pa : Nat) : Value := .func (Fn.func 35) #[] #[.pointer (some ⟨ps, 0, none⟩), .pointer (some ⟨pa, 0, none⟩)]
def fBytes (pa pb : Nat) : Value := .func (Fn.func 36) #[] #[.pointer (some ⟨pa, 0, none⟩), .pointer (some ⟨pb, 0, none⟩)]
def fEnded (pa pb : Nat) : Value := .func (Fn.func 38) #[] #[.pointer (some ⟨pa, 0, none⟩), .pointer (some ⟨pb, 0, none⟩)]

/-- A source: bytes, a place in them, and the functions over both. -/
structure Src (W w : World) (pb pa ps : Nat) (a : Option Addr) (n c : Nat) (l : List Int) (t : Int) : Prop where
  b : w.heap[pb]? = some (.cells #[.slice a n c] 22 (0, 0))
  p : w.heap[pa]? = some (.cells #[.int .i64 t] 3 (0, 0))
  s : ∃ y z u v, w.heap[ps]? = some (.cells #[fNum pb pa, y, z, u, v] 51 (0, 0))
  row : BRow W a n l
  bel : Below W.heap.size W w
  low : W.heap.size ≤ pa
  len : n ≤ 1048576
  cap : n ≤ c
  most : c ≤ maxLen
  nil : a = none → c = 0
  ok : At l t ∨ t = 2

theorem Src.rowW {W w : World} {pb pa ps : Nat} {a : Option Addr} {n c : Nat} {l : List Int} {t : Int} (h : Src W w pb pa ps a n c l t) : BRow w a n l := h.row.below h.bel
theorem Src.below {W w w' : World} {pb pa ps : Nat} {a : Option Addr} {n c : Nat} {l : List Int} {t : Int} (h : Src W w pb pa ps a n c l t) (hb : Below w.heap.size w w') : Src W w' pb pa ps a n c l t :=
  ⟨(hb.block pb (lt_of_block h.b)).trans h.b, (hb.block pa (lt_of_block h.p)).trans h.p, by obtain ⟨y, z, u, v, e⟩ := h.s; exact ⟨y, z, u, v, (hb.block ps (lt_of_block e)).trans e⟩, h.row, h.bel.trans (hb.mono h.bel.size), h.low, h.len, h.cap, h.most, h.nil, h.ok⟩
theorem Src.apart {W w : World} {pb pa ps : Nat} {a : Option Addr} {n c : Nat} {l : List Int} {t : Int} (h : Src W w pb pa ps a n c l t) : pb ≠ pa ∧ ps ≠ pa := by
  constructor
  · intro e; have h1 := h.b; rw [e, h.p] at h1; simp at h1
  · intro e; obtain ⟨y, z, u, v, h1⟩ := h.s; rw [e, h.p] at h1; simp at h1
theorem Src.put {W w : World} {pb pa ps : Nat} {a : Option Addr} {n c : Nat} {l : List Int} {t : Int} (h : Src W w pb pa ps a n c l t) (t' : Int) (ht : At l t') : Src W (w.setCell ⟨pa, 0, none⟩ (.int .i64 t')) pb pa ps a n c l t' :=
  ⟨(heap_setCell_other w ⟨pa, 0, none⟩ pb _ h.apart.1).trans h.b, one_setCell h.p, by obtain ⟨y, z, u, v, e⟩ := h.s; exact ⟨y, z, u, v, (heap_setCell_other w ⟨pa, 0, none⟩ ps _ h.apart.2).trans e⟩, h.row, h.bel.setCell h.low _, h.low, h.len, h.cap, h.most, h.nil, .inl ht⟩
theorem Src.upper {W w : World} {pb pa ps : Nat} {a : Option Addr} {n c : Nat} {l : List Int} {t : Int} (h : Src W w pb pa ps a n c l t) : -1 ≤ t ∧ t ≤ 1048578 := by
  have := h.len
  have := h.row.1
  rcases h.ok with (e | ⟨h1, h2⟩) | e <;> omega
theorem Below.keepO {w w' : World} (hb : Below w.heap.size w w') (os : List (Option Nat)) : KeepO os w w' := ⟨hb.os, hb.tape, hb.output, hb.size, fun g h1 _ => hb.block g h1⟩
theorem keep_set (w : World) (k i : Nat) (v : Value) : KeepO [some k] w (w.setCell ⟨k, i, none⟩ v) := KeepO.of (grown_set w k i v) (by simp)

set_option maxHeartbeats 2000000 in
theorem numM {W w : World} {pb pa ps : Nat} {a : Option Addr} {n c : Nat} {l : List Int} {t : Int} (h : Src W w pb pa ps a n c l t) :
    Calls Try.prog 31 #[.pointer (some ⟨pb, 0, none⟩), .pointer (some ⟨pa, 0, none⟩)] w fun e w' => e = .returned (.int .i64 (getL l t).1) ∧ Src W w' pb pa ps a n c l (getL l t).2 ∧ KeepO [some pa] w w' := by
  have k1 := cell_of_one h.b
  have k2 := cell_of_one h.p
  have hat := getL_at h.row.2.1 t
  have H1 := implGetM a n c l t w h.rowW (by have := h.len; omega) h.cap h.most
  have H : Hid (Src W w pb pa ps a n c l t) := h
  clear h
  generalize getL l t = g at *
  obtain ⟨x, y⟩ := g
  go_enter Try.func31, Try.ntmps31
  go_wp2_with fail
  refine H1.mono ?_
  rintro e w1 ⟨rfl, hb⟩
  have S1 : Hid (Src W w1 pb pa ps a n c l t) := H.out.below hb
  have k3 := free_of_one S1.out.p
  have k4 := cell_of_one S1.out.p
  clear k1 k2 H1
  go_wp2_with fail
  go_ret
  exact ⟨rfl, S1.out.put _ hat, (Below.keepO hb _).trans (keep_set _ _ _ _)⟩

set_option maxHeartbeats 2000000 in
theorem textM {W w : World} {pb pa ps : Nat} {a : Option Addr} {n c : Nat} {l : List Int} {t : Int} (h : Src W w pb pa ps a n c l t) :
    Calls Try.prog 33 #[.pointer (some ⟨pb, 0, none⟩), .pointer (some ⟨pa, 0, none⟩)] w fun e w' => ∃ a' n' c', e = .returned (.slice a' n' c') ∧ n' = (getT l t).1.length ∧ (Fd.b (getT l t).1).Has w' w.heap.size (.slice a' n' c') ∧ Src W w' pb pa ps a n c l (getT l t).2 ∧ KeepO [some pa] w w' := by
  have k1 := cell_of_one h.b
  have k2 := cell_of_one h.p
  have hat := getT_at h.row.2.1 t
  have hlt := lt_of_block h.p
  have H1 := implTextGetM a n c l t w h.rowW (by have := h.len; omega) h.cap h.most
  have H : Hid (Src W w pb pa ps a n c l t) := h
  clear h
  generalize getT l t = g at *
  obtain ⟨x, y⟩ := g
  go_enter Try.func33, Try.ntmps33
  go_wp2_with fail
  refine H1.mono ?_
  rintro e w1 ⟨a', n', c', rfl, hm⟩
  have S1 : Hid (Src W w1 pb pa ps a n c l t) := H.out.below hm.below
  have k3 := free_of_one S1.out.p
  have k4 := cell_of_one S1.out.p
  have HM : Hid (Made w w1 a' n' c' x) := hm
  clear k1 k2 H1 hm
  go_wp2_with fail
  go_ret
  have hm : Made w w1 a' n' c' x := HM.out
  have hn : n' = x.length := hm.row.1.symm
  subst hn
  refine ⟨_, _, _, rfl, rfl, ⟨_, _, rfl, hm.own.other ?_⟩, S1.out.put _ hat, (Below.keepO hm.below _).trans (keep_set _ _ _ _)⟩
  intro e
  have := (hm.block pa e).1
  omega

set_option maxHeartbeats 2000000 in
theorem countM {W w : World} {pb pa ps : Nat} {a : Option Addr} {n c : Nat} {l : List Int} {t : Int} (h : Src W w pb pa ps a n c l t) (m : Int) :
    Calls Try.prog 35 #[.int .i64 m, .pointer (some ⟨ps, 0, none⟩), .pointer (some ⟨pa, 0, none⟩)] w fun e w' => e = .returned (.int .i64 (cnt l m t).1) ∧ Src W w' pb pa ps a n c l (cnt l m t).2 ∧ KeepO [some pa] w w' := by
  obtain ⟨y, z, u, v, hs⟩ := h.s
  have k1 : w.cell? ⟨ps, 0, none⟩ = some (.func (Fn.func 31) #[] #[.pointer (some ⟨pb, 0, none⟩), .pointer (some ⟨pa, 0, none⟩)]) := by rw [cell_of_row w ps 0 _ _ (0, 0) hs]; rfl
  have hat := cnt_at h.row.2.1 m t
  have H1 := numM h
  have H : Hid (Src W w pb pa ps a n c l t) := h
  have HC : Hid (cnt l m t = if m < (getL l t).1 then (0, -1) else getL l t) := by show _ = _; rfl
  clear h hs
  generalize getL l t = g at *
  obtain ⟨xx, yy⟩ := g
  go_enter Try.func35, Try.ntmps35
  go_wp2_with fail
  refine H1.mono ?_
  rintro e w1 ⟨rfl, s1, K1⟩
  have k3 := free_of_one s1.p
  have k4 := cell_of_one s1.p
  have S1 : Hid (Src W w1 pb pa ps a n c l yy) := s1
  have KK : Hid (KeepO [some pa] w w1) := K1
  clear k1 H1 s1 K1
  by_cases hm : m < xx
  · have hc : Hid (cnt l m t = (0, -1)) := by show _ = _; have := HC.out; rwa [if_pos hm] at this
    go_wp2_with fail
    go_ret
    rw [hc.out] at hat ⊢
    exact ⟨rfl, S1.out.put _ hat, KK.out.trans (keep_set _ _ _ _)⟩
  · have hc : Hid (cnt l m t = (xx, yy)) := by show _ = _; have := HC.out; rwa [if_neg hm] at this
    go_wp2_with fail
    go_ret
    rw [hc.out] at hat ⊢
    exact ⟨rfl, S1.out, KK.out⟩

theorem ret_eqb (x y : Int) : Ending.returned (.bool (x == y)) = Ending.returned (.bool (decide (x = y))) := by
  by_cases h : x = y <;> simp [h]

set_option maxHeartbeats 2000000 in
theorem endedM {W w : World} {pb pa ps : Nat} {a : Option Addr} {n c : Nat} {l : List Int} {t : Int} (h : Src W w pb pa ps a n c l t) :
    Calls Try.prog 38 #[.pointer (some ⟨pa, 0, none⟩), .pointer (some ⟨pb, 0, none⟩)] w fun e w' => e = .returned (.bool (decide (t = (n : Int)))) ∧ w' = w := by
  have k1 := cell_of_one h.b
  have k2 := cell_of_one h.p
  clear h
  go_enter Try.func38, Try.ntmps38
  go_wp2_with fail
  go_ret
  exact ⟨ret_eqb _ _, rfl⟩

theorem byL_at {l : List Int} {sz t : Int} (ht : At l t) (h0 : 0 ≤ sz) : At l (byL l sz t).2 := by
  unfold byL; split
  · exact .inl rfl
  · rename_i h
    right
    have h1 : ¬ t < 0 := fun e => h (.inl e)
    have h2 : ¬ (l.length : Int) - t < sz := fun e => h (.inr e)
    rcases ht with e | ⟨h3, h4⟩
    · omega
    · show 0 < t + sz ∧ t + sz ≤ l.length
      omega

set_option maxHeartbeats 4000000 in
theorem bytesM {W w : World} {pb pa ps : Nat} {a : Option Addr} {n c : Nat} {l : List Int} {t : Int} (h : Src W w pb pa ps a n c l t) (ht : At l t) (sz : Nat) (hsz : sz ≤ 9000) :
    Calls Try.prog 36 #[.int .i64 sz, .pointer (some ⟨pa, 0, none⟩), .pointer (some ⟨pb, 0, none⟩)] w fun e w' => ∃ a' n' c', e = .returned (.slice a' n' c') ∧ n' = (byL l sz t).1.length ∧ (Fd.b (byL l sz t).1).Has w' w.heap.size (.slice a' n' c') ∧ Src W w' pb pa ps a n c l (byL l sz t).2 ∧ KeepO [some pa] w w' := by
  have k1 := cell_of_one h.b
  have k2 := cell_of_one h.p
  have k3 := free_of_one h.p
  have hat := byL_at (sz := (sz : Int)) ht (by omega)
  have hlt := lt_of_block h.p
  have hL := h.row.1
  have HB : Hid (byL l sz t = if t < 0 ∨ (l.length : Int) - t < (sz : Int) then ([], -1) else ((l.drop t.toNat).take sz, t + (sz : Int))) := by
    show _ = _; unfold byL; rw [Int.toNat_natCast]
  have hup := h.upper
  have hlen := h.len
  have hcap := h.cap
  have hmost := h.most
  unfold maxLen at hmost
  have H : Hid (Src W w pb pa ps a n c l t) := h
  clear h
  by_cases hneg : t < 0
  · have hc : byL l sz t = ([], -1) := by have := HB.out; rwa [if_pos (.inl hneg)] at this
    rw [hc] at hat ⊢
    clear hc HB ht
    go_enter Try.func36, Try.ntmps36
    go_wp2_with fail
    go_ret
    exact ⟨_, _, _, rfl, rfl, ⟨_, _, rfl, ⟨World.ownsRow_nil _ _ _ _, by simp⟩⟩, H.out.put _ hat, keep_set _ _ _ _⟩
  · by_cases hfar : (n : Int) - t < (sz : Int)
    · have hc : byL l sz t = ([], -1) := by have := HB.out; rwa [if_pos (.inr (by rw [hL]; exact hfar))] at this
      rw [hc] at hat ⊢
      clear hc HB ht
      go_enter Try.func36, Try.ntmps36
      go_wp2_with fail
      go_ret
      exact ⟨_, _, _, rfl, rfl, ⟨_, _, rfl, ⟨World.ownsRow_nil _ _ _ _, by simp⟩⟩, H.out.put _ hat, keep_set _ _ _ _⟩
    · obtain ⟨tn, rfl⟩ := Int.eq_ofNat_of_zero_le (show 0 ≤ t by omega)
      have hc : byL l sz tn = ((l.drop tn).take sz, (tn : Int) + sz) := by
        have := HB.out
        rwa [if_neg (by rw [hL]; intro e; rcases e with e | e <;> omega), Int.toNat_natCast] at this
      rw [hc] at hat ⊢
      have S1 : Hid (Src W (w.setCell ⟨pa, 0, none⟩ (.int .i64 ((tn : Int) + (sz : Int)))) pb pa ps a n c l ((tn : Int) + sz)) := H.out.put _ hat
      have hn0 : 0 < n := by
        rcases ht with e | ⟨h3, h4⟩
        · omega
        · omega
      obtain ⟨b, off, rfl, _⟩ := H.out.row.2.2 hn0
      have hlen2 : Hid (((l.drop tn).take sz).length = sz) := by show _ = _; simp [hL]; omega
      clear hc HB ht
      by_cases hcy : c = tn
      · have hx00 : sz = 0 := by omega
        subst hx00
        subst hcy
        have S2 : Hid (Src W (w.setCell ⟨pa, 0, none⟩ (.int .i64 (c : Int))) pb pa ps (some ⟨b, off, none⟩) n c l (c : Int)) := by
          have := S1.out
          simp only [Int.natCast_zero, Int.add_zero] at this
          exact this
        have k5 := cell_of_one S2.out.b
        have k6 := cell_of_one S2.out.p
        have H1 := fun a2 c2 => joinedV none 0 0 [] a2 0 c2 [] (w.setCell ⟨pa, 0, none⟩ (.int .i64 (c : Int))) (nil_row _) (BRow.empty _) (by omega) (by omega)
        go_enter Try.func36, Try.ntmps36
        go_wp2_with fail
        refine (H1 _ _).mono ?_
        rintro e w2 ⟨v2, rfl, ho2, hb2⟩
        have ho3 : Own w2 w.heap.size v2 0 [] := by simpa using ho2
        obtain ⟨a', c', hv, _⟩ := ho2.made hb2
        subst hv
        have hsz2 := hb2.size
        clear H1 ho2 k1 k2 k3 k5 k6
        go_wp2_with fail
        go_ret
        have e0 : (l.drop c).take 0 = [] := rfl
        rw [e0]
        refine ⟨_, _, _, rfl, rfl, ⟨a', c', rfl, ho3⟩, ?_, (keep_set _ _ _ _).trans (Below.keepO hb2 _)⟩
        · have := S2.out.below hb2
          simpa using this
      · have k5 := cell_of_one S1.out.b
        have k6 := cell_of_one S1.out.p
        have hrE := S1.out.rowW.part (lo := tn) (m := sz) (by omega)
        have H1 := fun c2 => joinedV none 0 0 [] (some ⟨b, off + tn, none⟩) sz c2 ((l.drop tn).take sz) (w.setCell ⟨pa, 0, none⟩ (.int .i64 ((tn : Int) + (sz : Int)))) (nil_row _) hrE (by omega) (by omega)
        clear hrE
        go_enter Try.func36, Try.ntmps36
        go_wp2_with fail
        refine (H1 _).mono ?_
        rintro e w2 ⟨v2, rfl, ho2, hb2⟩
        have ho3 : Own w2 w.heap.size v2 sz ((l.drop tn).take sz) := by simpa using ho2
        obtain ⟨a', c', hv, _⟩ := ho2.made hb2
        subst hv
        have hsz2 := hb2.size
        clear H1 ho2 k1 k2 k3 k5 k6
        go_wp2_with fail
        go_ret
        rw [Nat.zero_add] at ho3
        refine ⟨_, _, _, rfl, hlen2.out.symm, ⟨a', c', ?_, ?_⟩, S1.out.below hb2, (keep_set _ _ _ _).trans (Below.keepO hb2 _)⟩
        · rw [hlen2.out]
        · rw [hlen2.out]; exact ho3
end Go.Proofs.Ythfknedokkccaaa

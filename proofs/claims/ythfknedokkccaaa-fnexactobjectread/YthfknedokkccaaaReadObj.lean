/- An object as it stands at the place: by the functions that close over it. -/
import Derived.Test.YthfknedokkccaaaReadList
import Derived.Test.YthfknedokkccaaaReadZero
import Derived.Deep.Cut
namespace Go.Proofs.Ythfknedokkccaaa
open Go.RowKit
set_option linter.unusedVariables false
set_option linter.unusedSimpArgs false
set_option maxRecDepth 100000

/-- What the call has laid: the functions, the answer, the object that is read. -/
structure OB (w cur : World) (pa gs : Nat) (src o : O5) : Prop where
  f : B5s cur gs 51 src
  r : B5 cur (gs + 1) 26 ⟨.slice none 0 0, .slice none 0 0, .slice none 0 0, .int .i64 0, .slice none 0 0⟩
  g : B5 cur (gs + 2) 26 o
  k : KeepO [some pa] w cur
  lt : pa < gs
  w : w.heap.size = gs
theorem OB.keep {w cur cur' : World} {pa gs : Nat} {src o : O5} (h : OB w cur pa gs src o) (kk : KeepO [some pa] cur cur') : OB w cur' pa gs src o :=
  ⟨h.f.keep kk (by have := h.lt; simp; omega), B5.keep h.r kk (by have := h.lt; simp; omega), B5.keep h.g kk (by have := h.lt; simp; omega), h.k.trans kk, h.lt, h.w⟩
theorem OB.drew {w cur : World} {pa gs : Nat} {src o : O5} (h : OB w cur pa gs src o) : OB w cur.drew pa gs src o := h.keep (Below.keepO (Below.refl _ _).drew _)
theorem OB.set {w cur : World} {pa gs i : Nat} {src o o' : O5} {v : Value} (h : OB w cur pa gs src o) (hg : B5 (cur.setCell ⟨gs + 2, i, none⟩ v) (gs + 2) 26 o') : OB w (cur.setCell ⟨gs + 2, i, none⟩ v) pa gs src o' :=
  ⟨B5.other h.f (by omega), h.r.other (by omega), hg, h.k.put (by have := h.w; omega) _ _, h.lt, h.w⟩
theorem Same.drew {lo : Nat} {w : World} : Same lo w w.drew := Same.of (Below.refl _ _).drew
theorem B5s.five {w : World} {g : Nat} {t : TypeId} {a b c d e : Value} (h : B5s w g t ⟨a, b, c, d, e⟩) :
    w.cell? ⟨g, 0, none⟩ = some a ∧ w.cell? ⟨g, 1, none⟩ = some b ∧ w.cell? ⟨g, 2, none⟩ = some c ∧ w.cell? ⟨g, 3, none⟩ = some d ∧ w.cell? ⟨g, 4, none⟩ = some e := B5.facts h

set_option maxHeartbeats 8000000 in
theorem objectM {W w : World} {pb pa ps : Nat} {a : Option Addr} {n c : Nat} {l : List Int} (h : Src W w pb pa ps a n c l 2) (y4 : Value) :
    Calls Try.prog 17 #[.agg #[.func (Fn.func 31) #[] #[.pointer (some ⟨pb, 0, none⟩), .pointer (some ⟨pa, 0, none⟩)], .func (Fn.func 33) #[] #[.pointer (some ⟨pb, 0, none⟩), .pointer (some ⟨pa, 0, none⟩)], .func (Fn.func 35) #[] #[.pointer (some ⟨ps, 0, none⟩), .pointer (some ⟨pa, 0, none⟩)], .func (Fn.func 36) #[] #[.pointer (some ⟨pa, 0, none⟩), .pointer (some ⟨pb, 0, none⟩)], y4]] w fun e w' => ∃ o : O5, e = .returned (.agg #[o.x, o.e, o.i, o.d, o.c]) ∧ (∃ lE lI, OOwn w' w.heap.size o (obL l) lE lI) ∧ Src W w' pb pa ps a n c l (r8 l).2 ∧ KeepO [some pa] w w' := by
  have hby := h.row.2.1
  have HBY : Hid (∀ x ∈ l, 0 ≤ x ∧ x ≤ 255) := hby
  clear hby
  have hpa := lt_of_block h.p
  have hbig0 : Hid (pb < w.heap.size ∧ pa < w.heap.size ∧ ps < w.heap.size ∧ W.heap.size ≤ w.heap.size) := ⟨lt_of_block h.b, lt_of_block h.p, (by obtain ⟨_, _, _, _, e⟩ := h.s; exact lt_of_block e), h.bel.size⟩
  have O0 : Hid (OB w (((w.alloc (.cells #[.func (Fn.func 31) #[] #[.pointer (some ⟨pb, 0, none⟩), .pointer (some ⟨pa, 0, none⟩)], .func (Fn.func 33) #[] #[.pointer (some ⟨pb, 0, none⟩), .pointer (some ⟨pa, 0, none⟩)], .func (Fn.func 35) #[] #[.pointer (some ⟨ps, 0, none⟩), .pointer (some ⟨pa, 0, none⟩)], .func (Fn.func 36) #[] #[.pointer (some ⟨pa, 0, none⟩), .pointer (some ⟨pb, 0, none⟩)], y4] 51 (0, 0))).alloc (.cells #[.slice none 0 0, .slice none 0 0, .slice none 0 0, .int .i64 0, .slice none 0 0] 26 (0, 0))).alloc (.cells #[.slice none 0 0, .slice none 0 0, .slice none 0 0, .int .i64 0, .slice none 0 0] 26 (0, 0))) pa w.heap.size ⟨.func (Fn.func 31) #[] #[.pointer (some ⟨pb, 0, none⟩), .pointer (some ⟨pa, 0, none⟩)], .func (Fn.func 33) #[] #[.pointer (some ⟨pb, 0, none⟩), .pointer (some ⟨pa, 0, none⟩)], .func (Fn.func 35) #[] #[.pointer (some ⟨ps, 0, none⟩), .pointer (some ⟨pa, 0, none⟩)], .func (Fn.func 36) #[] #[.pointer (some ⟨pa, 0, none⟩), .pointer (some ⟨pb, 0, none⟩)], y4⟩ ⟨.slice none 0 0, .slice none 0 0, .slice none 0 0, .int .i64 0, .slice none 0 0⟩) := by
    have f0 := B5s.new w 51 ⟨.func (Fn.func 31) #[] #[.pointer (some ⟨pb, 0, none⟩), .pointer (some ⟨pa, 0, none⟩)], .func (Fn.func 33) #[] #[.pointer (some ⟨pb, 0, none⟩), .pointer (some ⟨pa, 0, none⟩)], .func (Fn.func 35) #[] #[.pointer (some ⟨ps, 0, none⟩), .pointer (some ⟨pa, 0, none⟩)], .func (Fn.func 36) #[] #[.pointer (some ⟨pa, 0, none⟩), .pointer (some ⟨pb, 0, none⟩)], y4⟩
    have r0 := B5.new (w.alloc (.cells #[.func (Fn.func 31) #[] #[.pointer (some ⟨pb, 0, none⟩), .pointer (some ⟨pa, 0, none⟩)], .func (Fn.func 33) #[] #[.pointer (some ⟨pb, 0, none⟩), .pointer (some ⟨pa, 0, none⟩)], .func (Fn.func 35) #[] #[.pointer (some ⟨ps, 0, none⟩), .pointer (some ⟨pa, 0, none⟩)], .func (Fn.func 36) #[] #[.pointer (some ⟨pa, 0, none⟩), .pointer (some ⟨pb, 0, none⟩)], y4] 51 (0, 0))) 26 ⟨.slice none 0 0, .slice none 0 0, .slice none 0 0, .int .i64 0, .slice none 0 0⟩
    have g0 := B5.new ((w.alloc (.cells #[.func (Fn.func 31) #[] #[.pointer (some ⟨pb, 0, none⟩), .pointer (some ⟨pa, 0, none⟩)], .func (Fn.func 33) #[] #[.pointer (some ⟨pb, 0, none⟩), .pointer (some ⟨pa, 0, none⟩)], .func (Fn.func 35) #[] #[.pointer (some ⟨ps, 0, none⟩), .pointer (some ⟨pa, 0, none⟩)], .func (Fn.func 36) #[] #[.pointer (some ⟨pa, 0, none⟩), .pointer (some ⟨pb, 0, none⟩)], y4] 51 (0, 0))).alloc (.cells #[.slice none 0 0, .slice none 0 0, .slice none 0 0, .int .i64 0, .slice none 0 0] 26 (0, 0))) 26 ⟨.slice none 0 0, .slice none 0 0, .slice none 0 0, .int .i64 0, .slice none 0 0⟩
    have e1 : (w.alloc (.cells #[.func (Fn.func 31) #[] #[.pointer (some ⟨pb, 0, none⟩), .pointer (some ⟨pa, 0, none⟩)], .func (Fn.func 33) #[] #[.pointer (some ⟨pb, 0, none⟩), .pointer (some ⟨pa, 0, none⟩)], .func (Fn.func 35) #[] #[.pointer (some ⟨ps, 0, none⟩), .pointer (some ⟨pa, 0, none⟩)], .func (Fn.func 36) #[] #[.pointer (some ⟨pa, 0, none⟩), .pointer (some ⟨pb, 0, none⟩)], y4] 51 (0, 0))).heap.size = w.heap.size + 1 := by simp
    have e2 : ((w.alloc (.cells #[.func (Fn.func 31) #[] #[.pointer (some ⟨pb, 0, none⟩), .pointer (some ⟨pa, 0, none⟩)], .func (Fn.func 33) #[] #[.pointer (some ⟨pb, 0, none⟩), .pointer (some ⟨pa, 0, none⟩)], .func (Fn.func 35) #[] #[.pointer (some ⟨ps, 0, none⟩), .pointer (some ⟨pa, 0, none⟩)], .func (Fn.func 36) #[] #[.pointer (some ⟨pa, 0, none⟩), .pointer (some ⟨pb, 0, none⟩)], y4] 51 (0, 0))).alloc (.cells #[.slice none 0 0, .slice none 0 0, .slice none 0 0, .int .i64 0, .slice none 0 0] 26 (0, 0))).heap.size = w.heap.size + 2 := by simp
    rw [e1] at r0
    rw [e2] at g0
    exact ⟨f0.old.old, r0.old, g0, Below.keepO ((((Below.refl _ _).alloc (Nat.le_refl _) _).alloc (by simp) _).alloc (by simp; omega) _) _, hpa, rfl⟩
  have hsz0 : (((w.alloc (.cells #[.func (Fn.func 31) #[] #[.pointer (some ⟨pb, 0, none⟩), .pointer (some ⟨pa, 0, none⟩)], .func (Fn.func 33) #[] #[.pointer (some ⟨pb, 0, none⟩), .pointer (some ⟨pa, 0, none⟩)], .func (Fn.func 35) #[] #[.pointer (some ⟨ps, 0, none⟩), .pointer (some ⟨pa, 0, none⟩)], .func (Fn.func 36) #[] #[.pointer (some ⟨pa, 0, none⟩), .pointer (some ⟨pb, 0, none⟩)], y4] 51 (0, 0))).alloc (.cells #[.slice none 0 0, .slice none 0 0, .slice none 0 0, .int .i64 0, .slice none 0 0] 26 (0, 0))).alloc (.cells #[.slice none 0 0, .slice none 0 0, .slice none 0 0, .int .i64 0, .slice none 0 0] 26 (0, 0))).heap.size = w.heap.size + 3 := by simp
  have S0 : Hid (Src W (((w.alloc (.cells #[.func (Fn.func 31) #[] #[.pointer (some ⟨pb, 0, none⟩), .pointer (some ⟨pa, 0, none⟩)], .func (Fn.func 33) #[] #[.pointer (some ⟨pb, 0, none⟩), .pointer (some ⟨pa, 0, none⟩)], .func (Fn.func 35) #[] #[.pointer (some ⟨ps, 0, none⟩), .pointer (some ⟨pa, 0, none⟩)], .func (Fn.func 36) #[] #[.pointer (some ⟨pa, 0, none⟩), .pointer (some ⟨pb, 0, none⟩)], y4] 51 (0, 0))).alloc (.cells #[.slice none 0 0, .slice none 0 0, .slice none 0 0, .int .i64 0, .slice none 0 0] 26 (0, 0))).alloc (.cells #[.slice none 0 0, .slice none 0 0, .slice none 0 0, .int .i64 0, .slice none 0 0] 26 (0, 0))) pb pa ps a n c l 2) :=
    h.below ((((Below.refl _ _).alloc (Nat.le_refl _) _).alloc (by simp) _).alloc (by simp; omega) _)
  clear h hpa
  have hmf : ∀ (fn : Fn) (first cap : Array Value) (w : World), (Instr.makeFunc fn first cap).run Try.prog w = .ok (.func fn first cap) w := fun _ _ _ _ => rfl
  go_enter Try.func17, Try.ntmps17
  go_upto_region 2 with fail
  generalize (((w.alloc (.cells #[.func (Fn.func 31) #[] #[.pointer (some ⟨pb, 0, none⟩), .pointer (some ⟨pa, 0, none⟩)], .func (Fn.func 33) #[] #[.pointer (some ⟨pb, 0, none⟩), .pointer (some ⟨pa, 0, none⟩)], .func (Fn.func 35) #[] #[.pointer (some ⟨ps, 0, none⟩), .pointer (some ⟨pa, 0, none⟩)], .func (Fn.func 36) #[] #[.pointer (some ⟨pa, 0, none⟩), .pointer (some ⟨pb, 0, none⟩)], y4] 51 (0, 0))).alloc (.cells #[.slice none 0 0, .slice none 0 0, .slice none 0 0, .int .i64 0, .slice none 0 0] 26 (0, 0))).alloc (.cells #[.slice none 0 0, .slice none 0 0, .slice none 0 0, .int .i64 0, .slice none 0 0] 26 (0, 0))) = w0 at *
  have HZ0 : Hid (w0.heap.size = w.heap.size + 3) := hsz0
  clear hsz0
  generalize hgs : w.heap.size = gs at *
  have HGS : Hid (w.heap.size = gs) := hgs
  clear hgs
  have hbig : pb < gs + 2 ∧ pa < gs + 2 ∧ ps < gs + 2 ∧ W.heap.size ≤ gs + 2 := by have := hbig0.out; omega
  have hpl : pa < gs + 3 := by omega
  have hgl : gs + 2 < gs + 3 := by omega
  have k1 := (B5s.five O0.out.f).2.1
  go_wp2_with fail
  refine (textM S0.out).mono ?_
  rintro e w1 ⟨a1, n1, c1, rfl, en, hh, ss, kk⟩
  subst en
  have HN : Hid ((Fd.b (r1 l).1).Has w1 (gs + 3) (.slice a1 (r1 l).1.length c1)) := by have := HZ0.out; rw [this] at hh; exact hh
  have O1 : Hid (OB w w1 pa gs ⟨.func (Fn.func 31) #[] #[.pointer (some ⟨pb, 0, none⟩), .pointer (some ⟨pa, 0, none⟩)], .func (Fn.func 33) #[] #[.pointer (some ⟨pb, 0, none⟩), .pointer (some ⟨pa, 0, none⟩)], .func (Fn.func 35) #[] #[.pointer (some ⟨ps, 0, none⟩), .pointer (some ⟨pa, 0, none⟩)], .func (Fn.func 36) #[] #[.pointer (some ⟨pa, 0, none⟩), .pointer (some ⟨pb, 0, none⟩)], y4⟩ ⟨.slice none 0 0, .slice none 0 0, .slice none 0 0, .int .i64 0, .slice none 0 0⟩) := O0.out.keep kk
  have S1 : Hid (Src W w1 pb pa ps a n c l (r1 l).2) := ss
  have hZ1 : Hid (gs + 3 ≤ w1.heap.size) := by show gs + 3 ≤ w1.heap.size; have := kk.size; have := HZ0.out; omega
  clear hh kk ss S0 O0 k1 HZ0
  obtain ⟨_, _, _, _, _⟩ := O1.out.g.facts
  obtain ⟨f0, f1, f2, f3, f4⟩ := O1.out.g.frozen
  change Hid (Src W w1 pb pa ps a n c l (r1 l).2) at S1
  have e1 : getT l 2 = r1 l := rfl
  rw [e1]
  clear e1
  go_upto_region 3 with fail
  have O2 : Hid (OB w (w1.setCell ⟨gs + 2, 0, none⟩ (.slice a1 (r1 l).1.length c1)) pa gs ⟨.func (Fn.func 31) #[] #[.pointer (some ⟨pb, 0, none⟩), .pointer (some ⟨pa, 0, none⟩)], .func (Fn.func 33) #[] #[.pointer (some ⟨pb, 0, none⟩), .pointer (some ⟨pa, 0, none⟩)], .func (Fn.func 35) #[] #[.pointer (some ⟨ps, 0, none⟩), .pointer (some ⟨pa, 0, none⟩)], .func (Fn.func 36) #[] #[.pointer (some ⟨pa, 0, none⟩), .pointer (some ⟨pb, 0, none⟩)], y4⟩ ⟨.slice a1 (r1 l).1.length c1, .slice none 0 0, .slice none 0 0, .int .i64 0, .slice none 0 0⟩) := O1.out.set (O1.out.g.set0 _)
  have S2 : Hid (Src W (w1.setCell ⟨gs + 2, 0, none⟩ (.slice a1 (r1 l).1.length c1)) pb pa ps a n c l (r1 l).2) := S1.out.other hbig _ _
  have C2 : Hid (Same (gs + 3) w1 (w1.setCell ⟨gs + 2, 0, none⟩ (.slice a1 (r1 l).1.length c1))) := Same.put hgl
  clear O1 S1 f0 f1 f2 f3 f4
  generalize w1.setCell ⟨gs + 2, 0, none⟩ (.slice a1 (r1 l).1.length c1) = w2 at *
  have Od : Hid (OB w w2.drew pa gs ⟨.func (Fn.func 31) #[] #[.pointer (some ⟨pb, 0, none⟩), .pointer (some ⟨pa, 0, none⟩)], .func (Fn.func 33) #[] #[.pointer (some ⟨pb, 0, none⟩), .pointer (some ⟨pa, 0, none⟩)], .func (Fn.func 35) #[] #[.pointer (some ⟨ps, 0, none⟩), .pointer (some ⟨pa, 0, none⟩)], .func (Fn.func 36) #[] #[.pointer (some ⟨pa, 0, none⟩), .pointer (some ⟨pb, 0, none⟩)], y4⟩ ⟨.slice a1 (r1 l).1.length c1, .slice none 0 0, .slice none 0 0, .int .i64 0, .slice none 0 0⟩) := O2.out.drew
  have Sd : Hid (Src W w2.drew pb pa ps a n c l (r1 l).2) := S2.out.below (Below.refl _ _).drew
  have DC2 : Hid (Same (gs + 3) w1 w2.drew) := C2.out.trans Same.drew
  refine wp_region_held_drew (S := fun wx => wx.cell? ⟨gs, 0, none⟩ = some (.func (Fn.func 31) #[] #[.pointer (some ⟨pb, 0, none⟩), .pointer (some ⟨pa, 0, none⟩)]) ∧ wx.cell? ⟨gs, 1, none⟩ = some (.func (Fn.func 33) #[] #[.pointer (some ⟨pb, 0, none⟩), .pointer (some ⟨pa, 0, none⟩)]) ∧ wx.cell? ⟨gs, 2, none⟩ = some (.func (Fn.func 35) #[] #[.pointer (some ⟨ps, 0, none⟩), .pointer (some ⟨pa, 0, none⟩)]) ∧ wx.cell? ⟨gs, 3, none⟩ = some (.func (Fn.func 36) #[] #[.pointer (some ⟨pa, 0, none⟩), .pointer (some ⟨pb, 0, none⟩)]) ∧ wx.cell? ⟨gs, 4, none⟩ = some y4) (by kernel_rfl) (B5s.five Od.out.f) (fun hHeld => ?_)
  clear O2 S2 C2
  generalize w2.drew = wS at *
  refine wpAnyH_take (i := 0) (oi := ?o501) (v := ?v501) ?i501 (by kernel_rfl) (by kernel_rfl) (by kernel_rfl) ?q501 ?y501 (hHeld) ?r501
  case i501 => exact rfl
  case q501 => exact (fun _ _ _ h => h)
  case y501 =>
    refine Or.inl ⟨by rfl, ?_⟩
    intro w hSw
    (try dsimp only at hSw)
    go_simp
    first | done | rfl
  try simp only [Act.put, List.getElem_toArray, List.getElem_cons_zero, List.getElem_cons_succ, List.setIfInBounds_toArray, List.set_cons_zero, List.set_cons_succ]
  refine wpAnyH_take (i := 1) (oi := ?o502) (v := ?v502) ?i502 (by kernel_rfl) (by kernel_rfl) (by kernel_rfl) ?q502 ?y502 (hHeld) ?r502
  case i502 => exact rfl
  case q502 => exact (fun _ _ _ h => h)
  case y502 =>
    refine Or.inl ⟨by rfl, ?_⟩
    intro w hSw
    (try dsimp only at hSw)
    go_simp
    first | done | rfl
  try simp only [Act.put, List.getElem_toArray, List.getElem_cons_zero, List.getElem_cons_succ, List.setIfInBounds_toArray, List.set_cons_zero, List.set_cons_succ]
  refine wpAnyH_take (i := 3) (oi := ?o503) (v := ?v503) ?i503 (by kernel_rfl) (by kernel_rfl) (by kernel_rfl) ?q503 ?y503 (hHeld) ?r503
  case i503 => exact rfl
  case q503 => exact (fun _ _ _ h => h)
  case y503 =>
    refine Or.inl ⟨by rfl, ?_⟩
    intro w hSw
    (try dsimp only at hSw)
    go_simp
    first | done | rfl
  try simp only [Act.put, List.getElem_toArray, List.getElem_cons_zero, List.getElem_cons_succ, List.setIfInBounds_toArray, List.set_cons_zero, List.set_cons_succ]
  refine wpAnyH_take (i := 4) (oi := ?o504) (v := ?v504) ?i504 (by kernel_rfl) (by kernel_rfl) (by kernel_rfl) ?q504 ?y504 (hHeld) ?r504
  case i504 => exact rfl
  case q504 => exact (fun _ _ _ h => h)
  case y504 =>
    refine Or.inl ⟨by rfl, ?_⟩
    intro w hSw
    (try dsimp only at hSw)
    go_simp
    first | done | rfl
  try simp only [Act.put, List.getElem_toArray, List.getElem_cons_zero, List.getElem_cons_succ, List.setIfInBounds_toArray, List.set_cons_zero, List.set_cons_succ]
  refine wpAnyH_ready (rs := [2]) (by kernel_rfl) (by simp) ?_
  refine AllReadyH.cons (i := 2) (o := ?o505) ?i505 (fun K hK => ?_) AllReadyH.nil
  case i505 => exact rfl
  go_simp
  (with_reducible refine (countM Sd.out 8).mono ?_)
  rintro e w3 ⟨rfl, ss, kk⟩
  have S3 : Hid (Src W w3 pb pa ps a n c l (r2 l).2) := ss
  have O3 : Hid (OB w w3 pa gs ⟨.func (Fn.func 31) #[] #[.pointer (some ⟨pb, 0, none⟩), .pointer (some ⟨pa, 0, none⟩)], .func (Fn.func 33) #[] #[.pointer (some ⟨pb, 0, none⟩), .pointer (some ⟨pa, 0, none⟩)], .func (Fn.func 35) #[] #[.pointer (some ⟨ps, 0, none⟩), .pointer (some ⟨pa, 0, none⟩)], .func (Fn.func 36) #[] #[.pointer (some ⟨pa, 0, none⟩), .pointer (some ⟨pb, 0, none⟩)], y4⟩ ⟨.slice a1 (r1 l).1.length c1, .slice none 0 0, .slice none 0 0, .int .i64 0, .slice none 0 0⟩) := Od.out.keep kk
  have EC2 : Hid (Same (gs + 3) w1 w3) := DC2.out.trans (kk.same hpl)
  have hcn : Hid (((n2 l : Nat) : Int) = (r2 l).1 ∧ n2 l ≤ 8) := by
    have := cnt_num HBY.out (m := 8) (by decide) (r1 l).2
    show ((n2 l : Nat) : Int) = (r2 l).1 ∧ n2 l ≤ 8
    unfold n2 r2
    omega
  clear ss kk Od Sd DC2
  go_wp2_with fail
  refine hK.out _ _ ((B5s.five O3.out.f)) (fun hHeld => ?_)
  clear hK K
  try simp only [Act.put, List.getElem_toArray, List.getElem_cons_zero, List.getElem_cons_succ, List.setIfInBounds_toArray, List.set_cons_zero, List.set_cons_succ]
  have ec : (cnt l 8 (r1 l).2).1 = ((n2 l : Nat) : Int) := hcn.out.1.symm
  rw [ec]
  clear ec
  refine wpAnyH_ready (rs := [5]) (by kernel_rfl) (by simp) ?_
  refine AllReadyH.cons (i := 5) (o := ?o506) ?i506 (fun K hK => ?_) AllReadyH.nil
  case i506 => exact rfl
  go_simp
  (with_reducible refine (takeEM S3.out _ _ _ (n2 l) hcn.out.2).mono ?_)
  rintro e w4 ⟨a4, c4, lE, rfl, hA, ss, kk⟩
  have A4 : Hid (AL w4 41 w3.heap.size (.slice a4 (n2 l) c4) lE (r3 l).1) := hA
  have S4 : Hid (Src W w4 pb pa ps a n c l (r3 l).2) := ss
  have O4 : Hid (OB w w4 pa gs ⟨.func (Fn.func 31) #[] #[.pointer (some ⟨pb, 0, none⟩), .pointer (some ⟨pa, 0, none⟩)], .func (Fn.func 33) #[] #[.pointer (some ⟨pb, 0, none⟩), .pointer (some ⟨pa, 0, none⟩)], .func (Fn.func 35) #[] #[.pointer (some ⟨ps, 0, none⟩), .pointer (some ⟨pa, 0, none⟩)], .func (Fn.func 36) #[] #[.pointer (some ⟨pa, 0, none⟩), .pointer (some ⟨pb, 0, none⟩)], y4⟩ ⟨.slice a1 (r1 l).1.length c1, .slice none 0 0, .slice none 0 0, .int .i64 0, .slice none 0 0⟩) := O3.out.keep kk
  have GC2 : Hid (Same (gs + 3) w1 w4) := EC2.out.trans (kk.same hpl)
  have Z4 : Hid (w3.heap.size ≤ w4.heap.size) := kk.size
  have ZEC2w3 : Hid (w1.heap.size ≤ w3.heap.size) := EC2.out.size
  clear hA ss kk S3 O3 EC2
  go_wp2_with fail
  refine hK.out _ _ ((B5s.five O4.out.f)) (fun hHeld => ?_)
  clear hK K
  try simp only [Act.put, List.getElem_toArray, List.getElem_cons_zero, List.getElem_cons_succ, List.setIfInBounds_toArray, List.set_cons_zero, List.set_cons_succ]
  refine wpAnyH_take (i := 6) (oi := ?o507) (v := ?v507) ?i507 (by kernel_rfl) (by kernel_rfl) (by kernel_rfl) ?q507 ?y507 (hHeld) ?r507
  case i507 => exact rfl
  case q507 => exact (fun _ _ _ h => h)
  case y507 =>
    refine Or.inl ⟨by rfl, ?_⟩
    intro w hSw
    (try dsimp only at hSw)
    go_simp
    first | done | rfl
  try simp only [Act.put, List.getElem_toArray, List.getElem_cons_zero, List.getElem_cons_succ, List.setIfInBounds_toArray, List.set_cons_zero, List.set_cons_succ]
  obtain ⟨_, _, _, _, _⟩ := O4.out.g.facts
  obtain ⟨f0, f1, f2, f3, f4⟩ := O4.out.g.frozen
  have O5 : Hid (OB w (w4.setCell ⟨gs + 2, 1, none⟩ (.slice a4 (n2 l) c4)) pa gs ⟨.func (Fn.func 31) #[] #[.pointer (some ⟨pb, 0, none⟩), .pointer (some ⟨pa, 0, none⟩)], .func (Fn.func 33) #[] #[.pointer (some ⟨pb, 0, none⟩), .pointer (some ⟨pa, 0, none⟩)], .func (Fn.func 35) #[] #[.pointer (some ⟨ps, 0, none⟩), .pointer (some ⟨pa, 0, none⟩)], .func (Fn.func 36) #[] #[.pointer (some ⟨pa, 0, none⟩), .pointer (some ⟨pb, 0, none⟩)], y4⟩ ⟨.slice a1 (r1 l).1.length c1, .slice a4 (n2 l) c4, .slice none 0 0, .int .i64 0, .slice none 0 0⟩) := O4.out.set (O4.out.g.set1 _)
  have S5 : Hid (Src W (w4.setCell ⟨gs + 2, 1, none⟩ (.slice a4 (n2 l) c4)) pb pa ps a n c l (r3 l).2) := S4.out.other hbig _ _
  have C2 : Hid (Same (gs + 3) w1 (w4.setCell ⟨gs + 2, 1, none⟩ (.slice a4 (n2 l) c4))) := GC2.out.trans (Same.put hgl)
  have C4 : Hid (Same (gs + 3) w4 (w4.setCell ⟨gs + 2, 1, none⟩ (.slice a4 (n2 l) c4))) := Same.put hgl
  refine wpAnyH_ready (rs := [7]) (by kernel_rfl) (by simp) ?_
  refine AllReadyH.cons (i := 7) (o := ?o508) ?i508 (fun K hK => ?_) AllReadyH.nil
  case i508 => exact rfl
  go_simp
  clear f0 f1 f2 f3 f4 O4 S4 GC2
  generalize hW : (w4.setCell ⟨gs + 2, 1, none⟩ (.slice a4 (n2 l) c4)) = w5 at *
  clear hW
  refine hK.out _ _ ((B5s.five O5.out.f)) (fun hHeld => ?_)
  clear hK K
  try simp only [Act.put, List.getElem_toArray, List.getElem_cons_zero, List.getElem_cons_succ, List.setIfInBounds_toArray, List.set_cons_zero, List.set_cons_succ]
  refine wpAnyH_done (by kernel_rfl) ?_ _
  go_upto_region 4 with fail
  have Od : Hid (OB w w5.drew pa gs ⟨.func (Fn.func 31) #[] #[.pointer (some ⟨pb, 0, none⟩), .pointer (some ⟨pa, 0, none⟩)], .func (Fn.func 33) #[] #[.pointer (some ⟨pb, 0, none⟩), .pointer (some ⟨pa, 0, none⟩)], .func (Fn.func 35) #[] #[.pointer (some ⟨ps, 0, none⟩), .pointer (some ⟨pa, 0, none⟩)], .func (Fn.func 36) #[] #[.pointer (some ⟨pa, 0, none⟩), .pointer (some ⟨pb, 0, none⟩)], y4⟩ ⟨.slice a1 (r1 l).1.length c1, .slice a4 (n2 l) c4, .slice none 0 0, .int .i64 0, .slice none 0 0⟩) := O5.out.drew
  have Sd : Hid (Src W w5.drew pb pa ps a n c l (r3 l).2) := S5.out.below (Below.refl _ _).drew
  have DC2 : Hid (Same (gs + 3) w1 w5.drew) := C2.out.trans Same.drew
  have DC4 : Hid (Same (gs + 3) w4 w5.drew) := C4.out.trans Same.drew
  refine wp_region_held_drew (S := fun wx => wx.cell? ⟨gs, 0, none⟩ = some (.func (Fn.func 31) #[] #[.pointer (some ⟨pb, 0, none⟩), .pointer (some ⟨pa, 0, none⟩)]) ∧ wx.cell? ⟨gs, 1, none⟩ = some (.func (Fn.func 33) #[] #[.pointer (some ⟨pb, 0, none⟩), .pointer (some ⟨pa, 0, none⟩)]) ∧ wx.cell? ⟨gs, 2, none⟩ = some (.func (Fn.func 35) #[] #[.pointer (some ⟨ps, 0, none⟩), .pointer (some ⟨pa, 0, none⟩)]) ∧ wx.cell? ⟨gs, 3, none⟩ = some (.func (Fn.func 36) #[] #[.pointer (some ⟨pa, 0, none⟩), .pointer (some ⟨pb, 0, none⟩)]) ∧ wx.cell? ⟨gs, 4, none⟩ = some y4) (by kernel_rfl) (B5s.five Od.out.f) (fun hHeld => ?_)
  clear O5 S5 C2 C4
  generalize w5.drew = wT at *
  refine wpAnyH_take (i := 0) (oi := ?o509) (v := ?v509) ?i509 (by kernel_rfl) (by kernel_rfl) (by kernel_rfl) ?q509 ?y509 (hHeld) ?r509
  case i509 => exact rfl
  case q509 => exact (fun _ _ _ h => h)
  case y509 =>
    refine Or.inl ⟨by rfl, ?_⟩
    intro w hSw
    (try dsimp only at hSw)
    go_simp
    first | done | rfl
  try simp only [Act.put, List.getElem_toArray, List.getElem_cons_zero, List.getElem_cons_succ, List.setIfInBounds_toArray, List.set_cons_zero, List.set_cons_succ]
  refine wpAnyH_take (i := 1) (oi := ?o510) (v := ?v510) ?i510 (by kernel_rfl) (by kernel_rfl) (by kernel_rfl) ?q510 ?y510 (hHeld) ?r510
  case i510 => exact rfl
  case q510 => exact (fun _ _ _ h => h)
  case y510 =>
    refine Or.inl ⟨by rfl, ?_⟩
    intro w hSw
    (try dsimp only at hSw)
    go_simp
    first | done | rfl
  try simp only [Act.put, List.getElem_toArray, List.getElem_cons_zero, List.getElem_cons_succ, List.setIfInBounds_toArray, List.set_cons_zero, List.set_cons_succ]
  refine wpAnyH_take (i := 3) (oi := ?o511) (v := ?v511) ?i511 (by kernel_rfl) (by kernel_rfl) (by kernel_rfl) ?q511 ?y511 (hHeld) ?r511
  case i511 => exact rfl
  case q511 => exact (fun _ _ _ h => h)
  case y511 =>
    refine Or.inl ⟨by rfl, ?_⟩
    intro w hSw
    (try dsimp only at hSw)
    go_simp
    first | done | rfl
  try simp only [Act.put, List.getElem_toArray, List.getElem_cons_zero, List.getElem_cons_succ, List.setIfInBounds_toArray, List.set_cons_zero, List.set_cons_succ]
  refine wpAnyH_take (i := 4) (oi := ?o512) (v := ?v512) ?i512 (by kernel_rfl) (by kernel_rfl) (by kernel_rfl) ?q512 ?y512 (hHeld) ?r512
  case i512 => exact rfl
  case q512 => exact (fun _ _ _ h => h)
  case y512 =>
    refine Or.inl ⟨by rfl, ?_⟩
    intro w hSw
    (try dsimp only at hSw)
    go_simp
    first | done | rfl
  try simp only [Act.put, List.getElem_toArray, List.getElem_cons_zero, List.getElem_cons_succ, List.setIfInBounds_toArray, List.set_cons_zero, List.set_cons_succ]
  refine wpAnyH_ready (rs := [2]) (by kernel_rfl) (by simp) ?_
  refine AllReadyH.cons (i := 2) (o := ?o513) ?i513 (fun K hK => ?_) AllReadyH.nil
  case i513 => exact rfl
  go_simp
  (with_reducible refine (countM Sd.out 8).mono ?_)
  rintro e w6 ⟨rfl, ss, kk⟩
  have S6 : Hid (Src W w6 pb pa ps a n c l (r4 l).2) := ss
  have O6 : Hid (OB w w6 pa gs ⟨.func (Fn.func 31) #[] #[.pointer (some ⟨pb, 0, none⟩), .pointer (some ⟨pa, 0, none⟩)], .func (Fn.func 33) #[] #[.pointer (some ⟨pb, 0, none⟩), .pointer (some ⟨pa, 0, none⟩)], .func (Fn.func 35) #[] #[.pointer (some ⟨ps, 0, none⟩), .pointer (some ⟨pa, 0, none⟩)], .func (Fn.func 36) #[] #[.pointer (some ⟨pa, 0, none⟩), .pointer (some ⟨pb, 0, none⟩)], y4⟩ ⟨.slice a1 (r1 l).1.length c1, .slice a4 (n2 l) c4, .slice none 0 0, .int .i64 0, .slice none 0 0⟩) := Od.out.keep kk
  have EC2 : Hid (Same (gs + 3) w1 w6) := DC2.out.trans (kk.same hpl)
  have EC4 : Hid (Same (gs + 3) w4 w6) := DC4.out.trans (kk.same hpl)
  have hcn : Hid (((n4 l : Nat) : Int) = (r4 l).1 ∧ n4 l ≤ 8) := by
    have := cnt_num HBY.out (m := 8) (by decide) (r3 l).2
    show ((n4 l : Nat) : Int) = (r4 l).1 ∧ n4 l ≤ 8
    unfold n4 r4
    omega
  clear ss kk Od Sd DC2 DC4
  go_wp2_with fail
  refine hK.out _ _ ((B5s.five O6.out.f)) (fun hHeld => ?_)
  clear hK K
  try simp only [Act.put, List.getElem_toArray, List.getElem_cons_zero, List.getElem_cons_succ, List.setIfInBounds_toArray, List.set_cons_zero, List.set_cons_succ]
  have ec : (cnt l 8 (r3 l).2).1 = ((n4 l : Nat) : Int) := hcn.out.1.symm
  rw [ec]
  clear ec
  refine wpAnyH_ready (rs := [5]) (by kernel_rfl) (by simp) ?_
  refine AllReadyH.cons (i := 5) (o := ?o514) ?i514 (fun K hK => ?_) AllReadyH.nil
  case i514 => exact rfl
  go_simp
  (with_reducible refine (takeMM S6.out _ _ _ (n4 l) hcn.out.2).mono ?_)
  rintro e w7 ⟨a7, c7, lI, rfl, hA, ss, kk⟩
  have A7 : Hid (AL w7 43 w6.heap.size (.slice a7 (n4 l) c7) lI (r5 l).1) := hA
  have S7 : Hid (Src W w7 pb pa ps a n c l (r5 l).2) := ss
  have O7 : Hid (OB w w7 pa gs ⟨.func (Fn.func 31) #[] #[.pointer (some ⟨pb, 0, none⟩), .pointer (some ⟨pa, 0, none⟩)], .func (Fn.func 33) #[] #[.pointer (some ⟨pb, 0, none⟩), .pointer (some ⟨pa, 0, none⟩)], .func (Fn.func 35) #[] #[.pointer (some ⟨ps, 0, none⟩), .pointer (some ⟨pa, 0, none⟩)], .func (Fn.func 36) #[] #[.pointer (some ⟨pa, 0, none⟩), .pointer (some ⟨pb, 0, none⟩)], y4⟩ ⟨.slice a1 (r1 l).1.length c1, .slice a4 (n2 l) c4, .slice none 0 0, .int .i64 0, .slice none 0 0⟩) := O6.out.keep kk
  have GC2 : Hid (Same (gs + 3) w1 w7) := EC2.out.trans (kk.same hpl)
  have GC4 : Hid (Same (gs + 3) w4 w7) := EC4.out.trans (kk.same hpl)
  have Z7 : Hid (w6.heap.size ≤ w7.heap.size) := kk.size
  have ZEC2w6 : Hid (w1.heap.size ≤ w6.heap.size) := EC2.out.size
  have ZEC4w6 : Hid (w4.heap.size ≤ w6.heap.size) := EC4.out.size
  clear hA ss kk S6 O6 EC2 EC4
  go_wp2_with fail
  refine hK.out _ _ ((B5s.five O7.out.f)) (fun hHeld => ?_)
  clear hK K
  try simp only [Act.put, List.getElem_toArray, List.getElem_cons_zero, List.getElem_cons_succ, List.setIfInBounds_toArray, List.set_cons_zero, List.set_cons_succ]
  refine wpAnyH_take (i := 6) (oi := ?o515) (v := ?v515) ?i515 (by kernel_rfl) (by kernel_rfl) (by kernel_rfl) ?q515 ?y515 (hHeld) ?r515
  case i515 => exact rfl
  case q515 => exact (fun _ _ _ h => h)
  case y515 =>
    refine Or.inl ⟨by rfl, ?_⟩
    intro w hSw
    (try dsimp only at hSw)
    go_simp
    first | done | rfl
  try simp only [Act.put, List.getElem_toArray, List.getElem_cons_zero, List.getElem_cons_succ, List.setIfInBounds_toArray, List.set_cons_zero, List.set_cons_succ]
  obtain ⟨_, _, _, _, _⟩ := O7.out.g.facts
  obtain ⟨f0, f1, f2, f3, f4⟩ := O7.out.g.frozen
  have O8 : Hid (OB w (w7.setCell ⟨gs + 2, 2, none⟩ (.slice a7 (n4 l) c7)) pa gs ⟨.func (Fn.func 31) #[] #[.pointer (some ⟨pb, 0, none⟩), .pointer (some ⟨pa, 0, none⟩)], .func (Fn.func 33) #[] #[.pointer (some ⟨pb, 0, none⟩), .pointer (some ⟨pa, 0, none⟩)], .func (Fn.func 35) #[] #[.pointer (some ⟨ps, 0, none⟩), .pointer (some ⟨pa, 0, none⟩)], .func (Fn.func 36) #[] #[.pointer (some ⟨pa, 0, none⟩), .pointer (some ⟨pb, 0, none⟩)], y4⟩ ⟨.slice a1 (r1 l).1.length c1, .slice a4 (n2 l) c4, .slice a7 (n4 l) c7, .int .i64 0, .slice none 0 0⟩) := O7.out.set (O7.out.g.set2 _)
  have S8 : Hid (Src W (w7.setCell ⟨gs + 2, 2, none⟩ (.slice a7 (n4 l) c7)) pb pa ps a n c l (r5 l).2) := S7.out.other hbig _ _
  have C2 : Hid (Same (gs + 3) w1 (w7.setCell ⟨gs + 2, 2, none⟩ (.slice a7 (n4 l) c7))) := GC2.out.trans (Same.put hgl)
  have C4 : Hid (Same (gs + 3) w4 (w7.setCell ⟨gs + 2, 2, none⟩ (.slice a7 (n4 l) c7))) := GC4.out.trans (Same.put hgl)
  have C7 : Hid (Same (gs + 3) w7 (w7.setCell ⟨gs + 2, 2, none⟩ (.slice a7 (n4 l) c7))) := Same.put hgl
  refine wpAnyH_ready (rs := [7]) (by kernel_rfl) (by simp) ?_
  refine AllReadyH.cons (i := 7) (o := ?o516) ?i516 (fun K hK => ?_) AllReadyH.nil
  case i516 => exact rfl
  go_simp
  clear f0 f1 f2 f3 f4 O7 S7 GC2 GC4
  generalize hW : (w7.setCell ⟨gs + 2, 2, none⟩ (.slice a7 (n4 l) c7)) = w8 at *
  clear hW
  refine hK.out _ _ ((B5s.five O8.out.f)) (fun hHeld => ?_)
  clear hK K
  try simp only [Act.put, List.getElem_toArray, List.getElem_cons_zero, List.getElem_cons_succ, List.setIfInBounds_toArray, List.set_cons_zero, List.set_cons_succ]
  refine wpAnyH_done (by kernel_rfl) ?_ _
  have k1 := (B5s.five O8.out.f).1
  go_wp2_with fail
  refine (numM S8.out).mono ?_
  rintro e w9 ⟨rfl, ss, kk⟩
  have S9 : Hid (Src W w9 pb pa ps a n c l (r6 l).2) := ss
  have O9 : Hid (OB w w9 pa gs ⟨.func (Fn.func 31) #[] #[.pointer (some ⟨pb, 0, none⟩), .pointer (some ⟨pa, 0, none⟩)], .func (Fn.func 33) #[] #[.pointer (some ⟨pb, 0, none⟩), .pointer (some ⟨pa, 0, none⟩)], .func (Fn.func 35) #[] #[.pointer (some ⟨ps, 0, none⟩), .pointer (some ⟨pa, 0, none⟩)], .func (Fn.func 36) #[] #[.pointer (some ⟨pa, 0, none⟩), .pointer (some ⟨pb, 0, none⟩)], y4⟩ ⟨.slice a1 (r1 l).1.length c1, .slice a4 (n2 l) c4, .slice a7 (n4 l) c7, .int .i64 0, .slice none 0 0⟩) := O8.out.keep kk
  have DC2 : Hid (Same (gs + 3) w1 w9) := C2.out.trans (kk.same hpl)
  have DC4 : Hid (Same (gs + 3) w4 w9) := C4.out.trans (kk.same hpl)
  have DC7 : Hid (Same (gs + 3) w7 w9) := C7.out.trans (kk.same hpl)
  clear ss kk k1 O8 S8 C2 C4 C7
  obtain ⟨_, _, _, _, _⟩ := O9.out.g.facts
  obtain ⟨f0, f1, f2, f3, f4⟩ := O9.out.g.frozen
  have e1 : getL l (r5 l).2 = r6 l := rfl
  rw [e1]
  clear e1
  go_upto_region 6 with fail
  have O10 : Hid (OB w (w9.setCell ⟨gs + 2, 3, none⟩ (.int .i64 (r6 l).1)) pa gs ⟨.func (Fn.func 31) #[] #[.pointer (some ⟨pb, 0, none⟩), .pointer (some ⟨pa, 0, none⟩)], .func (Fn.func 33) #[] #[.pointer (some ⟨pb, 0, none⟩), .pointer (some ⟨pa, 0, none⟩)], .func (Fn.func 35) #[] #[.pointer (some ⟨ps, 0, none⟩), .pointer (some ⟨pa, 0, none⟩)], .func (Fn.func 36) #[] #[.pointer (some ⟨pa, 0, none⟩), .pointer (some ⟨pb, 0, none⟩)], y4⟩ ⟨.slice a1 (r1 l).1.length c1, .slice a4 (n2 l) c4, .slice a7 (n4 l) c7, .int .i64 (r6 l).1, .slice none 0 0⟩) := O9.out.set (O9.out.g.set3 _)
  have S10 : Hid (Src W (w9.setCell ⟨gs + 2, 3, none⟩ (.int .i64 (r6 l).1)) pb pa ps a n c l (r6 l).2) := S9.out.other hbig _ _
  have C2 : Hid (Same (gs + 3) w1 (w9.setCell ⟨gs + 2, 3, none⟩ (.int .i64 (r6 l).1))) := DC2.out.trans (Same.put hgl)
  have C4 : Hid (Same (gs + 3) w4 (w9.setCell ⟨gs + 2, 3, none⟩ (.int .i64 (r6 l).1))) := DC4.out.trans (Same.put hgl)
  have C7 : Hid (Same (gs + 3) w7 (w9.setCell ⟨gs + 2, 3, none⟩ (.int .i64 (r6 l).1))) := DC7.out.trans (Same.put hgl)
  clear O9 S9 DC2 DC4 DC7 f0 f1 f2 f3 f4
  generalize (w9.setCell ⟨gs + 2, 3, none⟩ (.int .i64 (r6 l).1)) = w10 at *
  have Od : Hid (OB w w10.drew pa gs ⟨.func (Fn.func 31) #[] #[.pointer (some ⟨pb, 0, none⟩), .pointer (some ⟨pa, 0, none⟩)], .func (Fn.func 33) #[] #[.pointer (some ⟨pb, 0, none⟩), .pointer (some ⟨pa, 0, none⟩)], .func (Fn.func 35) #[] #[.pointer (some ⟨ps, 0, none⟩), .pointer (some ⟨pa, 0, none⟩)], .func (Fn.func 36) #[] #[.pointer (some ⟨pa, 0, none⟩), .pointer (some ⟨pb, 0, none⟩)], y4⟩ ⟨.slice a1 (r1 l).1.length c1, .slice a4 (n2 l) c4, .slice a7 (n4 l) c7, .int .i64 (r6 l).1, .slice none 0 0⟩) := O10.out.drew
  have Sd : Hid (Src W w10.drew pb pa ps a n c l (r6 l).2) := S10.out.below (Below.refl _ _).drew
  have DC2 : Hid (Same (gs + 3) w1 w10.drew) := C2.out.trans Same.drew
  have DC4 : Hid (Same (gs + 3) w4 w10.drew) := C4.out.trans Same.drew
  have DC7 : Hid (Same (gs + 3) w7 w10.drew) := C7.out.trans Same.drew
  refine wp_region_held_drew (S := fun wx => wx.cell? ⟨gs, 0, none⟩ = some (.func (Fn.func 31) #[] #[.pointer (some ⟨pb, 0, none⟩), .pointer (some ⟨pa, 0, none⟩)]) ∧ wx.cell? ⟨gs, 1, none⟩ = some (.func (Fn.func 33) #[] #[.pointer (some ⟨pb, 0, none⟩), .pointer (some ⟨pa, 0, none⟩)]) ∧ wx.cell? ⟨gs, 2, none⟩ = some (.func (Fn.func 35) #[] #[.pointer (some ⟨ps, 0, none⟩), .pointer (some ⟨pa, 0, none⟩)]) ∧ wx.cell? ⟨gs, 3, none⟩ = some (.func (Fn.func 36) #[] #[.pointer (some ⟨pa, 0, none⟩), .pointer (some ⟨pb, 0, none⟩)]) ∧ wx.cell? ⟨gs, 4, none⟩ = some y4) (by kernel_rfl) (B5s.five Od.out.f) (fun hHeld => ?_)
  clear O10 S10 C2 C4 C7
  generalize w10.drew = wU at *
  refine wpAnyH_take (i := 0) (oi := ?o517) (v := ?v517) ?i517 (by kernel_rfl) (by kernel_rfl) (by kernel_rfl) ?q517 ?y517 (hHeld) ?r517
  case i517 => exact rfl
  case q517 => exact (fun _ _ _ h => h)
  case y517 =>
    refine Or.inl ⟨by rfl, ?_⟩
    intro w hSw
    (try dsimp only at hSw)
    go_simp
    first | done | rfl
  try simp only [Act.put, List.getElem_toArray, List.getElem_cons_zero, List.getElem_cons_succ, List.setIfInBounds_toArray, List.set_cons_zero, List.set_cons_succ]
  refine wpAnyH_take (i := 1) (oi := ?o518) (v := ?v518) ?i518 (by kernel_rfl) (by kernel_rfl) (by kernel_rfl) ?q518 ?y518 (hHeld) ?r518
  case i518 => exact rfl
  case q518 => exact (fun _ _ _ h => h)
  case y518 =>
    refine Or.inl ⟨by rfl, ?_⟩
    intro w hSw
    (try dsimp only at hSw)
    go_simp
    first | done | rfl
  try simp only [Act.put, List.getElem_toArray, List.getElem_cons_zero, List.getElem_cons_succ, List.setIfInBounds_toArray, List.set_cons_zero, List.set_cons_succ]
  refine wpAnyH_take (i := 2) (oi := ?o519) (v := ?v519) ?i519 (by kernel_rfl) (by kernel_rfl) (by kernel_rfl) ?q519 ?y519 (hHeld) ?r519
  case i519 => exact rfl
  case q519 => exact (fun _ _ _ h => h)
  case y519 =>
    refine Or.inl ⟨by rfl, ?_⟩
    intro w hSw
    (try dsimp only at hSw)
    go_simp
    first | done | rfl
  try simp only [Act.put, List.getElem_toArray, List.getElem_cons_zero, List.getElem_cons_succ, List.setIfInBounds_toArray, List.set_cons_zero, List.set_cons_succ]
  refine wpAnyH_take (i := 3) (oi := ?o520) (v := ?v520) ?i520 (by kernel_rfl) (by kernel_rfl) (by kernel_rfl) ?q520 ?y520 (hHeld) ?r520
  case i520 => exact rfl
  case q520 => exact (fun _ _ _ h => h)
  case y520 =>
    refine Or.inl ⟨by rfl, ?_⟩
    intro w hSw
    (try dsimp only at hSw)
    go_simp
    first | done | rfl
  try simp only [Act.put, List.getElem_toArray, List.getElem_cons_zero, List.getElem_cons_succ, List.setIfInBounds_toArray, List.set_cons_zero, List.set_cons_succ]
  refine wpAnyH_ready (rs := [4]) (by kernel_rfl) (by simp) ?_
  refine AllReadyH.cons (i := 4) (o := ?o521) ?i521 (fun K hK => ?_) AllReadyH.nil
  case i521 => exact rfl
  go_simp
  (with_reducible refine (countM Sd.out 9000).mono ?_)
  rintro e w11 ⟨rfl, ss, kk⟩
  have S11 : Hid (Src W w11 pb pa ps a n c l (r7 l).2) := ss
  have O11 : Hid (OB w w11 pa gs ⟨.func (Fn.func 31) #[] #[.pointer (some ⟨pb, 0, none⟩), .pointer (some ⟨pa, 0, none⟩)], .func (Fn.func 33) #[] #[.pointer (some ⟨pb, 0, none⟩), .pointer (some ⟨pa, 0, none⟩)], .func (Fn.func 35) #[] #[.pointer (some ⟨ps, 0, none⟩), .pointer (some ⟨pa, 0, none⟩)], .func (Fn.func 36) #[] #[.pointer (some ⟨pa, 0, none⟩), .pointer (some ⟨pb, 0, none⟩)], y4⟩ ⟨.slice a1 (r1 l).1.length c1, .slice a4 (n2 l) c4, .slice a7 (n4 l) c7, .int .i64 (r6 l).1, .slice none 0 0⟩) := Od.out.keep kk
  have EC2 : Hid (Same (gs + 3) w1 w11) := DC2.out.trans (kk.same hpl)
  have EC4 : Hid (Same (gs + 3) w4 w11) := DC4.out.trans (kk.same hpl)
  have EC7 : Hid (Same (gs + 3) w7 w11) := DC7.out.trans (kk.same hpl)
  have hcn : Hid (((n7 l : Nat) : Int) = (r7 l).1 ∧ n7 l ≤ 9000) := by
    have := cnt_num HBY.out (m := 9000) (by decide) (r6 l).2
    show ((n7 l : Nat) : Int) = (r7 l).1 ∧ n7 l ≤ 9000
    unfold n7 r7
    omega
  have hA7 : Hid (At l (r7 l).2) := cnt_at HBY.out 9000 (r6 l).2
  have h8 : Hid (byL l ((n7 l : Nat) : Int) (r7 l).2 = r8 l) := by show _ = _; rw [hcn.out.1]; rfl
  clear ss kk Od Sd DC2 DC4 DC7
  go_wp2_with fail
  refine hK.out _ _ ((B5s.five O11.out.f)) (fun hHeld => ?_)
  clear hK K
  try simp only [Act.put, List.getElem_toArray, List.getElem_cons_zero, List.getElem_cons_succ, List.setIfInBounds_toArray, List.set_cons_zero, List.set_cons_succ]
  have ec : (cnt l 9000 (r6 l).2).1 = ((n7 l : Nat) : Int) := hcn.out.1.symm
  rw [ec]
  clear ec
  refine wpAnyH_ready (rs := [5]) (by kernel_rfl) (by simp) ?_
  refine AllReadyH.cons (i := 5) (o := ?o522) ?i522 (fun K hK => ?_) AllReadyH.nil
  case i522 => exact rfl
  go_simp
  (with_reducible refine (bytesM S11.out hA7.out (n7 l) hcn.out.2).mono ?_)
  rintro e w12 ⟨a12, n12, c12, rfl, en, hH, ss, kk⟩
  rw [h8.out] at en hH ss
  subst en
  have HCD : Hid ((Fd.b (r8 l).1).Has w12 w11.heap.size (.slice a12 (r8 l).1.length c12)) := hH
  have S12 : Hid (Src W w12 pb pa ps a n c l (r8 l).2) := ss
  have O12 : Hid (OB w w12 pa gs ⟨.func (Fn.func 31) #[] #[.pointer (some ⟨pb, 0, none⟩), .pointer (some ⟨pa, 0, none⟩)], .func (Fn.func 33) #[] #[.pointer (some ⟨pb, 0, none⟩), .pointer (some ⟨pa, 0, none⟩)], .func (Fn.func 35) #[] #[.pointer (some ⟨ps, 0, none⟩), .pointer (some ⟨pa, 0, none⟩)], .func (Fn.func 36) #[] #[.pointer (some ⟨pa, 0, none⟩), .pointer (some ⟨pb, 0, none⟩)], y4⟩ ⟨.slice a1 (r1 l).1.length c1, .slice a4 (n2 l) c4, .slice a7 (n4 l) c7, .int .i64 (r6 l).1, .slice none 0 0⟩) := O11.out.keep kk
  have GC2 : Hid (Same (gs + 3) w1 w12) := EC2.out.trans (kk.same hpl)
  have GC4 : Hid (Same (gs + 3) w4 w12) := EC4.out.trans (kk.same hpl)
  have GC7 : Hid (Same (gs + 3) w7 w12) := EC7.out.trans (kk.same hpl)
  have Z12 : Hid (w11.heap.size ≤ w12.heap.size) := kk.size
  have Z711 : Hid (w7.heap.size ≤ w11.heap.size) := EC7.out.size
  clear hH ss kk S11 O11 EC2 EC4 EC7
  go_wp2_with fail
  refine hK.out _ _ ((B5s.five O12.out.f)) (fun hHeld => ?_)
  clear hK K
  try simp only [Act.put, List.getElem_toArray, List.getElem_cons_zero, List.getElem_cons_succ, List.setIfInBounds_toArray, List.set_cons_zero, List.set_cons_succ]
  refine wpAnyH_take (i := 6) (oi := ?o523) (v := ?v523) ?i523 (by kernel_rfl) (by kernel_rfl) (by kernel_rfl) ?q523 ?y523 (hHeld) ?r523
  case i523 => exact rfl
  case q523 => exact (fun _ _ _ h => h)
  case y523 =>
    refine Or.inl ⟨by rfl, ?_⟩
    intro w hSw
    (try dsimp only at hSw)
    go_simp
    first | done | rfl
  try simp only [Act.put, List.getElem_toArray, List.getElem_cons_zero, List.getElem_cons_succ, List.setIfInBounds_toArray, List.set_cons_zero, List.set_cons_succ]
  obtain ⟨_, _, _, _, _⟩ := O12.out.g.facts
  obtain ⟨f0, f1, f2, f3, f4⟩ := O12.out.g.frozen
  have O13 : Hid (OB w (w12.setCell ⟨gs + 2, 4, none⟩ (.slice a12 (r8 l).1.length c12)) pa gs ⟨.func (Fn.func 31) #[] #[.pointer (some ⟨pb, 0, none⟩), .pointer (some ⟨pa, 0, none⟩)], .func (Fn.func 33) #[] #[.pointer (some ⟨pb, 0, none⟩), .pointer (some ⟨pa, 0, none⟩)], .func (Fn.func 35) #[] #[.pointer (some ⟨ps, 0, none⟩), .pointer (some ⟨pa, 0, none⟩)], .func (Fn.func 36) #[] #[.pointer (some ⟨pa, 0, none⟩), .pointer (some ⟨pb, 0, none⟩)], y4⟩ ⟨.slice a1 (r1 l).1.length c1, .slice a4 (n2 l) c4, .slice a7 (n4 l) c7, .int .i64 (r6 l).1, .slice a12 (r8 l).1.length c12⟩) := O12.out.set (O12.out.g.set4 _)
  have S13 : Hid (Src W (w12.setCell ⟨gs + 2, 4, none⟩ (.slice a12 (r8 l).1.length c12)) pb pa ps a n c l (r8 l).2) := S12.out.other hbig _ _
  have C2 : Hid (Same (gs + 3) w1 (w12.setCell ⟨gs + 2, 4, none⟩ (.slice a12 (r8 l).1.length c12))) := GC2.out.trans (Same.put hgl)
  have C4 : Hid (Same (gs + 3) w4 (w12.setCell ⟨gs + 2, 4, none⟩ (.slice a12 (r8 l).1.length c12))) := GC4.out.trans (Same.put hgl)
  have C7 : Hid (Same (gs + 3) w7 (w12.setCell ⟨gs + 2, 4, none⟩ (.slice a12 (r8 l).1.length c12))) := GC7.out.trans (Same.put hgl)
  have C12 : Hid (Same (gs + 3) w12 (w12.setCell ⟨gs + 2, 4, none⟩ (.slice a12 (r8 l).1.length c12))) := Same.put hgl
  refine wpAnyH_ready (rs := [7]) (by kernel_rfl) (by simp) ?_
  refine AllReadyH.cons (i := 7) (o := ?o524) ?i524 (fun K hK => ?_) AllReadyH.nil
  case i524 => exact rfl
  go_simp
  clear f0 f1 f2 f3 f4 O12 S12 GC2 GC4 GC7
  generalize hW : (w12.setCell ⟨gs + 2, 4, none⟩ (.slice a12 (r8 l).1.length c12)) = w13 at *
  clear hW
  refine hK.out _ _ ((B5s.five O13.out.f)) (fun hHeld => ?_)
  clear hK K
  try simp only [Act.put, List.getElem_toArray, List.getElem_cons_zero, List.getElem_cons_succ, List.setIfInBounds_toArray, List.set_cons_zero, List.set_cons_succ]
  refine wpAnyH_done (by kernel_rfl) ?_ _
  obtain ⟨q0, q1, q2, q3, q4⟩ := O13.out.g.facts
  obtain ⟨p0, p1, p2, p3, p4⟩ := O13.out.r.facts
  obtain ⟨f0, f1, f2, f3, f4⟩ := O13.out.r.frozen
  simp only at q0 q1 q2 q3 q4
  go_wp2_with fail
  clear q0 q1 q2 q3 q4 p0 p1 p2 p3 p4 f0 f1 f2 f3 f4
  have hbig1 : pb < gs + 1 ∧ pa < gs + 1 ∧ ps < gs + 1 ∧ W.heap.size ≤ gs + 1 := by have := hbig0.out; omega
  have hl1 : gs + 1 < gs + 3 := by omega
  have hgw : w.heap.size ≤ gs + 1 := by have := HGS.out; omega
  have R14 : B5 (((((w13.setCell ⟨gs + 1, 0, none⟩ (.slice a1 (r1 l).1.length c1)).setCell ⟨gs + 1, 1, none⟩ (.slice a4 (n2 l) c4)).setCell ⟨gs + 1, 2, none⟩ (.slice a7 (n4 l) c7)).setCell ⟨gs + 1, 3, none⟩ (.int .i64 (r6 l).1)).setCell ⟨gs + 1, 4, none⟩ (.slice a12 (r8 l).1.length c12)) (gs + 1) 26 ⟨.slice a1 (r1 l).1.length c1, .slice a4 (n2 l) c4, .slice a7 (n4 l) c7, .int .i64 (r6 l).1, .slice a12 (r8 l).1.length c12⟩ := ((((O13.out.r.set0 _).set1 _).set2 _).set3 _).set4 _
  have S14 : Src W (((((w13.setCell ⟨gs + 1, 0, none⟩ (.slice a1 (r1 l).1.length c1)).setCell ⟨gs + 1, 1, none⟩ (.slice a4 (n2 l) c4)).setCell ⟨gs + 1, 2, none⟩ (.slice a7 (n4 l) c7)).setCell ⟨gs + 1, 3, none⟩ (.int .i64 (r6 l).1)).setCell ⟨gs + 1, 4, none⟩ (.slice a12 (r8 l).1.length c12)) pb pa ps a n c l (r8 l).2 := ((((S13.out.other hbig1 _ _).other hbig1 _ _).other hbig1 _ _).other hbig1 _ _).other hbig1 _ _
  have K14 : KeepO [some pa] w (((((w13.setCell ⟨gs + 1, 0, none⟩ (.slice a1 (r1 l).1.length c1)).setCell ⟨gs + 1, 1, none⟩ (.slice a4 (n2 l) c4)).setCell ⟨gs + 1, 2, none⟩ (.slice a7 (n4 l) c7)).setCell ⟨gs + 1, 3, none⟩ (.int .i64 (r6 l).1)).setCell ⟨gs + 1, 4, none⟩ (.slice a12 (r8 l).1.length c12)) := ((((O13.out.k.put hgw _ _).put hgw _ _).put hgw _ _).put hgw _ _).put hgw _ _
  have C14 : Same (gs + 3) w13 (((((w13.setCell ⟨gs + 1, 0, none⟩ (.slice a1 (r1 l).1.length c1)).setCell ⟨gs + 1, 1, none⟩ (.slice a4 (n2 l) c4)).setCell ⟨gs + 1, 2, none⟩ (.slice a7 (n4 l) c7)).setCell ⟨gs + 1, 3, none⟩ (.int .i64 (r6 l).1)).setCell ⟨gs + 1, 4, none⟩ (.slice a12 (r8 l).1.length c12)) := ((((Same.put hl1).trans (Same.put hl1)).trans (Same.put hl1)).trans (Same.put hl1)).trans (Same.put hl1)
  generalize (((((w13.setCell ⟨gs + 1, 0, none⟩ (.slice a1 (r1 l).1.length c1)).setCell ⟨gs + 1, 1, none⟩ (.slice a4 (n2 l) c4)).setCell ⟨gs + 1, 2, none⟩ (.slice a7 (n4 l) c7)).setCell ⟨gs + 1, 3, none⟩ (.int .i64 (r6 l).1)).setCell ⟨gs + 1, 4, none⟩ (.slice a12 (r8 l).1.length c12)) = w14 at *
  obtain ⟨d0, d1, d2, d3, d4⟩ := R14.facts
  simp only at d0 d1 d2 d3 d4
  have A4' : AL w4 41 w3.heap.size (.slice a4 (n2 l) c4) lE (r3 l).1 := A4.out
  have A7' : AL w7 43 w6.heap.size (.slice a7 (n4 l) c7) lI (r5 l).1 := A7.out
  have hN' : (Fd.b (r1 l).1).Has w1 (gs + 3) (.slice a1 (r1 l).1.length c1) := HN.out
  have hC' : (Fd.b (r8 l).1).Has w12 w11.heap.size (.slice a12 (r8 l).1.length c12) := HCD.out
  have z1 : gs + 3 ≤ w1.heap.size := hZ1.out
  have z2 : w1.heap.size ≤ w3.heap.size := ZEC2w3.out
  have z3 : w3.heap.size ≤ w4.heap.size := Z4.out
  have z4 : w4.heap.size ≤ w6.heap.size := ZEC4w6.out
  have z5 : w6.heap.size ≤ w7.heap.size := Z7.out
  have z6 : w7.heap.size ≤ w11.heap.size := Z711.out
  have z7 : w11.heap.size ≤ w12.heap.size := Z12.out
  have T2 : Same (gs + 3) w1 w14 := C2.out.trans C14
  have T4 : Same (gs + 3) w4 w14 := C4.out.trans C14
  have T7 : Same (gs + 3) w7 w14 := C7.out.trans C14
  have T12 : Same (gs + 3) w12 w14 := C12.out.trans C14
  have hgs : w.heap.size = gs := HGS.out
  refine bodyPost_ret (v := .agg #[.slice a1 (r1 l).1.length c1, .slice a4 (n2 l) c4, .slice a7 (n4 l) c7, .int .i64 (r6 l).1, .slice a12 (r8 l).1.length c12]) (by simp [results, Try.results17, go_sem, d0, d1, d2, d3, d4]) rfl ⟨⟨.slice a1 (r1 l).1.length c1, .slice a4 (n2 l) c4, .slice a7 (n4 l) c7, .int .i64 (r6 l).1, .slice a12 (r8 l).1.length c12⟩, rfl, ⟨lE, lI, ?_⟩, S14, K14⟩
  rw [hgs]
  refine ⟨(hN'.same T2).mono (by omega), ((A4'.own).same (T4.mono (by omega))).mono (by omega), ((A7'.own).same (T7.mono (by omega))).mono (by omega), rfl, (hC'.same (T12.mono (by omega))).mono (by omega), ?_⟩
  have b1 : Bk (gs + 3) w1.heap.size [(Value.ownBlock (.slice a1 (r1 l).1.length c1))] := by
    refine ⟨fun g hg => ?_, List.pairwise_singleton _ _⟩
    simp only [List.mem_cons, List.not_mem_nil, or_false] at hg
    exact hN'.lt g hg.symm
  have b4 : Bk w11.heap.size w12.heap.size [(Value.ownBlock (.slice a12 (r8 l).1.length c12))] := by
    refine ⟨fun g hg => ?_, List.pairwise_singleton _ _⟩
    simp only [List.mem_cons, List.not_mem_nil, or_false] at hg
    exact hC'.lt g hg.symm
  have b12 := b1.append (A4'.bk.low z2) (by omega) (by omega)
  have b13 := b12.append (A7'.bk.low z4) (by omega) (by omega)
  have b14 := b13.append (b4.low z6) (by omega) (by omega)
  exact (b14.low (by omega)).mono T12.size
end Go.Proofs.Ythfknedokkccaaa

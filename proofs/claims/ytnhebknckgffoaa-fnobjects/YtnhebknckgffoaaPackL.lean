import Derived.Test.YtnhebknckgffoaaPackI
import Derived.Deep.Cut
import Derived.Laws.EntriesVeiled
import Derived.Test.YtnhebknckgffoaaBytesEq
import Derived.Test.YtnhebknckgffoaaPackK
import Derived.Lib.SlBytesConst
/- An object as it stands at the place: by the functions that close over it. -/
namespace Go.Proofs.Ytnhebknckgffoaa
open Go.RowKit
set_option linter.unusedVariables false
set_option linter.unusedSimpArgs false
set_option maxRecDepth 100000

/-- What the call has laid: the functions, the answer, the object that is read. -/
structure OB (w cur : World) (pa gs : Nat) (src o : O5) : Prop where
  f : B5s cur gs 61 src
  r : B5 cur (gs + 1) 26 ⟨.slice none 0 0, .slice none 0 0, .slice none 0 0, .int .i64 0, .slice none 0 0⟩
  g : B5 cur (gs + 2) 26 o
  k : KeepO [some pa] w cur
  lt : pa < gs
  w : w.heap.size = gs
theorem OB.keep {w cur cur' : World} {pa gs : Nat} {src o : O5} (h : OB w cur pa gs src o) (kk : KeepO [some pa] cur cur') : OB w cur' pa gs src o :=
  ⟨h.f.keep kk (by have := h.lt; simp; omega), B5.keep h.r kk (by have := h.lt; simp; omega), B5.keep h.g kk (by have := h.lt; simp; omega), h.k.trans kk, h.lt, h.w⟩
theorem OB.drew {w cur : World} {pa gs : Nat} {src o : O5} (h : OB w cur pa gs src o) : OB w cur.drew pa gs src o := h.keep (Below.keepO (Below.refl _ _).drew _)
theorem OB.set {w cur : World} {pa gs i : Nat} {src o o' : O5} {v : Value} (h : OB w cur pa gs src o) (hg : B5 (cur.setCell ⟨gs + 2, i, none⟩ v) (gs + 2) 26 o') : OB w (cur.setCell ⟨gs + 2, i, none⟩ v) pa gs src o' :=
  ⟨B5.other h.f (by omega), h.r.other (by omega), hg, h.k.put (by have := h.w; omega) _ _, h.lt, h.w⟩
theorem Same.drew {lo : Nat} {w : World} : Same lo w w.drew := Same.of (Below.refl _ _).drew
theorem B5s.five {w : World} {g : Nat} {t : TypeId} {a b c d e : Value} (h : B5s w g t ⟨a, b, c, d, e⟩) :
    w.cell? ⟨g, 0, none⟩ = some a ∧ w.cell? ⟨g, 1, none⟩ = some b ∧ w.cell? ⟨g, 2, none⟩ = some c ∧ w.cell? ⟨g, 3, none⟩ = some d ∧ w.cell? ⟨g, 4, none⟩ = some e := B5.facts h

set_option maxHeartbeats 8000000 in
theorem objectM {W w : World} {pb pa ps : Nat} {a : Option Addr} {n c : Nat} {l : List Int} (h : Src W w pb pa ps a n c l 2) (y4 : Value) :
    Calls Try.prog 29 #[.agg #[.func (Fn.func 43) #[] #[.pointer (some ⟨pb, 0, none⟩), .pointer (some ⟨pa, 0, none⟩)], .func (Fn.func 45) #[] #[.pointer (some ⟨pb, 0, none⟩), .pointer (some ⟨pa, 0, none⟩)], .func (Fn.func 47) #[] #[.pointer (some ⟨ps, 0, none⟩), .pointer (some ⟨pa, 0, none⟩)], .func (Fn.func 48) #[] #[.pointer (some ⟨pa, 0, none⟩), .pointer (some ⟨pb, 0, none⟩)], y4]] w fun e w' => ∃ o : O5, e = .returned (.agg #[o.x, o.e, o.i, o.d, o.c]) ∧ (∃ lE lI, OOwn w' w.heap.size o (obL l) lE lI) ∧ Src W w' pb pa ps a n c l (r8 l).2 ∧ KeepO [some pa] w w' := by
  have hby := h.row.2.1
  have HBY : Hid (∀ x ∈ l, 0 ≤ x ∧ x ≤ 255) := hby
  clear hby
  have hpa := lt_of_block h.p
  have hbig0 : Hid (pb < w.heap.size ∧ pa < w.heap.size ∧ ps < w.heap.size ∧ W.heap.size ≤ w.heap.size) := ⟨lt_of_block h.b, lt_of_block h.p, (by obtain ⟨_, _, _, _, e⟩ := h.s; exact lt_of_block e), h.bel.size⟩
  have O0 : Hid (OB w (((w.alloc (.cells #[.func (Fn.func 43) #[] #[.pointer (some ⟨pb, 0, none⟩), .pointer (some ⟨pa, 0, none⟩)], .func (Fn.func 45) #[] #[.pointer (some ⟨pb, 0, none⟩), .pointer (some ⟨pa, 0, none⟩)], .func (Fn.func 47) #[] #[.pointer (some ⟨ps, 0, none⟩), .pointer (some ⟨pa, 0, none⟩)], .func (Fn.func 48) #[] #[.pointer (some ⟨pa, 0, none⟩), .pointer (some ⟨pb, 0, none⟩)], y4] 61 (0, 0))).alloc (.cells #[.slice none 0 0, .slice none 0 0, .slice none 0 0, .int .i64 0, .slice none 0 0] 26 (0, 0))).alloc (.cells #[.slice none 0 0, .slice none 0 0, .slice none 0 0, .int .i64 0, .slice none 0 0] 26 (0, 0))) pa w.heap.size ⟨.func (Fn.func 43) #[] #[.pointer (some ⟨pb, 0, none⟩), .pointer (some ⟨pa, 0, none⟩)], .func (Fn.func 45) #[] #[.pointer (some ⟨pb, 0, none⟩), .pointer (some ⟨pa, 0, none⟩)], .func (Fn.func 47) #[] #[.pointer (some ⟨ps, 0, none⟩), .pointer (some ⟨pa, 0, none⟩)], .func (Fn.func 48) #[] #[.pointer (some ⟨pa, 0, none⟩), .pointer (some ⟨pb, 0, none⟩)], y4⟩ ⟨.slice none 0 0, .slice none 0 0, .slice none 0 0, .int .i64 0, .slice none 0 0⟩) := by
    have f0 := B5s.new w 61 ⟨.func (Fn.func 43) #[] #[.pointer (some ⟨pb, 0, none⟩), .pointer (some ⟨pa, 0, none⟩)], .func (Fn.func 45) #[] #[.pointer (some ⟨pb, 0, none⟩), .pointer (some ⟨pa, 0, none⟩)], .func (Fn.func 47) #[] #[.pointer (some ⟨ps, 0, none⟩), .pointer (some ⟨pa, 0, none⟩)], .func (Fn.func 48) #[] #[.pointer (some ⟨pa, 0, none⟩), .pointer (some ⟨pb, 0, none⟩)], y4⟩
    have r0 := B5.new (w.alloc (.cells #[.func (Fn.func 43) #[] #[.pointer (some ⟨pb, 0, none⟩), .pointer (some ⟨pa, 0, none⟩)], .func (Fn.func 45) #[] #[.pointer (some ⟨pb, 0, none⟩), .pointer (some ⟨pa, 0, none⟩)], .func (Fn.func 47) #[] #[.pointer (some ⟨ps, 0, none⟩), .pointer (some ⟨pa, 0, none⟩)], .func (Fn.func 48) #[] #[.pointer (some ⟨pa, 0, none⟩), .pointer (some ⟨pb, 0, none⟩)], y4] 61 (0, 0))) 26 ⟨.slice none 0 0, .slice none 0 0, .slice none 0 0, .int .i64 0, .slice none 0 0⟩
    have g0 := B5.new ((w.alloc (.cells #[.func (Fn.func 43) #[] #[.pointer (some ⟨pb, 0, none⟩), .pointer (some ⟨pa, 0, none⟩)], .func (Fn.func 45) #[] #[.pointer (some ⟨pb, 0, none⟩), .pointer (some ⟨pa, 0, none⟩)], .func (Fn.func 47) #[] #[.pointer (some ⟨ps, 0, none⟩), .pointer (some ⟨pa, 0, none⟩)], .func (Fn.func 48) #[] #[.pointer (some ⟨pa, 0, none⟩), .pointer (some ⟨pb, 0, none⟩)], y4] 61 (0, 0))).alloc (.cells #[.slice none 0 0, .slice none 0 0, .slice none 0 0, .int .i64 0, .slice none 0 0] 26 (0, 0))) 26 ⟨.slice none 0 0, .slice none 0 0, .slice none 0 0, .int .i64 0, .slice none 0 0⟩
    have e1 : (w.alloc (.cells #[.func (Fn.func 43) #[] #[.pointer (some ⟨pb, 0, none⟩), .pointer (some ⟨pa, 0, none⟩)], .func (Fn.func 45) #[] #[.pointer (some ⟨pb, 0, none⟩), .pointer (some ⟨pa, 0, none⟩)], .func (Fn.func 47) #[] #[.pointer (some ⟨ps, 0, none⟩), .pointer (some ⟨pa, 0, none⟩)], .func (Fn.func 48) #[] #[.pointer (some ⟨pa, 0, none⟩), .pointer (some ⟨pb, 0, none⟩)], y4] 61 (0, 0))).heap.size = w.heap.size + 1 := by simp
    have e2 : ((w.alloc (.cells #[.func (Fn.func 43) #[] #[.pointer (some ⟨pb, 0, none⟩), .pointer (some ⟨pa, 0, none⟩)], .func (Fn.func 45) #[] #[.pointer (some ⟨pb, 0, none⟩), .pointer (some ⟨pa, 0, none⟩)], .func (Fn.func 47) #[] #[.pointer (some ⟨ps, 0, none⟩), .pointer (some ⟨pa, 0, none⟩)], .func (Fn.func 48) #[] #[.pointer (some ⟨pa, 0, none⟩), .pointer (some ⟨pb, 0, none⟩)], y4] 61 (0, 0))).alloc (.cells #[.slice none 0 0, .slice none 0 0, .slice none 0 0, .int .i64 0, .slice none 0 0] 26 (0, 0))).heap.size = w.heap.size + 2 := by simp
    rw [e1] at r0
    rw [e2] at g0
    exact ⟨f0.old.old, r0.old, g0, Below.keepO ((((Below.refl _ _).alloc (Nat.le_refl _) _).alloc (by simp) _).alloc (by simp; omega) _) _, hpa, rfl⟩
  have hsz0 : (((w.alloc (.cells #[.func (Fn.func 43) #[] #[.pointer (some ⟨pb, 0, none⟩), .pointer (some ⟨pa, 0, none⟩)], .func (Fn.func 45) #[] #[.pointer (some ⟨pb, 0, none⟩), .pointer (some ⟨pa, 0, none⟩)], .func (Fn.func 47) #[] #[.pointer (some ⟨ps, 0, none⟩), .pointer (some ⟨pa, 0, none⟩)], .func (Fn.func 48) #[] #[.pointer (some ⟨pa, 0, none⟩), .pointer (some ⟨pb, 0, none⟩)], y4] 61 (0, 0))).alloc (.cells #[.slice none 0 0, .slice none 0 0, .slice none 0 0, .int .i64 0, .slice none 0 0] 26 (0, 0))).alloc (.cells #[.slice none 0 0, .slice none 0 0, .slice none 0 0, .int .i64 0, .slice none 0 0] 26 (0, 0))).heap.size = w.heap.size + 3 := by simp
  have S0 : Hid (Src W (((w.alloc (.cells #[.func (Fn.func 43) #[] #[.pointer (some ⟨pb, 0, none⟩), .pointer (some ⟨pa, 0, none⟩)], .func (Fn.func 45) #[] #[.pointer (some ⟨pb, 0, none⟩), .pointer (some ⟨pa, 0, none⟩)], .func (Fn.func 47) #[] #[.pointer (some ⟨ps, 0, none⟩), .pointer (some ⟨pa, 0, none⟩)], .func (Fn.func 48) #[] #[.pointer (some ⟨pa, 0, none⟩), .pointer (some ⟨pb, 0, none⟩)], y4] 61 (0, 0))).alloc (.cells #[.slice none 0 0, .slice none 0 0, .slice none 0 0, .int .i64 0, .slice none 0 0] 26 (0, 0))).alloc (.cells #[.slice none 0 0, .slice none 0 0, .slice none 0 0, .int .i64 0, .slice none 0 0] 26 (0, 0))) pb pa ps a n c l 2) :=
    h.below ((((Below.refl _ _).alloc (Nat.le_refl _) _).alloc (by simp) _).alloc (by simp; omega) _)
  clear h hpa
  have hmf : ∀ (fn : Fn) (first cap : Array Value) (w : World), (Instr.makeFunc fn first cap).run Try.prog w = .ok (.func fn first cap) w := fun _ _ _ _ => rfl
  go_enter Try.func29, Try.ntmps29
  go_upto_region 2 with fail
  generalize (((w.alloc (.cells #[.func (Fn.func 43) #[] #[.pointer (some ⟨pb, 0, none⟩), .pointer (some ⟨pa, 0, none⟩)], .func (Fn.func 45) #[] #[.pointer (some ⟨pb, 0, none⟩), .pointer (some ⟨pa, 0, none⟩)], .func (Fn.func 47) #[] #[.pointer (some ⟨ps, 0, none⟩), .pointer (some ⟨pa, 0, none⟩)], .func (Fn.func 48) #[] #[.pointer (some ⟨pa, 0, none⟩), .pointer (some ⟨pb, 0, none⟩)], y4] 61 (0, 0))).alloc (.cells #[.slice none 0 0, .slice none 0 0, .slice none 0 0, .int .i64 0, .slice none 0 0] 26 (0, 0))).alloc (.cells #[.slice none 0 0, .slice none 0 0, .slice none 0 0, .int .i64 0, .slice none 0 0] 26 (0, 0))) = w0 at *
  have HZ0 : Hid (w0.heap.size = w.heap.size + 3) := hsz0
  clear hsz0
  generalize hgs : w.heap.size = gs at *
  have HGS : Hid (w.heap.size = gs) := hgs
  clear hgs
  have hbig : pb < gs + 2 ∧ pa < gs + 2 ∧ ps < gs + 2 ∧ W.heap.size ≤ gs + 2 := by have := hbig0.out; omega
  have hpl : pa < gs + 3 := by omega
  have hgl : gs + 2 < gs + 3 := by omega
  have k1 := (B5s.five O0.out.f).2.1
  go_wp2_with fail
  refine (src_textM S0.out).mono ?_
  rintro e w1 ⟨a1, n1, c1, rfl, en, hh, ss, kk⟩
  subst en
  have HN : Hid ((Fd.b (r1 l).1).Has w1 (gs + 3) (.slice a1 (r1 l).1.length c1)) := by have := HZ0.out; rw [this] at hh; exact hh
  have O1 : Hid (OB w w1 pa gs ⟨.func (Fn.func 43) #[] #[.pointer (some ⟨pb, 0, none⟩), .pointer (some ⟨pa, 0, none⟩)], .func (Fn.func 45) #[] #[.pointer (some ⟨pb, 0, none⟩), .pointer (some ⟨pa, 0, none⟩)], .func (Fn.func 47) #[] #[.pointer (some ⟨ps, 0, none⟩), .pointer (some ⟨pa, 0, none⟩)], .func (Fn.func 48) #[] #[.pointer (some ⟨pa, 0, none⟩), .pointer (some ⟨pb, 0, none⟩)], y4⟩ ⟨.slice none 0 0, .slice none 0 0, .slice none 0 0, .int .i64 0, .slice none 0 0⟩) := O0.out.keep kk
  have S1 : Hid (Src W w1 pb pa ps a n c l (r1 l).2) := ss
  have hZ1 : Hid (gs + 3 ≤ w1.heap.size) := by show gs + 3 ≤ w1.heap.size; have := kk.size; have := HZ0.out; omega
  clear hh kk ss S0 O0 k1 HZ0
  obtain ⟨_, _, _, _, _⟩ := O1.out.g.facts
  obtain ⟨f0, f1, f2, f3, f4⟩ := O1.out.g.frozen
  change Hid (Src W w1 pb pa ps a n c l (r1 l).2) at S1
  have e1 : getT l 2 = r1 l := rfl
  rw [e1]
  clear e1
  go_upto_region 3 with fail
  have O2 : Hid (OB w (w1.setCell ⟨gs + 2, 0, none⟩ (.slice a1 (r1 l).1.length c1)) pa gs ⟨.func (Fn.func 43) #[] #[.pointer (some ⟨pb, 0, none⟩), .pointer (some ⟨pa, 0, none⟩)], .func (Fn.func 45) #[] #[.pointer (some ⟨pb, 0, none⟩), .pointer (some ⟨pa, 0, none⟩)], .func (Fn.func 47) #[] #[.pointer (some ⟨ps, 0, none⟩), .pointer (some ⟨pa, 0, none⟩)], .func (Fn.func 48) #[] #[.pointer (some ⟨pa, 0, none⟩), .pointer (some ⟨pb, 0, none⟩)], y4⟩ ⟨.slice a1 (r1 l).1.length c1, .slice none 0 0, .slice none 0 0, .int .i64 0, .slice none 0 0⟩) := O1.out.set (O1.out.g.set0 _)
  have S2 : Hid (Src W (w1.setCell ⟨gs + 2, 0, none⟩ (.slice a1 (r1 l).1.length c1)) pb pa ps a n c l (r1 l).2) := S1.out.other hbig _ _
  have C2 : Hid (Same (gs + 3) w1 (w1.setCell ⟨gs + 2, 0, none⟩ (.slice a1 (r1 l).1.length c1))) := Same.put hgl
  clear O1 S1 f0 f1 f2 f3 f4
  generalize w1.setCell ⟨gs + 2, 0, none⟩ (.slice a1 (r1 l).1.length c1) = w2 at *
  have Od : Hid (OB w w2.drew pa gs ⟨.func (Fn.func 43) #[] #[.pointer (some ⟨pb, 0, none⟩), .pointer (some ⟨pa, 0, none⟩)], .func (Fn.func 45) #[] #[.pointer (some ⟨pb, 0, none⟩), .pointer (some ⟨pa, 0, none⟩)], .func (Fn.func 47) #[] #[.pointer (some ⟨ps, 0, none⟩), .pointer (some ⟨pa, 0, none⟩)], .func (Fn.func 48) #[] #[.pointer (some ⟨pa, 0, none⟩), .pointer (some ⟨pb, 0, none⟩)], y4⟩ ⟨.slice a1 (r1 l).1.length c1, .slice none 0 0, .slice none 0 0, .int .i64 0, .slice none 0 0⟩) := O2.out.drew
  have Sd : Hid (Src W w2.drew pb pa ps a n c l (r1 l).2) := S2.out.below (Below.refl _ _).drew
  have DC2 : Hid (Same (gs + 3) w1 w2.drew) := C2.out.trans Same.drew
  refine wp_region_held_drew (S := fun wx => wx.cell? ⟨gs, 0, none⟩ = some (.func (Fn.func 43) #[] #[.pointer (some ⟨pb, 0, none⟩), .pointer (some ⟨pa, 0, none⟩)]) ∧ wx.cell? ⟨gs, 1, none⟩ = some (.func (Fn.func 45) #[] #[.pointer (some ⟨pb, 0, none⟩), .pointer (some ⟨pa, 0, none⟩)]) ∧ wx.cell? ⟨gs, 2, none⟩ = some (.func (Fn.func 47) #[] #[.pointer (some ⟨ps, 0, none⟩), .pointer (some ⟨pa, 0, none⟩)]) ∧ wx.cell? ⟨gs, 3, none⟩ = some (.func (Fn.func 48) #[] #[.pointer (some ⟨pa, 0, none⟩), .pointer (some ⟨pb, 0, none⟩)]) ∧ wx.cell? ⟨gs, 4, none⟩ = some y4) (by kernel_rfl) (B5s.five Od.out.f) (fun hHeld => ?_)
  clear O2 S2 C2
  generalize w2.drew = wS at *
  refine wpAnyH_take (i := 0) (oi := ?o501) (v := ?v501) ?i501 (by kernel_rfl) (by kernel_rfl) (by kernel_rfl) ?q501 ?y501 (hHeld) ?r501
  case i501 => exact rfl
  case q501 => exact (fun _ _ _ h => h)
  case y501 =>
    refine Or.inl ⟨by rfl, ?_⟩
    intro w hSw
    (try dsimp only at hSw)
    go_simp
    first | done | rfl
  try simp only [Act.put, List.getElem_toArray, List.getElem_cons_zero, List.getElem_cons_succ, List.setIfInBounds_toArray, List.set_cons_zero, List.set_cons_succ]
  refine wpAnyH_take (i := 1) (oi := ?o502) (v := ?v502) ?i502 (by kernel_rfl) (by kernel_rfl) (by kernel_rfl) ?q502 ?y502 (hHeld) ?r502
  case i502 => exact rfl
  case q502 => exact (fun _ _ _ h => h)
  case y502 =>
    refine Or.inl ⟨by rfl, ?_⟩
    intro w hSw
    (try dsimp only at hSw)
    go_simp
    first | done | rfl
  try simp only [Act.put, List.getElem_toArray, List.getElem_cons_zero, List.getElem_cons_succ, List.setIfInBounds_toArray, List.set_cons_zero, List.set_cons_succ]
  refine wpAnyH_take (i := 3) (oi := ?o503) (v := ?v503) ?i503 (by kernel_rfl) (by kernel_rfl) (by kernel_rfl) ?q503 ?y503 (hHeld) ?r503
  case i503 => exact rfl
  case q503 => exact (fun _ _ _ h => h)
  case y503 =>
    refine Or.inl ⟨by rfl, ?_⟩
    intro w hSw
    (try dsimp only at hSw)
    go_simp
    first | done | rfl
  try simp only [Act.put, List.getElem_toArray, List.getElem_cons_zero, List.getElem_cons_succ, List.setIfInBounds_toArray, List.set_cons_zero, List.set_cons_succ]
  refine wpAnyH_take (i := 4) (oi := ?o504) (v := ?v504) ?i504 (by kernel_rfl) (by kernel_rfl) (by kernel_rfl) ?q504 ?y504 (hHeld) ?r504
  case i504 => exact rfl
  case q504 => exact (fun _ _ _ h => h)
  case y504 =>
    refine Or.inl ⟨by rfl, ?_⟩
    intro w hSw
    (try dsimp only at hSw)
    go_simp
    first | done | rfl
  try simp only [Act.put, List.getElem_toArray, List.getElem_cons_zero, List.getElem_cons_succ, List.setIfInBounds_toArray, List.set_cons_zero, List.set_cons_succ]
  refine wpAnyH_ready (rs := [2]) (by kernel_rfl) (by simp) ?_
  refine AllReadyH.cons (i := 2) (o := ?o505) ?i505 (fun K hK => ?_) AllReadyH.nil
  case i505 => exact rfl
  go_simp
  (with_reducible refine (src_countM Sd.out 8).mono ?_)
  rintro e w3 ⟨rfl, ss, kk⟩
  have S3 : Hid (Src W w3 pb pa ps a n c l (r2 l).2) := ss
  have O3 : Hid (OB w w3 pa gs ⟨.func (Fn.func 43) #[] #[.pointer (some ⟨pb, 0, none⟩), .pointer (some ⟨pa, 0, none⟩)], .func (Fn.func 45) #[] #[.pointer (some ⟨pb, 0, none⟩), .pointer (some ⟨pa, 0, none⟩)], .func (Fn.func 47) #[] #[.pointer (some ⟨ps, 0, none⟩), .pointer (some ⟨pa, 0, none⟩)], .func (Fn.func 48) #[] #[.pointer (some ⟨pa, 0, none⟩), .pointer (some ⟨pb, 0, none⟩)], y4⟩ ⟨.slice a1 (r1 l).1.length c1, .slice none 0 0, .slice none 0 0, .int .i64 0, .slice none 0 0⟩) := Od.out.keep kk
  have EC2 : Hid (Same (gs + 3) w1 w3) := DC2.out.trans (kk.same hpl)
  have hcn : Hid (((n2 l : Nat) : Int) = (r2 l).1 ∧ n2 l ≤ 8) := by
    have := cnt_num HBY.out (m := 8) (by decide) (r1 l).2
    show ((n2 l : Nat) : Int) = (r2 l).1 ∧ n2 l ≤ 8
    unfold n2 r2
    omega
  clear ss kk Od Sd DC2
  go_wp2_with fail
  refine hK.out _ _ ((B5s.five O3.out.f)) (fun hHeld => ?_)
  clear hK K
  try simp only [Act.put, List.getElem_toArray, List.getElem_cons_zero, List.getElem_cons_succ, List.setIfInBounds_toArray, List.set_cons_zero, List.set_cons_succ]
  have ec : (cnt l 8 (r1 l).2).1 = ((n2 l : Nat) : Int) := hcn.out.1.symm
  rw [ec]
  clear ec
  refine wpAnyH_ready (rs := [5]) (by kernel_rfl) (by simp) ?_
  refine AllReadyH.cons (i := 5) (o := ?o506) ?i506 (fun K hK => ?_) AllReadyH.nil
  case i506 => exact rfl
  go_simp
  (with_reducible refine (takeEM S3.out _ _ _ (n2 l) hcn.out.2).mono ?_)
  rintro e w4 ⟨a4, c4, lE, rfl, hA, ss, kk⟩
  have A4 : Hid (AL w4 43 w3.heap.size (.slice a4 (n2 l) c4) lE (r3 l).1) := hA
  have S4 : Hid (Src W w4 pb pa ps a n c l (r3 l).2) := ss
  have O4 : Hid (OB w w4 pa gs ⟨.func (Fn.func 43) #[] #[.pointer (some ⟨pb, 0, none⟩), .pointer (some ⟨pa, 0, none⟩)], .func (Fn.func 45) #[] #[.pointer (some ⟨pb, 0, none⟩), .pointer (some ⟨pa, 0, none⟩)], .func (Fn.func 47) #[] #[.pointer (some ⟨ps, 0, none⟩), .pointer (some ⟨pa, 0, none⟩)], .func (Fn.func 48) #[] #[.pointer (some ⟨pa, 0, none⟩), .pointer (some ⟨pb, 0, none⟩)], y4⟩ ⟨.slice a1 (r1 l).1.length c1, .slice none 0 0, .slice none 0 0, .int .i64 0, .slice none 0 0⟩) := O3.out.keep kk
  have GC2 : Hid (Same (gs + 3) w1 w4) := EC2.out.trans (kk.same hpl)
  have Z4 : Hid (w3.heap.size ≤ w4.heap.size) := kk.size
  have ZEC2w3 : Hid (w1.heap.size ≤ w3.heap.size) := EC2.out.size
  clear hA ss kk S3 O3 EC2
  go_wp2_with fail
  refine hK.out _ _ ((B5s.five O4.out.f)) (fun hHeld => ?_)
  clear hK K
  try simp only [Act.put, List.getElem_toArray, List.getElem_cons_zero, List.getElem_cons_succ, List.setIfInBounds_toArray, List.set_cons_zero, List.set_cons_succ]
  refine wpAnyH_take (i := 6) (oi := ?o507) (v := ?v507) ?i507 (by kernel_rfl) (by kernel_rfl) (by kernel_rfl) ?q507 ?y507 (hHeld) ?r507
  case i507 => exact rfl
  case q507 => exact (fun _ _ _ h => h)
  case y507 =>
    refine Or.inl ⟨by rfl, ?_⟩
    intro w hSw
    (try dsimp only at hSw)
    go_simp
    first | done | rfl
  try simp only [Act.put, List.getElem_toArray, List.getElem_cons_zero, List.getElem_cons_succ, List.setIfInBounds_toArray, List.set_cons_zero, List.set_cons_succ]
  obtain ⟨_, _, _, _, _⟩ := O4.out.g.facts
  obtain ⟨f0, f1, f2, f3, f4⟩ := O4.out.g.frozen
  have O5 : Hid (OB w (w4.setCell ⟨gs + 2, 1, none⟩ (.slice a4 (n2 l) c4)) pa gs ⟨.func (Fn.func 43) #[] #[.pointer (some ⟨pb, 0, none⟩), .pointer (some ⟨pa, 0, none⟩)], .func (Fn.func 45) #[] #[.pointer (some ⟨pb, 0, none⟩), .pointer (some ⟨pa, 0, none⟩)], .func (Fn.func 47) #[] #[.pointer (some ⟨ps, 0, none⟩), .pointer (some ⟨pa, 0, none⟩)], .func (Fn.func 48) #[] #[.pointer (some ⟨pa, 0, none⟩), .pointer (some ⟨pb, 0, none⟩)], y4⟩ ⟨.slice a1 (r1 l).1.length c1, .slice a4 (n2 l) c4, .slice none 0 0, .int .i64 0, .slice none 0 0⟩) := O4.out.set (O4.out.g.set1 _)
  have S5 : Hid (Src W (w4.setCell ⟨gs + 2, 1, none⟩ (.slice a4 (n2 l) c4)) pb pa ps a n c l (r3 l).2) := S4.out.other hbig _ _
  have C2 : Hid (Same (gs + 3) w1 (w4.setCell ⟨gs + 2, 1, none⟩ (.slice a4 (n2 l) c4))) := GC2.out.trans (Same.put hgl)
  have C4 : Hid (Same (gs + 3) w4 (w4.setCell ⟨gs + 2, 1, none⟩ (.slice a4 (n2 l) c4))) := Same.put hgl
  refine wpAnyH_ready (rs := [7]) (by kernel_rfl) (by simp) ?_
  refine AllReadyH.cons (i := 7) (o := ?o508) ?i508 (fun K hK => ?_) AllReadyH.nil
  case i508 => exact rfl
  go_simp
  clear f0 f1 f2 f3 f4 O4 S4 GC2
  generalize hW : (w4.setCell ⟨gs + 2, 1, none⟩ (.slice a4 (n2 l) c4)) = w5 at *
  clear hW
  refine hK.out _ _ ((B5s.five O5.out.f)) (fun hHeld => ?_)
  clear hK K
  try simp only [Act.put, List.getElem_toArray, List.getElem_cons_zero, List.getElem_cons_succ, List.setIfInBounds_toArray, List.set_cons_zero, List.set_cons_succ]
  refine wpAnyH_done (by kernel_rfl) ?_ _
  go_upto_region 4 with fail
  have Od : Hid (OB w w5.drew pa gs ⟨.func (Fn.func 43) #[] #[.pointer (some ⟨pb, 0, none⟩), .pointer (some ⟨pa, 0, none⟩)], .func (Fn.func 45) #[] #[.pointer (some ⟨pb, 0, none⟩), .pointer (some ⟨pa, 0, none⟩)], .func (Fn.func 47) #[] #[.pointer (some ⟨ps, 0, none⟩), .pointer (some ⟨pa, 0, none⟩)], .func (Fn.func 48) #[] #[.pointer (some ⟨pa, 0, none⟩), .pointer (some ⟨pb, 0, none⟩)], y4⟩ ⟨.slice a1 (r1 l).1.length c1, .slice a4 (n2 l) c4, .slice none 0 0, .int .i64 0, .slice none 0 0⟩) := O5.out.drew
  have Sd : Hid (Src W w5.drew pb pa ps a n c l (r3 l).2) := S5.out.below (Below.refl _ _).drew
  have DC2 : Hid (Same (gs + 3) w1 w5.drew) := C2.out.trans Same.drew
  have DC4 : Hid (Same (gs + 3) w4 w5.drew) := C4.out.trans Same.drew
  refine wp_region_held_drew (S := fun wx => wx.cell? ⟨gs, 0, none⟩ = some (.func (Fn.func 43) #[] #[.pointer (some ⟨pb, 0, none⟩), .pointer (some ⟨pa, 0, none⟩)]) ∧ wx.cell? ⟨gs, 1, none⟩ = some (.func (Fn.func 45) #[] #[.pointer (some ⟨pb, 0, none⟩), .pointer (some ⟨pa, 0, none⟩)]) ∧ wx.cell? ⟨gs, 2, none⟩ = some (.func (Fn.func 47) #[] #[.pointer (some ⟨ps, 0, none⟩), .pointer (some ⟨pa, 0, none⟩)]) ∧ wx.cell? ⟨gs, 3, none⟩ = some (.func (Fn.func 48) #[] #[.pointer (some ⟨pa, 0, none⟩), .pointer (some ⟨pb, 0, none⟩)]) ∧ wx.cell? ⟨gs, 4, none⟩ = some y4) (by kernel_rfl) (B5s.five Od.out.f) (fun hHeld => ?_)
  clear O5 S5 C2 C4
  generalize w5.drew = wT at *
  refine wpAnyH_take (i := 0) (oi := ?o509) (v := ?v509) ?i509 (by kernel_rfl) (by kernel_rfl) (by kernel_rfl) ?q509 ?y509 (hHeld) ?r509
  case i509 => exact rfl
  case q509 => exact (fun _ _ _ h => h)
  case y509 =>
    refine Or.inl ⟨by rfl, ?_⟩
    intro w hSw
    (try dsimp only at hSw)
    go_simp
    first | done | rfl
  try simp only [Act.put, List.getElem_toArray, List.getElem_cons_zero, List.getElem_cons_succ, List.setIfInBounds_toArray, List.set_cons_zero, List.set_cons_succ]
  refine wpAnyH_take (i := 1) (oi := ?o510) (v := ?v510) ?i510 (by kernel_rfl) (by kernel_rfl) (by kernel_rfl) ?q510 ?y510 (hHeld) ?r510
  case i510 => exact rfl
  case q510 => exact (fun _ _ _ h => h)
  case y510 =>
    refine Or.inl ⟨by rfl, ?_⟩
    intro w hSw
    (try dsimp only at hSw)
    go_simp
    first | done | rfl
  try simp only [Act.put, List.getElem_toArray, List.getElem_cons_zero, List.getElem_cons_succ, List.setIfInBounds_toArray, List.set_cons_zero, List.set_cons_succ]
  refine wpAnyH_take (i := 3) (oi := ?o511) (v := ?v511) ?i511 (by kernel_rfl) (by kernel_rfl) (by kernel_rfl) ?q511 ?y511 (hHeld) ?r511
  case i511 => exact rfl
  case q511 => exact (fun _ _ _ h => h)
  case y511 =>
    refine Or.inl ⟨by rfl, ?_⟩
    intro w hSw
    (try dsimp only at hSw)
    go_simp
    first | done | rfl
  try simp only [Act.put, List.getElem_toArray, List.getElem_cons_zero, List.getElem_cons_succ, List.setIfInBounds_toArray, List.set_cons_zero, List.set_cons_succ]
  refine wpAnyH_take (i := 4) (oi := ?o512) (v := ?v512) ?i512 (by kernel_rfl) (by kernel_rfl) (by kernel_rfl) ?q512 ?y512 (hHeld) ?r512
  case i512 => exact rfl
  case q512 => exact (fun _ _ _ h => h)
  case y512 =>
    refine Or.inl ⟨by rfl, ?_⟩
    intro w hSw
    (try dsimp only at hSw)
    go_simp
    first | done | rfl
  try simp only [Act.put, List.getElem_toArray, List.getElem_cons_zero, List.getElem_cons_succ, List.setIfInBounds_toArray, List.set_cons_zero, List.set_cons_succ]
  refine wpAnyH_ready (rs := [2]) (by kernel_rfl) (by simp) ?_
  refine AllReadyH.cons (i := 2) (o := ?o513) ?i513 (fun K hK => ?_) AllReadyH.nil
  case i513 => exact rfl
  go_simp
  (with_reducible refine (src_countM Sd.out 8).mono ?_)
  rintro e w6 ⟨rfl, ss, kk⟩
  have S6 : Hid (Src W w6 pb pa ps a n c l (r4 l).2) := ss
  have O6 : Hid (OB w w6 pa gs ⟨.func (Fn.func 43) #[] #[.pointer (some ⟨pb, 0, none⟩), .pointer (some ⟨pa, 0, none⟩)], .func (Fn.func 45) #[] #[.pointer (some ⟨pb, 0, none⟩), .pointer (some ⟨pa, 0, none⟩)], .func (Fn.func 47) #[] #[.pointer (some ⟨ps, 0, none⟩), .pointer (some ⟨pa, 0, none⟩)], .func (Fn.func 48) #[] #[.pointer (some ⟨pa, 0, none⟩), .pointer (some ⟨pb, 0, none⟩)], y4⟩ ⟨.slice a1 (r1 l).1.length c1, .slice a4 (n2 l) c4, .slice none 0 0, .int .i64 0, .slice none 0 0⟩) := Od.out.keep kk
  have EC2 : Hid (Same (gs + 3) w1 w6) := DC2.out.trans (kk.same hpl)
  have EC4 : Hid (Same (gs + 3) w4 w6) := DC4.out.trans (kk.same hpl)
  have hcn : Hid (((n4 l : Nat) : Int) = (r4 l).1 ∧ n4 l ≤ 8) := by
    have := cnt_num HBY.out (m := 8) (by decide) (r3 l).2
    show ((n4 l : Nat) : Int) = (r4 l).1 ∧ n4 l ≤ 8
    unfold n4 r4
    omega
  clear ss kk Od Sd DC2 DC4
  go_wp2_with fail
  refine hK.out _ _ ((B5s.five O6.out.f)) (fun hHeld => ?_)
  clear hK K
  try simp only [Act.put, List.getElem_toArray, List.getElem_cons_zero, List.getElem_cons_succ, List.setIfInBounds_toArray, List.set_cons_zero, List.set_cons_succ]
  have ec : (cnt l 8 (r3 l).2).1 = ((n4 l : Nat) : Int) := hcn.out.1.symm
  rw [ec]
  clear ec
  refine wpAnyH_ready (rs := [5]) (by kernel_rfl) (by simp) ?_
  refine AllReadyH.cons (i := 5) (o := ?o514) ?i514 (fun K hK => ?_) AllReadyH.nil
  case i514 => exact rfl
  go_simp
  (with_reducible refine (takeMM S6.out _ _ _ (n4 l) hcn.out.2).mono ?_)
  rintro e w7 ⟨a7, c7, lI, rfl, hA, ss, kk⟩
  have A7 : Hid (AL w7 47 w6.heap.size (.slice a7 (n4 l) c7) lI (r5 l).1) := hA
  have S7 : Hid (Src W w7 pb pa ps a n c l (r5 l).2) := ss
  have O7 : Hid (OB w w7 pa gs ⟨.func (Fn.func 43) #[] #[.pointer (some ⟨pb, 0, none⟩), .pointer (some ⟨pa, 0, none⟩)], .func (Fn.func 45) #[] #[.pointer (some ⟨pb, 0, none⟩), .pointer (some ⟨pa, 0, none⟩)], .func (Fn.func 47) #[] #[.pointer (some ⟨ps, 0, none⟩), .pointer (some ⟨pa, 0, none⟩)], .func (Fn.func 48) #[] #[.pointer (some ⟨pa, 0, none⟩), .pointer (some ⟨pb, 0, none⟩)], y4⟩ ⟨.slice a1 (r1 l).1.length c1, .slice a4 (n2 l) c4, .slice none 0 0, .int .i64 0, .slice none 0 0⟩) := O6.out.keep kk
  have GC2 : Hid (Same (gs + 3) w1 w7) := EC2.out.trans (kk.same hpl)
  have GC4 : Hid (Same (gs + 3) w4 w7) := EC4.out.trans (kk.same hpl)
  have Z7 : Hid (w6.heap.size ≤ w7.heap.size) := kk.size
  have ZEC2w6 : Hid (w1.heap.size ≤ w6.heap.size) := EC2.out.size
  have ZEC4w6 : Hid (w4.heap.size ≤ w6.heap.size) := EC4.out.size
  clear hA ss kk S6 O6 EC2 EC4
  go_wp2_with fail
  refine hK.out _ _ ((B5s.five O7.out.f)) (fun hHeld => ?_)
  clear hK K
  try simp only [Act.put, List.getElem_toArray, List.getElem_cons_zero, List.getElem_cons_succ, List.setIfInBounds_toArray, List.set_cons_zero, List.set_cons_succ]
  refine wpAnyH_take (i := 6) (oi := ?o515) (v := ?v515) ?i515 (by kernel_rfl) (by kernel_rfl) (by kernel_rfl) ?q515 ?y515 (hHeld) ?r515
  case i515 => exact rfl
  case q515 => exact (fun _ _ _ h => h)
  case y515 =>
    refine Or.inl ⟨by rfl, ?_⟩
    intro w hSw
    (try dsimp only at hSw)
    go_simp
    first | done | rfl
  try simp only [Act.put, List.getElem_toArray, List.getElem_cons_zero, List.getElem_cons_succ, List.setIfInBounds_toArray, List.set_cons_zero, List.set_cons_succ]
  obtain ⟨_, _, _, _, _⟩ := O7.out.g.facts
  obtain ⟨f0, f1, f2, f3, f4⟩ := O7.out.g.frozen
  have O8 : Hid (OB w (w7.setCell ⟨gs + 2, 2, none⟩ (.slice a7 (n4 l) c7)) pa gs ⟨.func (Fn.func 43) #[] #[.pointer (some ⟨pb, 0, none⟩), .pointer (some ⟨pa, 0, none⟩)], .func (Fn.func 45) #[] #[.pointer (some ⟨pb, 0, none⟩), .pointer (some ⟨pa, 0, none⟩)], .func (Fn.func 47) #[] #[.pointer (some ⟨ps, 0, none⟩), .pointer (some ⟨pa, 0, none⟩)], .func (Fn.func 48) #[] #[.pointer (some ⟨pa, 0, none⟩), .pointer (some ⟨pb, 0, none⟩)], y4⟩ ⟨.slice a1 (r1 l).1.length c1, .slice a4 (n2 l) c4, .slice a7 (n4 l) c7, .int .i64 0, .slice none 0 0⟩) := O7.out.set (O7.out.g.set2 _)
  have S8 : Hid (Src W (w7.setCell ⟨gs + 2, 2, none⟩ (.slice a7 (n4 l) c7)) pb pa ps a n c l (r5 l).2) := S7.out.other hbig _ _
  have C2 : Hid (Same (gs + 3) w1 (w7.setCell ⟨gs + 2, 2, none⟩ (.slice a7 (n4 l) c7))) := GC2.out.trans (Same.put hgl)
  have C4 : Hid (Same (gs + 3) w4 (w7.setCell ⟨gs + 2, 2, none⟩ (.slice a7 (n4 l) c7))) := GC4.out.trans (Same.put hgl)
  have C7 : Hid (Same (gs + 3) w7 (w7.setCell ⟨gs + 2, 2, none⟩ (.slice a7 (n4 l) c7))) := Same.put hgl
  refine wpAnyH_ready (rs := [7]) (by kernel_rfl) (by simp) ?_
  refine AllReadyH.cons (i := 7) (o := ?o516) ?i516 (fun K hK => ?_) AllReadyH.nil
  case i516 => exact rfl
  go_simp
  clear f0 f1 f2 f3 f4 O7 S7 GC2 GC4
  generalize hW : (w7.setCell ⟨gs + 2, 2, none⟩ (.slice a7 (n4 l) c7)) = w8 at *
  clear hW
  refine hK.out _ _ ((B5s.five O8.out.f)) (fun hHeld => ?_)
  clear hK K
  try simp only [Act.put, List.getElem_toArray, List.getElem_cons_zero, List.getElem_cons_succ, List.setIfInBounds_toArray, List.set_cons_zero, List.set_cons_succ]
  refine wpAnyH_done (by kernel_rfl) ?_ _
  have k1 := (B5s.five O8.out.f).1
  go_wp2_with fail
  refine (src_numM S8.out).mono ?_
  rintro e w9 ⟨rfl, ss, kk⟩
  have S9 : Hid (Src W w9 pb pa ps a n c l (r6 l).2) := ss
  have O9 : Hid (OB w w9 pa gs ⟨.func (Fn.func 43) #[] #[.pointer (some ⟨pb, 0, none⟩), .pointer (some ⟨pa, 0, none⟩)], .func (Fn.func 45) #[] #[.pointer (some ⟨pb, 0, none⟩), .pointer (some ⟨pa, 0, none⟩)], .func (Fn.func 47) #[] #[.pointer (some ⟨ps, 0, none⟩), .pointer (some ⟨pa, 0, none⟩)], .func (Fn.func 48) #[] #[.pointer (some ⟨pa, 0, none⟩), .pointer (some ⟨pb, 0, none⟩)], y4⟩ ⟨.slice a1 (r1 l).1.length c1, .slice a4 (n2 l) c4, .slice a7 (n4 l) c7, .int .i64 0, .slice none 0 0⟩) := O8.out.keep kk
  have DC2 : Hid (Same (gs + 3) w1 w9) := C2.out.trans (kk.same hpl)
  have DC4 : Hid (Same (gs + 3) w4 w9) := C4.out.trans (kk.same hpl)
  have DC7 : Hid (Same (gs + 3) w7 w9) := C7.out.trans (kk.same hpl)
  clear ss kk k1 O8 S8 C2 C4 C7
  obtain ⟨_, _, _, _, _⟩ := O9.out.g.facts
  obtain ⟨f0, f1, f2, f3, f4⟩ := O9.out.g.frozen
  have e1 : getL l (r5 l).2 = r6 l := rfl
  rw [e1]
  clear e1
  go_upto_region 6 with fail
  have O10 : Hid (OB w (w9.setCell ⟨gs + 2, 3, none⟩ (.int .i64 (r6 l).1)) pa gs ⟨.func (Fn.func 43) #[] #[.pointer (some ⟨pb, 0, none⟩), .pointer (some ⟨pa, 0, none⟩)], .func (Fn.func 45) #[] #[.pointer (some ⟨pb, 0, none⟩), .pointer (some ⟨pa, 0, none⟩)], .func (Fn.func 47) #[] #[.pointer (some ⟨ps, 0, none⟩), .pointer (some ⟨pa, 0, none⟩)], .func (Fn.func 48) #[] #[.pointer (some ⟨pa, 0, none⟩), .pointer (some ⟨pb, 0, none⟩)], y4⟩ ⟨.slice a1 (r1 l).1.length c1, .slice a4 (n2 l) c4, .slice a7 (n4 l) c7, .int .i64 (r6 l).1, .slice none 0 0⟩) := O9.out.set (O9.out.g.set3 _)
  have S10 : Hid (Src W (w9.setCell ⟨gs + 2, 3, none⟩ (.int .i64 (r6 l).1)) pb pa ps a n c l (r6 l).2) := S9.out.other hbig _ _
  have C2 : Hid (Same (gs + 3) w1 (w9.setCell ⟨gs + 2, 3, none⟩ (.int .i64 (r6 l).1))) := DC2.out.trans (Same.put hgl)
  have C4 : Hid (Same (gs + 3) w4 (w9.setCell ⟨gs + 2, 3, none⟩ (.int .i64 (r6 l).1))) := DC4.out.trans (Same.put hgl)
  have C7 : Hid (Same (gs + 3) w7 (w9.setCell ⟨gs + 2, 3, none⟩ (.int .i64 (r6 l).1))) := DC7.out.trans (Same.put hgl)
  clear O9 S9 DC2 DC4 DC7 f0 f1 f2 f3 f4
  generalize (w9.setCell ⟨gs + 2, 3, none⟩ (.int .i64 (r6 l).1)) = w10 at *
  have Od : Hid (OB w w10.drew pa gs ⟨.func (Fn.func 43) #[] #[.pointer (some ⟨pb, 0, none⟩), .pointer (some ⟨pa, 0, none⟩)], .func (Fn.func 45) #[] #[.pointer (some ⟨pb, 0, none⟩), .pointer (some ⟨pa, 0, none⟩)], .func (Fn.func 47) #[] #[.pointer (some ⟨ps, 0, none⟩), .pointer (some ⟨pa, 0, none⟩)], .func (Fn.func 48) #[] #[.pointer (some ⟨pa, 0, none⟩), .pointer (some ⟨pb, 0, none⟩)], y4⟩ ⟨.slice a1 (r1 l).1.length c1, .slice a4 (n2 l) c4, .slice a7 (n4 l) c7, .int .i64 (r6 l).1, .slice none 0 0⟩) := O10.out.drew
  have Sd : Hid (Src W w10.drew pb pa ps a n c l (r6 l).2) := S10.out.below (Below.refl _ _).drew
  have DC2 : Hid (Same (gs + 3) w1 w10.drew) := C2.out.trans Same.drew
  have DC4 : Hid (Same (gs + 3) w4 w10.drew) := C4.out.trans Same.drew
  have DC7 : Hid (Same (gs + 3) w7 w10.drew) := C7.out.trans Same.drew
  refine wp_region_held_drew (S := fun wx => wx.cell? ⟨gs, 0, none⟩ = some (.func (Fn.func 43) #[] #[.pointer (some ⟨pb, 0, none⟩), .pointer (some ⟨pa, 0, none⟩)]) ∧ wx.cell? ⟨gs, 1, none⟩ = some (.func (Fn.func 45) #[] #[.pointer (some ⟨pb, 0, none⟩), .pointer (some ⟨pa, 0, none⟩)]) ∧ wx.cell? ⟨gs, 2, none⟩ = some (.func (Fn.func 47) #[] #[.pointer (some ⟨ps, 0, none⟩), .pointer (some ⟨pa, 0, none⟩)]) ∧ wx.cell? ⟨gs, 3, none⟩ = some (.func (Fn.func 48) #[] #[.pointer (some ⟨pa, 0, none⟩), .pointer (some ⟨pb, 0, none⟩)]) ∧ wx.cell? ⟨gs, 4, none⟩ = some y4) (by kernel_rfl) (B5s.five Od.out.f) (fun hHeld => ?_)
  clear O10 S10 C2 C4 C7
  generalize w10.drew = wU at *
  refine wpAnyH_take (i := 0) (oi := ?o517) (v := ?v517) ?i517 (by kernel_rfl) (by kernel_rfl) (by kernel_rfl) ?q517 ?y517 (hHeld) ?r517
  case i517 => exact rfl
  case q517 => exact (fun _ _ _ h => h)
  case y517 =>
    refine Or.inl ⟨by rfl, ?_⟩
    intro w hSw
    (try dsimp only at hSw)
    go_simp
    first | done | rfl
  try simp only [Act.put, List.getElem_toArray, List.getElem_cons_zero, List.getElem_cons_succ, List.setIfInBounds_toArray, List.set_cons_zero, List.set_cons_succ]
  refine wpAnyH_take (i := 1) (oi := ?o518) (v := ?v518) ?i518 (by kernel_rfl) (by kernel_rfl) (by kernel_rfl) ?q518 ?y518 (hHeld) ?r518
  case i518 => exact rfl
  case q518 => exact (fun _ _ _ h => h)
  case y518 =>
    refine Or.inl ⟨by rfl, ?_⟩
    intro w hSw
    (try dsimp only at hSw)
    go_simp
    first | done | rfl
  try simp only [Act.put, List.getElem_toArray, List.getElem_cons_zero, List.getElem_cons_succ, List.setIfInBounds_toArray, List.set_cons_zero, List.set_cons_succ]
  refine wpAnyH_take (i := 2) (oi := ?o519) (v := ?v519) ?i519 (by kernel_rfl) (by kernel_rfl) (by kernel_rfl) ?q519 ?y519 (hHeld) ?r519
  case i519 => exact rfl
  case q519 => exact (fun _ _ _ h => h)
  case y519 =>
    refine Or.inl ⟨by rfl, ?_⟩
    intro w hSw
    (try dsimp only at hSw)
    go_simp
    first | done | rfl
  try simp only [Act.put, List.getElem_toArray, List.getElem_cons_zero, List.getElem_cons_succ, List.setIfInBounds_toArray, List.set_cons_zero, List.set_cons_succ]
  refine wpAnyH_take (i := 3) (oi := ?o520) (v := ?v520) ?i520 (by kernel_rfl) (by kernel_rfl) (by kernel_rfl) ?q520 ?y520 (hHeld) ?r520
  case i520 => exact rfl
  case q520 => exact (fun _ _ _ h => h)
  case y520 =>
    refine Or.inl ⟨by rfl, ?_⟩
    intro w hSw
    (try dsimp only at hSw)
    go_simp
    first | done | rfl
  try simp only [Act.put, List.getElem_toArray, List.getElem_cons_zero, List.getElem_cons_succ, List.setIfInBounds_toArray, List.set_cons_zero, List.set_cons_succ]
  refine wpAnyH_ready (rs := [4]) (by kernel_rfl) (by simp) ?_
  refine AllReadyH.cons (i := 4) (o := ?o521) ?i521 (fun K hK => ?_) AllReadyH.nil
  case i521 => exact rfl
  go_simp
  (with_reducible refine (src_countM Sd.out 9000).mono ?_)
  rintro e w11 ⟨rfl, ss, kk⟩
  have S11 : Hid (Src W w11 pb pa ps a n c l (r7 l).2) := ss
  have O11 : Hid (OB w w11 pa gs ⟨.func (Fn.func 43) #[] #[.pointer (some ⟨pb, 0, none⟩), .pointer (some ⟨pa, 0, none⟩)], .func (Fn.func 45) #[] #[.pointer (some ⟨pb, 0, none⟩), .pointer (some ⟨pa, 0, none⟩)], .func (Fn.func 47) #[] #[.pointer (some ⟨ps, 0, none⟩), .pointer (some ⟨pa, 0, none⟩)], .func (Fn.func 48) #[] #[.pointer (some ⟨pa, 0, none⟩), .pointer (some ⟨pb, 0, none⟩)], y4⟩ ⟨.slice a1 (r1 l).1.length c1, .slice a4 (n2 l) c4, .slice a7 (n4 l) c7, .int .i64 (r6 l).1, .slice none 0 0⟩) := Od.out.keep kk
  have EC2 : Hid (Same (gs + 3) w1 w11) := DC2.out.trans (kk.same hpl)
  have EC4 : Hid (Same (gs + 3) w4 w11) := DC4.out.trans (kk.same hpl)
  have EC7 : Hid (Same (gs + 3) w7 w11) := DC7.out.trans (kk.same hpl)
  have hcn : Hid (((n7 l : Nat) : Int) = (r7 l).1 ∧ n7 l ≤ 9000) := by
    have := cnt_num HBY.out (m := 9000) (by decide) (r6 l).2
    show ((n7 l : Nat) : Int) = (r7 l).1 ∧ n7 l ≤ 9000
    unfold n7 r7
    omega
  have hA7 : Hid (At l (r7 l).2) := cnt_at HBY.out 9000 (r6 l).2
  have h8 : Hid (byL l ((n7 l : Nat) : Int) (r7 l).2 = r8 l) := by show _ = _; rw [hcn.out.1]; rfl
  clear ss kk Od Sd DC2 DC4 DC7
  go_wp2_with fail
  refine hK.out _ _ ((B5s.five O11.out.f)) (fun hHeld => ?_)
  clear hK K
  try simp only [Act.put, List.getElem_toArray, List.getElem_cons_zero, List.getElem_cons_succ, List.setIfInBounds_toArray, List.set_cons_zero, List.set_cons_succ]
  have ec : (cnt l 9000 (r6 l).2).1 = ((n7 l : Nat) : Int) := hcn.out.1.symm
  rw [ec]
  clear ec
  refine wpAnyH_ready (rs := [5]) (by kernel_rfl) (by simp) ?_
  refine AllReadyH.cons (i := 5) (o := ?o522) ?i522 (fun K hK => ?_) AllReadyH.nil
  case i522 => exact rfl
  go_simp
  (with_reducible refine (src_bytesM S11.out hA7.out (n7 l) hcn.out.2).mono ?_)
  rintro e w12 ⟨a12, n12, c12, rfl, en, hH, ss, kk⟩
  rw [h8.out] at en hH ss
  subst en
  have HCD : Hid ((Fd.b (r8 l).1).Has w12 w11.heap.size (.slice a12 (r8 l).1.length c12)) := hH
  have S12 : Hid (Src W w12 pb pa ps a n c l (r8 l).2) := ss
  have O12 : Hid (OB w w12 pa gs ⟨.func (Fn.func 43) #[] #[.pointer (some ⟨pb, 0, none⟩), .pointer (some ⟨pa, 0, none⟩)], .func (Fn.func 45) #[] #[.pointer (some ⟨pb, 0, none⟩), .pointer (some ⟨pa, 0, none⟩)], .func (Fn.func 47) #[] #[.pointer (some ⟨ps, 0, none⟩), .pointer (some ⟨pa, 0, none⟩)], .func (Fn.func 48) #[] #[.pointer (some ⟨pa, 0, none⟩), .pointer (some ⟨pb, 0, none⟩)], y4⟩ ⟨.slice a1 (r1 l).1.length c1, .slice a4 (n2 l) c4, .slice a7 (n4 l) c7, .int .i64 (r6 l).1, .slice none 0 0⟩) := O11.out.keep kk
  have GC2 : Hid (Same (gs + 3) w1 w12) := EC2.out.trans (kk.same hpl)
  have GC4 : Hid (Same (gs + 3) w4 w12) := EC4.out.trans (kk.same hpl)
  have GC7 : Hid (Same (gs + 3) w7 w12) := EC7.out.trans (kk.same hpl)
  have Z12 : Hid (w11.heap.size ≤ w12.heap.size) := kk.size
  have Z711 : Hid (w7.heap.size ≤ w11.heap.size) := EC7.out.size
  clear hH ss kk S11 O11 EC2 EC4 EC7
  go_wp2_with fail
  refine hK.out _ _ ((B5s.five O12.out.f)) (fun hHeld => ?_)
  clear hK K
  try simp only [Act.put, List.getElem_toArray, List.getElem_cons_zero, List.getElem_cons_succ, List.setIfInBounds_toArray, List.set_cons_zero, List.set_cons_succ]
  refine wpAnyH_take (i := 6) (oi := ?o523) (v := ?v523) ?i523 (by kernel_rfl) (by kernel_rfl) (by kernel_rfl) ?q523 ?y523 (hHeld) ?r523
  case i523 => exact rfl
  case q523 => exact (fun _ _ _ h => h)
  case y523 =>
    refine Or.inl ⟨by rfl, ?_⟩
    intro w hSw
    (try dsimp only at hSw)
    go_simp
    first | done | rfl
  try simp only [Act.put, List.getElem_toArray, List.getElem_cons_zero, List.getElem_cons_succ, List.setIfInBounds_toArray, List.set_cons_zero, List.set_cons_succ]
  obtain ⟨_, _, _, _, _⟩ := O12.out.g.facts
  obtain ⟨f0, f1, f2, f3, f4⟩ := O12.out.g.frozen
  have O13 : Hid (OB w (w12.setCell ⟨gs + 2, 4, none⟩ (.slice a12 (r8 l).1.length c12)) pa gs ⟨.func (Fn.func 43) #[] #[.pointer (some ⟨pb, 0, none⟩), .pointer (some ⟨pa, 0, none⟩)], .func (Fn.func 45) #[] #[.pointer (some ⟨pb, 0, none⟩), .pointer (some ⟨pa, 0, none⟩)], .func (Fn.func 47) #[] #[.pointer (some ⟨ps, 0, none⟩), .pointer (some ⟨pa, 0, none⟩)], .func (Fn.func 48) #[] #[.pointer (some ⟨pa, 0, none⟩), .pointer (some ⟨pb, 0, none⟩)], y4⟩ ⟨.slice a1 (r1 l).1.length c1, .slice a4 (n2 l) c4, .slice a7 (n4 l) c7, .int .i64 (r6 l).1, .slice a12 (r8 l).1.length c12⟩) := O12.out.set (O12.out.g.set4 _)
  have S13 : Hid (Src W (w12.setCell ⟨gs + 2, 4, none⟩ (.slice a12 (r8 l).1.length c12)) pb pa ps a n c l (r8 l).2) := S12.out.other hbig _ _
  have C2 : Hid (Same (gs + 3) w1 (w12.setCell ⟨gs + 2, 4, none⟩ (.slice a12 (r8 l).1.length c12))) := GC2.out.trans (Same.put hgl)
  have C4 : Hid (Same (gs + 3) w4 (w12.setCell ⟨gs + 2, 4, none⟩ (.slice a12 (r8 l).1.length c12))) := GC4.out.trans (Same.put hgl)
  have C7 : Hid (Same (gs + 3) w7 (w12.setCell ⟨gs + 2, 4, none⟩ (.slice a12 (r8 l).1.length c12))) := GC7.out.trans (Same.put hgl)
  have C12 : Hid (Same (gs + 3) w12 (w12.setCell ⟨gs + 2, 4, none⟩ (.slice a12 (r8 l).1.length c12))) := Same.put hgl
  refine wpAnyH_ready (rs := [7]) (by kernel_rfl) (by simp) ?_
  refine AllReadyH.cons (i := 7) (o := ?o524) ?i524 (fun K hK => ?_) AllReadyH.nil
  case i524 => exact rfl
  go_simp
  clear f0 f1 f2 f3 f4 O12 S12 GC2 GC4 GC7
  generalize hW : (w12.setCell ⟨gs + 2, 4, none⟩ (.slice a12 (r8 l).1.length c12)) = w13 at *
  clear hW
  refine hK.out _ _ ((B5s.five O13.out.f)) (fun hHeld => ?_)
  clear hK K
  try simp only [Act.put, List.getElem_toArray, List.getElem_cons_zero, List.getElem_cons_succ, List.setIfInBounds_toArray, List.set_cons_zero, List.set_cons_succ]
  refine wpAnyH_done (by kernel_rfl) ?_ _
  obtain ⟨q0, q1, q2, q3, q4⟩ := O13.out.g.facts
  obtain ⟨p0, p1, p2, p3, p4⟩ := O13.out.r.facts
  obtain ⟨f0, f1, f2, f3, f4⟩ := O13.out.r.frozen
  simp only at q0 q1 q2 q3 q4
  go_wp2_with fail
  clear q0 q1 q2 q3 q4 p0 p1 p2 p3 p4 f0 f1 f2 f3 f4
  have hbig1 : pb < gs + 1 ∧ pa < gs + 1 ∧ ps < gs + 1 ∧ W.heap.size ≤ gs + 1 := by have := hbig0.out; omega
  have hl1 : gs + 1 < gs + 3 := by omega
  have hgw : w.heap.size ≤ gs + 1 := by have := HGS.out; omega
  have R14 : B5 (((((w13.setCell ⟨gs + 1, 0, none⟩ (.slice a1 (r1 l).1.length c1)).setCell ⟨gs + 1, 1, none⟩ (.slice a4 (n2 l) c4)).setCell ⟨gs + 1, 2, none⟩ (.slice a7 (n4 l) c7)).setCell ⟨gs + 1, 3, none⟩ (.int .i64 (r6 l).1)).setCell ⟨gs + 1, 4, none⟩ (.slice a12 (r8 l).1.length c12)) (gs + 1) 26 ⟨.slice a1 (r1 l).1.length c1, .slice a4 (n2 l) c4, .slice a7 (n4 l) c7, .int .i64 (r6 l).1, .slice a12 (r8 l).1.length c12⟩ := ((((O13.out.r.set0 _).set1 _).set2 _).set3 _).set4 _
  have S14 : Src W (((((w13.setCell ⟨gs + 1, 0, none⟩ (.slice a1 (r1 l).1.length c1)).setCell ⟨gs + 1, 1, none⟩ (.slice a4 (n2 l) c4)).setCell ⟨gs + 1, 2, none⟩ (.slice a7 (n4 l) c7)).setCell ⟨gs + 1, 3, none⟩ (.int .i64 (r6 l).1)).setCell ⟨gs + 1, 4, none⟩ (.slice a12 (r8 l).1.length c12)) pb pa ps a n c l (r8 l).2 := ((((S13.out.other hbig1 _ _).other hbig1 _ _).other hbig1 _ _).other hbig1 _ _).other hbig1 _ _
  have K14 : KeepO [some pa] w (((((w13.setCell ⟨gs + 1, 0, none⟩ (.slice a1 (r1 l).1.length c1)).setCell ⟨gs + 1, 1, none⟩ (.slice a4 (n2 l) c4)).setCell ⟨gs + 1, 2, none⟩ (.slice a7 (n4 l) c7)).setCell ⟨gs + 1, 3, none⟩ (.int .i64 (r6 l).1)).setCell ⟨gs + 1, 4, none⟩ (.slice a12 (r8 l).1.length c12)) := ((((O13.out.k.put hgw _ _).put hgw _ _).put hgw _ _).put hgw _ _).put hgw _ _
  have C14 : Same (gs + 3) w13 (((((w13.setCell ⟨gs + 1, 0, none⟩ (.slice a1 (r1 l).1.length c1)).setCell ⟨gs + 1, 1, none⟩ (.slice a4 (n2 l) c4)).setCell ⟨gs + 1, 2, none⟩ (.slice a7 (n4 l) c7)).setCell ⟨gs + 1, 3, none⟩ (.int .i64 (r6 l).1)).setCell ⟨gs + 1, 4, none⟩ (.slice a12 (r8 l).1.length c12)) := ((((Same.put hl1).trans (Same.put hl1)).trans (Same.put hl1)).trans (Same.put hl1)).trans (Same.put hl1)
  generalize (((((w13.setCell ⟨gs + 1, 0, none⟩ (.slice a1 (r1 l).1.length c1)).setCell ⟨gs + 1, 1, none⟩ (.slice a4 (n2 l) c4)).setCell ⟨gs + 1, 2, none⟩ (.slice a7 (n4 l) c7)).setCell ⟨gs + 1, 3, none⟩ (.int .i64 (r6 l).1)).setCell ⟨gs + 1, 4, none⟩ (.slice a12 (r8 l).1.length c12)) = w14 at *
  obtain ⟨d0, d1, d2, d3, d4⟩ := R14.facts
  simp only at d0 d1 d2 d3 d4
  have A4' : AL w4 43 w3.heap.size (.slice a4 (n2 l) c4) lE (r3 l).1 := A4.out
  have A7' : AL w7 47 w6.heap.size (.slice a7 (n4 l) c7) lI (r5 l).1 := A7.out
  have hN' : (Fd.b (r1 l).1).Has w1 (gs + 3) (.slice a1 (r1 l).1.length c1) := HN.out
  have hC' : (Fd.b (r8 l).1).Has w12 w11.heap.size (.slice a12 (r8 l).1.length c12) := HCD.out
  have z1 : gs + 3 ≤ w1.heap.size := hZ1.out
  have z2 : w1.heap.size ≤ w3.heap.size := ZEC2w3.out
  have z3 : w3.heap.size ≤ w4.heap.size := Z4.out
  have z4 : w4.heap.size ≤ w6.heap.size := ZEC4w6.out
  have z5 : w6.heap.size ≤ w7.heap.size := Z7.out
  have z6 : w7.heap.size ≤ w11.heap.size := Z711.out
  have z7 : w11.heap.size ≤ w12.heap.size := Z12.out
  have T2 : Same (gs + 3) w1 w14 := C2.out.trans C14
  have T4 : Same (gs + 3) w4 w14 := C4.out.trans C14
  have T7 : Same (gs + 3) w7 w14 := C7.out.trans C14
  have T12 : Same (gs + 3) w12 w14 := C12.out.trans C14
  have hgs : w.heap.size = gs := HGS.out
  refine bodyPost_ret (v := .agg #[.slice a1 (r1 l).1.length c1, .slice a4 (n2 l) c4, .slice a7 (n4 l) c7, .int .i64 (r6 l).1, .slice a12 (r8 l).1.length c12]) (by simp [results, Try.results29, go_sem, d0, d1, d2, d3, d4]) rfl ⟨⟨.slice a1 (r1 l).1.length c1, .slice a4 (n2 l) c4, .slice a7 (n4 l) c7, .int .i64 (r6 l).1, .slice a12 (r8 l).1.length c12⟩, rfl, ⟨lE, lI, ?_⟩, S14, K14⟩
  rw [hgs]
  refine ⟨(hN'.same T2).mono (by omega), ((A4'.own).same (T4.mono (by omega))).mono (by omega), ((A7'.own).same (T7.mono (by omega))).mono (by omega), rfl, (hC'.same (T12.mono (by omega))).mono (by omega), ?_⟩
  have b1 : Bk (gs + 3) w1.heap.size [(Value.ownBlock (.slice a1 (r1 l).1.length c1))] := by
    refine ⟨fun g hg => ?_, List.pairwise_singleton _ _⟩
    simp only [List.mem_cons, List.not_mem_nil, or_false] at hg
    exact hN'.lt g hg.symm
  have b4 : Bk w11.heap.size w12.heap.size [(Value.ownBlock (.slice a12 (r8 l).1.length c12))] := by
    refine ⟨fun g hg => ?_, List.pairwise_singleton _ _⟩
    simp only [List.mem_cons, List.not_mem_nil, or_false] at hg
    exact hC'.lt g hg.symm
  have b12 := b1.append (A4'.bk.low z2) (by omega) (by omega)
  have b13 := b12.append (A7'.bk.low z4) (by omega) (by omega)
  have b14 := b13.append (b4.low z6) (by omega) (by omega)
  exact (b14.low (by omega)).mono T12.size
end Go.Proofs.Ytnhebknckgffoaa

/- A source over bytes, from place 2 on. -/
namespace Go.Proofs.Ytnhebknckgffoaa
open Go.RowKit
set_option linter.unusedVariables false
set_option linter.unusedSimpArgs false
set_option maxRecDepth 100000

set_option maxHeartbeats 4000000 in
theorem sourceOfM (a : Option Addr) (n c : Nat) (l : List Int) (w : World) (h : BRow w a n l) (hn : n ≤ 1048576) (hnc : n ≤ c) (hcm : c ≤ maxLen) (hnil : a = none → c = 0) :
    Calls Try.prog 28 #[.slice a n c, .int .i64 2] w fun e w' => ∃ pb pa ps, e = .returned (.agg #[fNum pb pa, fText pb pa, fCount ps pa, fBytes pa pb, fEnded pa pb]) ∧ Src w w' pb pa ps a n c l 2 ∧ Below w.heap.size w w' := by
  have hmf : ∀ (fn : Fn) (first cap : Array Value) (w : World), (Instr.makeFunc fn first cap).run Try.prog w = .ok (.func fn first cap) w := fun _ _ _ _ => rfl
  have H : Hid (BRow w a n l) := h
  clear h
  go_enter Try.func28, Try.ntmps28
  have e1 : (w.alloc (.cells #[.slice a n c] 22 (0, 0))).heap.size = w.heap.size + 1 := by simp
  have e2 : ((w.alloc (.cells #[.slice a n c] 22 (0, 0))).alloc (.cells #[.int .i64 2] 3 (0, 0))).heap.size = w.heap.size + 2 := by simp
  have e3 : (((w.alloc (.cells #[.slice a n c] 22 (0, 0))).alloc (.cells #[.int .i64 2] 3 (0, 0))).alloc (.cells #[.nilFunc, .nilFunc, .nilFunc, .nilFunc, .nilFunc] 61 (0, 0))).heap.size = w.heap.size + 3 := by simp
  have x0 : ((((w.alloc (.cells #[.slice a n c] 22 (0, 0))).alloc (.cells #[.int .i64 2] 3 (0, 0))).alloc (.cells #[.nilFunc, .nilFunc, .nilFunc, .nilFunc, .nilFunc] 61 (0, 0))).alloc (.cells #[.nilFunc, .nilFunc, .nilFunc, .nilFunc, .nilFunc] 61 (0, 0))).heap[w.heap.size]? = some (.cells #[.slice a n c] 22 (0, 0)) := by
    rw [heap_alloc_old _ _ (by rw [e3]; omega), heap_alloc_old _ _ (by rw [e2]; omega), heap_alloc_old _ _ (by rw [e1]; omega), heap_alloc_new]
  have x1 : ((((w.alloc (.cells #[.slice a n c] 22 (0, 0))).alloc (.cells #[.int .i64 2] 3 (0, 0))).alloc (.cells #[.nilFunc, .nilFunc, .nilFunc, .nilFunc, .nilFunc] 61 (0, 0))).alloc (.cells #[.nilFunc, .nilFunc, .nilFunc, .nilFunc, .nilFunc] 61 (0, 0))).heap[w.heap.size + 1]? = some (.cells #[.int .i64 2] 3 (0, 0)) := by
    rw [heap_alloc_old _ _ (by rw [e3]; omega), heap_alloc_old _ _ (by rw [e2]; omega), ← e1, heap_alloc_new]
  have x2 : B5 ((((w.alloc (.cells #[.slice a n c] 22 (0, 0))).alloc (.cells #[.int .i64 2] 3 (0, 0))).alloc (.cells #[.nilFunc, .nilFunc, .nilFunc, .nilFunc, .nilFunc] 61 (0, 0))).alloc (.cells #[.nilFunc, .nilFunc, .nilFunc, .nilFunc, .nilFunc] 61 (0, 0))) (w.heap.size + 2) 61 ⟨.nilFunc, .nilFunc, .nilFunc, .nilFunc, .nilFunc⟩ := by
    unfold B5
    rw [heap_alloc_old _ _ (by rw [e3]; omega), ← e2, heap_alloc_new]
  have x3 : B5 ((((w.alloc (.cells #[.slice a n c] 22 (0, 0))).alloc (.cells #[.int .i64 2] 3 (0, 0))).alloc (.cells #[.nilFunc, .nilFunc, .nilFunc, .nilFunc, .nilFunc] 61 (0, 0))).alloc (.cells #[.nilFunc, .nilFunc, .nilFunc, .nilFunc, .nilFunc] 61 (0, 0))) (w.heap.size + 3) 61 ⟨.nilFunc, .nilFunc, .nilFunc, .nilFunc, .nilFunc⟩ := by
    unfold B5
    rw [← e3, heap_alloc_new]
  have y0 : Below w.heap.size w ((((w.alloc (.cells #[.slice a n c] 22 (0, 0))).alloc (.cells #[.int .i64 2] 3 (0, 0))).alloc (.cells #[.nilFunc, .nilFunc, .nilFunc, .nilFunc, .nilFunc] 61 (0, 0))).alloc (.cells #[.nilFunc, .nilFunc, .nilFunc, .nilFunc, .nilFunc] 61 (0, 0))) := ((((Below.refl _ _).alloc (Nat.le_refl _) _).alloc (by simp) _).alloc (by simp; omega) _).alloc (by simp; omega) _
  clear e1 e2 e3
  go_upto_region 2 with fail
  generalize ((((w.alloc (.cells #[.slice a n c] 22 (0, 0))).alloc (.cells #[.int .i64 2] 3 (0, 0))).alloc (.cells #[.nilFunc, .nilFunc, .nilFunc, .nilFunc, .nilFunc] 61 (0, 0))).alloc (.cells #[.nilFunc, .nilFunc, .nilFunc, .nilFunc, .nilFunc] 61 (0, 0))) = w0 at *
  have HB : Hid (BRow w a n l) := H
  generalize hg : w.heap.size = g at *
  have HG : Hid (w.heap.size = g) := hg
  clear hg
  obtain ⟨_, _, _, _, _⟩ := x3.facts
  obtain ⟨f0, f1, f2, f3, f4⟩ := x3.frozen
  go_upto_region 3 with fail
  have x4 : B5 (w0.setCell ⟨g + 3, 0, none⟩ (.func (Fn.func 43) #[] #[.pointer (some ⟨g, 0, none⟩), .pointer (some ⟨g + 1, 0, none⟩)])) (g + 3) 61 ⟨.func (Fn.func 43) #[] #[.pointer (some ⟨g, 0, none⟩), .pointer (some ⟨g + 1, 0, none⟩)], .nilFunc, .nilFunc, .nilFunc, .nilFunc⟩ := x3.set0 _
  have r0 : B5 (w0.setCell ⟨g + 3, 0, none⟩ (.func (Fn.func 43) #[] #[.pointer (some ⟨g, 0, none⟩), .pointer (some ⟨g + 1, 0, none⟩)])) (g + 2) 61 ⟨.nilFunc, .nilFunc, .nilFunc, .nilFunc, .nilFunc⟩ := B5.other x2 (by omega)
  have b0 : Hid ((w0.setCell ⟨g + 3, 0, none⟩ (.func (Fn.func 43) #[] #[.pointer (some ⟨g, 0, none⟩), .pointer (some ⟨g + 1, 0, none⟩)])).heap[g]? = some (.cells #[.slice a n c] 22 (0, 0))) := (heap_setCell_other _ _ _ _ (by simp)).trans x0
  have p0 : Hid ((w0.setCell ⟨g + 3, 0, none⟩ (.func (Fn.func 43) #[] #[.pointer (some ⟨g, 0, none⟩), .pointer (some ⟨g + 1, 0, none⟩)])).heap[g + 1]? = some (.cells #[.int .i64 2] 3 (0, 0))) := (heap_setCell_other _ _ _ _ (by simp)).trans x1
  have y1 : Below g w (w0.setCell ⟨g + 3, 0, none⟩ (.func (Fn.func 43) #[] #[.pointer (some ⟨g, 0, none⟩), .pointer (some ⟨g + 1, 0, none⟩)])) := y0.setCell (by simp) _
  clear x3 x2 x0 x1 y0 f0 f1 f2 f3 f4
  generalize (w0.setCell ⟨g + 3, 0, none⟩ (.func (Fn.func 43) #[] #[.pointer (some ⟨g, 0, none⟩), .pointer (some ⟨g + 1, 0, none⟩)])) = w1 at *
  obtain ⟨_, _, _, _, _⟩ := x4.facts
  obtain ⟨f0, f1, f2, f3, f4⟩ := x4.frozen
  go_upto_region 4 with fail
  have x5 : B5 (w1.setCell ⟨g + 3, 1, none⟩ (.func (Fn.func 45) #[] #[.pointer (some ⟨g, 0, none⟩), .pointer (some ⟨g + 1, 0, none⟩)])) (g + 3) 61 ⟨.func (Fn.func 43) #[] #[.pointer (some ⟨g, 0, none⟩), .pointer (some ⟨g + 1, 0, none⟩)], .func (Fn.func 45) #[] #[.pointer (some ⟨g, 0, none⟩), .pointer (some ⟨g + 1, 0, none⟩)], .nilFunc, .nilFunc, .nilFunc⟩ := x4.set1 _
  have r1 : B5 (w1.setCell ⟨g + 3, 1, none⟩ (.func (Fn.func 45) #[] #[.pointer (some ⟨g, 0, none⟩), .pointer (some ⟨g + 1, 0, none⟩)])) (g + 2) 61 ⟨.nilFunc, .nilFunc, .nilFunc, .nilFunc, .nilFunc⟩ := B5.other r0 (by omega)
  have b1 : Hid ((w1.setCell ⟨g + 3, 1, none⟩ (.func (Fn.func 45) #[] #[.pointer (some ⟨g, 0, none⟩), .pointer (some ⟨g + 1, 0, none⟩)])).heap[g]? = some (.cells #[.slice a n c] 22 (0, 0))) := (heap_setCell_other _ _ _ _ (by simp)).trans b0.out
  have p1 : Hid ((w1.setCell ⟨g + 3, 1, none⟩ (.func (Fn.func 45) #[] #[.pointer (some ⟨g, 0, none⟩), .pointer (some ⟨g + 1, 0, none⟩)])).heap[g + 1]? = some (.cells #[.int .i64 2] 3 (0, 0))) := (heap_setCell_other _ _ _ _ (by simp)).trans p0.out
  have y2 : Below g w (w1.setCell ⟨g + 3, 1, none⟩ (.func (Fn.func 45) #[] #[.pointer (some ⟨g, 0, none⟩), .pointer (some ⟨g + 1, 0, none⟩)])) := y1.setCell (by simp) _
  clear x4 r0 b0 p0 y1 f0 f1 f2 f3 f4
  generalize (w1.setCell ⟨g + 3, 1, none⟩ (.func (Fn.func 45) #[] #[.pointer (some ⟨g, 0, none⟩), .pointer (some ⟨g + 1, 0, none⟩)])) = w2 at *
  obtain ⟨_, _, _, _, _⟩ := x5.facts
  obtain ⟨f0, f1, f2, f3, f4⟩ := x5.frozen
  go_upto_region 5 with fail
  have x6 : B5 (w2.setCell ⟨g + 3, 2, none⟩ (.func (Fn.func 47) #[] #[.pointer (some ⟨g + 3, 0, none⟩), .pointer (some ⟨g + 1, 0, none⟩)])) (g + 3) 61 ⟨.func (Fn.func 43) #[] #[.pointer (some ⟨g, 0, none⟩), .pointer (some ⟨g + 1, 0, none⟩)], .func (Fn.func 45) #[] #[.pointer (some ⟨g, 0, none⟩), .pointer (some ⟨g + 1, 0, none⟩)], .func (Fn.func 47) #[] #[.pointer (some ⟨g + 3, 0, none⟩), .pointer (some ⟨g + 1, 0, none⟩)], .nilFunc, .nilFunc⟩ := x5.set2 _
  have r2 : B5 (w2.setCell ⟨g + 3, 2, none⟩ (.func (Fn.func 47) #[] #[.pointer (some ⟨g + 3, 0, none⟩), .pointer (some ⟨g + 1, 0, none⟩)])) (g + 2) 61 ⟨.nilFunc, .nilFunc, .nilFunc, .nilFunc, .nilFunc⟩ := B5.other r1 (by omega)
  have b2 : Hid ((w2.setCell ⟨g + 3, 2, none⟩ (.func (Fn.func 47) #[] #[.pointer (some ⟨g + 3, 0, none⟩), .pointer (some ⟨g + 1, 0, none⟩)])).heap[g]? = some (.cells #[.slice a n c] 22 (0, 0))) := (heap_setCell_other _ _ _ _ (by simp)).trans b1.out
  have p2 : Hid ((w2.setCell ⟨g + 3, 2, none⟩ (.func (Fn.func 47) #[] #[.pointer (some ⟨g + 3, 0, none⟩), .pointer (some ⟨g + 1, 0, none⟩)])).heap[g + 1]? = some (.cells #[.int .i64 2] 3 (0, 0))) := (heap_setCell_other _ _ _ _ (by simp)).trans p1.out
  have y3 : Below g w (w2.setCell ⟨g + 3, 2, none⟩ (.func (Fn.func 47) #[] #[.pointer (some ⟨g + 3, 0, none⟩), .pointer (some ⟨g + 1, 0, none⟩)])) := y2.setCell (by simp) _
  clear x5 r1 b1 p1 y2 f0 f1 f2 f3 f4
  generalize (w2.setCell ⟨g + 3, 2, none⟩ (.func (Fn.func 47) #[] #[.pointer (some ⟨g + 3, 0, none⟩), .pointer (some ⟨g + 1, 0, none⟩)])) = w3 at *
  obtain ⟨_, _, _, _, _⟩ := x6.facts
  obtain ⟨f0, f1, f2, f3, f4⟩ := x6.frozen
  go_upto_region 6 with fail
  have x7 : B5 (w3.setCell ⟨g + 3, 3, none⟩ (.func (Fn.func 48) #[] #[.pointer (some ⟨g + 1, 0, none⟩), .pointer (some ⟨g, 0, none⟩)])) (g + 3) 61 ⟨.func (Fn.func 43) #[] #[.pointer (some ⟨g, 0, none⟩), .pointer (some ⟨g + 1, 0, none⟩)], .func (Fn.func 45) #[] #[.pointer (some ⟨g, 0, none⟩), .pointer (some ⟨g + 1, 0, none⟩)], .func (Fn.func 47) #[] #[.pointer (some ⟨g + 3, 0, none⟩), .pointer (some ⟨g + 1, 0, none⟩)], .func (Fn.func 48) #[] #[.pointer (some ⟨g + 1, 0, none⟩), .pointer (some ⟨g, 0, none⟩)], .nilFunc⟩ := x6.set3 _
  have r3 : B5 (w3.setCell ⟨g + 3, 3, none⟩ (.func (Fn.func 48) #[] #[.pointer (some ⟨g + 1, 0, none⟩), .pointer (some ⟨g, 0, none⟩)])) (g + 2) 61 ⟨.nilFunc, .nilFunc, .nilFunc, .nilFunc, .nilFunc⟩ := B5.other r2 (by omega)
  have b3 : Hid ((w3.setCell ⟨g + 3, 3, none⟩ (.func (Fn.func 48) #[] #[.pointer (some ⟨g + 1, 0, none⟩), .pointer (some ⟨g, 0, none⟩)])).heap[g]? = some (.cells #[.slice a n c] 22 (0, 0))) := (heap_setCell_other _ _ _ _ (by simp)).trans b2.out
  have p3 : Hid ((w3.setCell ⟨g + 3, 3, none⟩ (.func (Fn.func 48) #[] #[.pointer (some ⟨g + 1, 0, none⟩), .pointer (some ⟨g, 0, none⟩)])).heap[g + 1]? = some (.cells #[.int .i64 2] 3 (0, 0))) := (heap_setCell_other _ _ _ _ (by simp)).trans p2.out
  have y4 : Below g w (w3.setCell ⟨g + 3, 3, none⟩ (.func (Fn.func 48) #[] #[.pointer (some ⟨g + 1, 0, none⟩), .pointer (some ⟨g, 0, none⟩)])) := y3.setCell (by simp) _
  clear x6 r2 b2 p2 y3 f0 f1 f2 f3 f4
  generalize (w3.setCell ⟨g + 3, 3, none⟩ (.func (Fn.func 48) #[] #[.pointer (some ⟨g + 1, 0, none⟩), .pointer (some ⟨g, 0, none⟩)])) = w4 at *
  obtain ⟨_, _, _, _, _⟩ := x7.facts
  obtain ⟨f0, f1, f2, f3, f4⟩ := x7.frozen
  go_upto_region 7 with fail
  have x8 : B5 (w4.setCell ⟨g + 3, 4, none⟩ (.func (Fn.func 49) #[] #[.pointer (some ⟨g + 1, 0, none⟩), .pointer (some ⟨g, 0, none⟩)])) (g + 3) 61 ⟨.func (Fn.func 43) #[] #[.pointer (some ⟨g, 0, none⟩), .pointer (some ⟨g + 1, 0, none⟩)], .func (Fn.func 45) #[] #[.pointer (some ⟨g, 0, none⟩), .pointer (some ⟨g + 1, 0, none⟩)], .func (Fn.func 47) #[] #[.pointer (some ⟨g + 3, 0, none⟩), .pointer (some ⟨g + 1, 0, none⟩)], .func (Fn.func 48) #[] #[.pointer (some ⟨g + 1, 0, none⟩), .pointer (some ⟨g, 0, none⟩)], .func (Fn.func 49) #[] #[.pointer (some ⟨g + 1, 0, none⟩), .pointer (some ⟨g, 0, none⟩)]⟩ := x7.set4 _
  have r4 : B5 (w4.setCell ⟨g + 3, 4, none⟩ (.func (Fn.func 49) #[] #[.pointer (some ⟨g + 1, 0, none⟩), .pointer (some ⟨g, 0, none⟩)])) (g + 2) 61 ⟨.nilFunc, .nilFunc, .nilFunc, .nilFunc, .nilFunc⟩ := B5.other r3 (by omega)
  have b4 : Hid ((w4.setCell ⟨g + 3, 4, none⟩ (.func (Fn.func 49) #[] #[.pointer (some ⟨g + 1, 0, none⟩), .pointer (some ⟨g, 0, none⟩)])).heap[g]? = some (.cells #[.slice a n c] 22 (0, 0))) := (heap_setCell_other _ _ _ _ (by simp)).trans b3.out
  have p4 : Hid ((w4.setCell ⟨g + 3, 4, none⟩ (.func (Fn.func 49) #[] #[.pointer (some ⟨g + 1, 0, none⟩), .pointer (some ⟨g, 0, none⟩)])).heap[g + 1]? = some (.cells #[.int .i64 2] 3 (0, 0))) := (heap_setCell_other _ _ _ _ (by simp)).trans p3.out
  have y5 : Below g w (w4.setCell ⟨g + 3, 4, none⟩ (.func (Fn.func 49) #[] #[.pointer (some ⟨g + 1, 0, none⟩), .pointer (some ⟨g, 0, none⟩)])) := y4.setCell (by simp) _
  clear x7 r3 b3 p3 y4 f0 f1 f2 f3 f4
  generalize (w4.setCell ⟨g + 3, 4, none⟩ (.func (Fn.func 49) #[] #[.pointer (some ⟨g + 1, 0, none⟩), .pointer (some ⟨g, 0, none⟩)])) = w5 at *
  obtain ⟨q0, q1, q2, q3, q4⟩ := x8.facts
  obtain ⟨_, _, _, _, _⟩ := r4.facts
  obtain ⟨f0, f1, f2, f3, f4⟩ := r4.frozen
  simp only at q0 q1 q2 q3 q4
  go_wp2_with fail
  have R : B5 (((((w5.setCell ⟨g + 2, 0, none⟩ (.func (Fn.func 43) #[] #[.pointer (some ⟨g, 0, none⟩), .pointer (some ⟨g + 1, 0, none⟩)])).setCell ⟨g + 2, 1, none⟩ (.func (Fn.func 45) #[] #[.pointer (some ⟨g, 0, none⟩), .pointer (some ⟨g + 1, 0, none⟩)])).setCell ⟨g + 2, 2, none⟩ (.func (Fn.func 47) #[] #[.pointer (some ⟨g + 3, 0, none⟩), .pointer (some ⟨g + 1, 0, none⟩)])).setCell ⟨g + 2, 3, none⟩ (.func (Fn.func 48) #[] #[.pointer (some ⟨g + 1, 0, none⟩), .pointer (some ⟨g, 0, none⟩)])).setCell ⟨g + 2, 4, none⟩ (.func (Fn.func 49) #[] #[.pointer (some ⟨g + 1, 0, none⟩), .pointer (some ⟨g, 0, none⟩)])) (g + 2) 61 ⟨.func (Fn.func 43) #[] #[.pointer (some ⟨g, 0, none⟩), .pointer (some ⟨g + 1, 0, none⟩)], .func (Fn.func 45) #[] #[.pointer (some ⟨g, 0, none⟩), .pointer (some ⟨g + 1, 0, none⟩)], .func (Fn.func 47) #[] #[.pointer (some ⟨g + 3, 0, none⟩), .pointer (some ⟨g + 1, 0, none⟩)], .func (Fn.func 48) #[] #[.pointer (some ⟨g + 1, 0, none⟩), .pointer (some ⟨g, 0, none⟩)], .func (Fn.func 49) #[] #[.pointer (some ⟨g + 1, 0, none⟩), .pointer (some ⟨g, 0, none⟩)]⟩ := ((((r4.set0 _).set1 _).set2 _).set3 _).set4 _
  have X9 : B5 (((((w5.setCell ⟨g + 2, 0, none⟩ (.func (Fn.func 43) #[] #[.pointer (some ⟨g, 0, none⟩), .pointer (some ⟨g + 1, 0, none⟩)])).setCell ⟨g + 2, 1, none⟩ (.func (Fn.func 45) #[] #[.pointer (some ⟨g, 0, none⟩), .pointer (some ⟨g + 1, 0, none⟩)])).setCell ⟨g + 2, 2, none⟩ (.func (Fn.func 47) #[] #[.pointer (some ⟨g + 3, 0, none⟩), .pointer (some ⟨g + 1, 0, none⟩)])).setCell ⟨g + 2, 3, none⟩ (.func (Fn.func 48) #[] #[.pointer (some ⟨g + 1, 0, none⟩), .pointer (some ⟨g, 0, none⟩)])).setCell ⟨g + 2, 4, none⟩ (.func (Fn.func 49) #[] #[.pointer (some ⟨g + 1, 0, none⟩), .pointer (some ⟨g, 0, none⟩)])) (g + 3) 61 ⟨.func (Fn.func 43) #[] #[.pointer (some ⟨g, 0, none⟩), .pointer (some ⟨g + 1, 0, none⟩)], .func (Fn.func 45) #[] #[.pointer (some ⟨g, 0, none⟩), .pointer (some ⟨g + 1, 0, none⟩)], .func (Fn.func 47) #[] #[.pointer (some ⟨g + 3, 0, none⟩), .pointer (some ⟨g + 1, 0, none⟩)], .func (Fn.func 48) #[] #[.pointer (some ⟨g + 1, 0, none⟩), .pointer (some ⟨g, 0, none⟩)], .func (Fn.func 49) #[] #[.pointer (some ⟨g + 1, 0, none⟩), .pointer (some ⟨g, 0, none⟩)]⟩ := ((((B5.other x8 (by omega)).other (by omega)).other (by omega)).other (by omega)).other (by omega)
  have B9 : (((((w5.setCell ⟨g + 2, 0, none⟩ (.func (Fn.func 43) #[] #[.pointer (some ⟨g, 0, none⟩), .pointer (some ⟨g + 1, 0, none⟩)])).setCell ⟨g + 2, 1, none⟩ (.func (Fn.func 45) #[] #[.pointer (some ⟨g, 0, none⟩), .pointer (some ⟨g + 1, 0, none⟩)])).setCell ⟨g + 2, 2, none⟩ (.func (Fn.func 47) #[] #[.pointer (some ⟨g + 3, 0, none⟩), .pointer (some ⟨g + 1, 0, none⟩)])).setCell ⟨g + 2, 3, none⟩ (.func (Fn.func 48) #[] #[.pointer (some ⟨g + 1, 0, none⟩), .pointer (some ⟨g, 0, none⟩)])).setCell ⟨g + 2, 4, none⟩ (.func (Fn.func 49) #[] #[.pointer (some ⟨g + 1, 0, none⟩), .pointer (some ⟨g, 0, none⟩)])).heap[g]? = some (.cells #[.slice a n c] 22 (0, 0)) := by
    rw [heap_setCell_other _ _ _ _ (by simp), heap_setCell_other _ _ _ _ (by simp), heap_setCell_other _ _ _ _ (by simp), heap_setCell_other _ _ _ _ (by simp), heap_setCell_other _ _ _ _ (by simp)]
    exact b4.out
  have P9 : (((((w5.setCell ⟨g + 2, 0, none⟩ (.func (Fn.func 43) #[] #[.pointer (some ⟨g, 0, none⟩), .pointer (some ⟨g + 1, 0, none⟩)])).setCell ⟨g + 2, 1, none⟩ (.func (Fn.func 45) #[] #[.pointer (some ⟨g, 0, none⟩), .pointer (some ⟨g + 1, 0, none⟩)])).setCell ⟨g + 2, 2, none⟩ (.func (Fn.func 47) #[] #[.pointer (some ⟨g + 3, 0, none⟩), .pointer (some ⟨g + 1, 0, none⟩)])).setCell ⟨g + 2, 3, none⟩ (.func (Fn.func 48) #[] #[.pointer (some ⟨g + 1, 0, none⟩), .pointer (some ⟨g, 0, none⟩)])).setCell ⟨g + 2, 4, none⟩ (.func (Fn.func 49) #[] #[.pointer (some ⟨g + 1, 0, none⟩), .pointer (some ⟨g, 0, none⟩)])).heap[g + 1]? = some (.cells #[.int .i64 2] 3 (0, 0)) := by
    rw [heap_setCell_other _ _ _ _ (by simp), heap_setCell_other _ _ _ _ (by simp), heap_setCell_other _ _ _ _ (by simp), heap_setCell_other _ _ _ _ (by simp), heap_setCell_other _ _ _ _ (by simp)]
    exact p4.out
  have Y9 : Below g w (((((w5.setCell ⟨g + 2, 0, none⟩ (.func (Fn.func 43) #[] #[.pointer (some ⟨g, 0, none⟩), .pointer (some ⟨g + 1, 0, none⟩)])).setCell ⟨g + 2, 1, none⟩ (.func (Fn.func 45) #[] #[.pointer (some ⟨g, 0, none⟩), .pointer (some ⟨g + 1, 0, none⟩)])).setCell ⟨g + 2, 2, none⟩ (.func (Fn.func 47) #[] #[.pointer (some ⟨g + 3, 0, none⟩), .pointer (some ⟨g + 1, 0, none⟩)])).setCell ⟨g + 2, 3, none⟩ (.func (Fn.func 48) #[] #[.pointer (some ⟨g + 1, 0, none⟩), .pointer (some ⟨g, 0, none⟩)])).setCell ⟨g + 2, 4, none⟩ (.func (Fn.func 49) #[] #[.pointer (some ⟨g + 1, 0, none⟩), .pointer (some ⟨g, 0, none⟩)])) := ((((y5.setCell (by simp) _).setCell (by simp) _).setCell (by simp) _).setCell (by simp) _).setCell (by simp) _
  generalize (((((w5.setCell ⟨g + 2, 0, none⟩ (.func (Fn.func 43) #[] #[.pointer (some ⟨g, 0, none⟩), .pointer (some ⟨g + 1, 0, none⟩)])).setCell ⟨g + 2, 1, none⟩ (.func (Fn.func 45) #[] #[.pointer (some ⟨g, 0, none⟩), .pointer (some ⟨g + 1, 0, none⟩)])).setCell ⟨g + 2, 2, none⟩ (.func (Fn.func 47) #[] #[.pointer (some ⟨g + 3, 0, none⟩), .pointer (some ⟨g + 1, 0, none⟩)])).setCell ⟨g + 2, 3, none⟩ (.func (Fn.func 48) #[] #[.pointer (some ⟨g + 1, 0, none⟩), .pointer (some ⟨g, 0, none⟩)])).setCell ⟨g + 2, 4, none⟩ (.func (Fn.func 49) #[] #[.pointer (some ⟨g + 1, 0, none⟩), .pointer (some ⟨g, 0, none⟩)])) = w9 at *
  obtain ⟨d0, d1, d2, d3, d4⟩ := R.facts
  simp only at d0 d1 d2 d3 d4
  have hg : w.heap.size = g := HG.out
  refine bodyPost_ret (v := .agg #[.func (Fn.func 43) #[] #[.pointer (some ⟨g, 0, none⟩), .pointer (some ⟨g + 1, 0, none⟩)], .func (Fn.func 45) #[] #[.pointer (some ⟨g, 0, none⟩), .pointer (some ⟨g + 1, 0, none⟩)], .func (Fn.func 47) #[] #[.pointer (some ⟨g + 3, 0, none⟩), .pointer (some ⟨g + 1, 0, none⟩)], .func (Fn.func 48) #[] #[.pointer (some ⟨g + 1, 0, none⟩), .pointer (some ⟨g, 0, none⟩)], .func (Fn.func 49) #[] #[.pointer (some ⟨g + 1, 0, none⟩), .pointer (some ⟨g, 0, none⟩)]]) (by simp [results, Try.results28, go_sem, d0, d1, d2, d3, d4]) rfl ⟨g, g + 1, g + 3, rfl, ?_, by rw [hg]; exact Y9⟩
  exact ⟨B9, P9, ⟨_, _, _, _, X9⟩, HB.out, by rw [hg]; exact Y9, by omega, hn, hnc, hcm, hnil, .inr rfl⟩
end Go.Proofs.Ytnhebknckgffoaa

/- bytes.HasPrefix: whether bytes begin with these two. -/
namespace Go.Proofs.Ytnhebknckgffoaa
open Go.RowKit
set_option linter.unusedVariables false
set_option linter.unusedSimpArgs false
set_option maxRecDepth 100000

theorem BRow.first {w : World} {a : Option Addr} {n m : Nat} {l : List Int} (h : BRow w a n l) (hm : m ≤ n) : BRow w a m (l.take m) := by
  refine ⟨by rw [List.length_take, h.1]; omega, fun x hx => h.2.1 x (List.mem_of_mem_take hx), fun h0 => ?_⟩
  obtain ⟨b, off, e, hc⟩ := h.2.2 (by omega)
  exact ⟨b, off, e, fun i hi => by rw [hc i (by omega)]; simp [hi]⟩

set_option maxHeartbeats 2000000 in
theorem hasPrefixM (a : Option Addr) (n c : Nat) (l : List Int) (a2 : Option Addr) (c2 : Nat) (w : World) (h : BRow w a n l) (hnc : n ≤ c) (hcm : c ≤ maxLen) (h2 : BRow w a2 2 [66, 72]) :
    Calls Try.prog 27 #[.slice a n c, .slice a2 2 c2] w fun e w' => e = .returned (.bool (startsL l)) ∧ w' = w := by
  unfold maxLen at hcm
  by_cases hlt : n < 2
  · have HS : Hid (startsL l = false) := by
      show _ = _
      unfold startsL
      rw [decide_eq_false]
      intro e
      have := congrArg List.length e
      simp [h.1] at this
      omega
    clear h h2
    go_enter Try.func27, Try.ntmps27
    go_wp2_with fail
    go_ret
    exact ⟨ret_bool HS.out.symm, rfl⟩
  · have H1 := fun c1 => bytesEqualM a 2 c1 (l.take 2) a2 2 c2 [66, 72] w (h.first (by omega)) h2
    obtain ⟨b, off, rfl, _⟩ := h.2.2 (by omega)
    have HS : Hid (decide (l.take 2 = [66, 72]) = startsL l) := by show _ = _; rfl
    clear h h2
    generalize decide (l.take 2 = [66, 72]) = q at *
    have hge : (2 : Int) ≤ (n : Int) := by omega
    go_enter Try.func27, Try.ntmps27
    go_wp2_with fail
    refine (H1 _).mono ?_
    rintro e w1 ⟨rfl, rfl⟩
    go_wp2_with fail
    go_ret
    exact ⟨ret_bool HS.out, rfl⟩
end Go.Proofs.Ytnhebknckgffoaa

/- impl.ObjectRead: the object whose bytes these are, all of its memory its own; nothing and no, where they are none's. -/
namespace Go.Proofs.Ytnhebknckgffoaa
open Go.RowKit
set_option linter.unusedVariables false
set_option linter.unusedSimpArgs false
set_option maxRecDepth 100000

theorem bh_new (w : World) : BRow (w.alloc (.cells #[.int .u8 66, .int .u8 72] 5 (2, 3))) (some ⟨w.heap.size, 0, none⟩) 2 [66, 72] := by
  refine ⟨rfl, by decide, fun _ => ⟨w.heap.size, 0, rfl, fun i hi => ?_⟩⟩
  rw [Nat.zero_add, World.cell?_alloc_mark]
  have : i = 0 ∨ i = 1 := by omega
  rcases this with rfl | rfl <;> rfl

set_option maxHeartbeats 8000000 in
theorem implObjectReadM (a : Option Addr) (n c : Nat) (l : List Int) (w : World) (h : BRow w a n l) (hn : n ≤ 1048576) (hnc : n ≤ c) (hcm : c ≤ maxLen) (hnil : a = none → c = 0) :
    Calls Try.prog 8 #[.slice a n c] w fun e w' => ∃ o : O5, e = .returned (.tuple #[.agg #[o.x, o.e, o.i, o.d, o.c], .bool (rdOk l)]) ∧ (∃ lE lI, OOwn w' w.heap.size o (rdR l) lE lI) ∧ Below w.heap.size w w' := by
  have HBY : Hid (∀ x ∈ l, 0 ≤ x ∧ x ≤ 255) := h.2.1
  have HL : Hid (l.length = n) := h.1
  have H : Hid (BRow w a n l) := h
  clear h
  have x0 := B5.new w 26 ⟨.slice none 0 0, .slice none 0 0, .slice none 0 0, .int .i64 0, .slice none 0 0⟩
  have y0 : Below w.heap.size w (w.alloc (.cells #[.slice none 0 0, .slice none 0 0, .slice none 0 0, .int .i64 0, .slice none 0 0] 26 (0, 0))) := (Below.refl _ _).alloc (Nat.le_refl _) _
  simp only at x0
  have kc := fun (w : World) (C : Array Value) (n c : Nat) => Lib.run_convert_bytes_const (P := Try.prog) w 22 5 C n c Try.underlying22 Try.underlying5
  go_enter Try.func8, Try.ntmps8
  go_upto_region 1 with fail
  generalize w.alloc (.cells #[.slice none 0 0, .slice none 0 0, .slice none 0 0, .int .i64 0, .slice none 0 0] 26 (0, 0)) = w0 at *
  have x1 := x0.old (ob := .cells #[.int .u8 66, .int .u8 72] 5 (2, 3))
  have y1 := y0.alloc y0.size (.cells #[.int .u8 66, .int .u8 72] 5 (2, 3))
  have H1 := hasPrefixM a n c l (some ⟨w0.heap.size, 0, none⟩) 2 _ (BRow.below H.out y1) hnc hcm (bh_new w0)
  go_wp2_with fail
  refine H1.mono ?_
  rintro e w1 ⟨rfl, rfl⟩
  clear H1 x0 y0
  generalize w0.alloc (.cells #[.int .u8 66, .int .u8 72] 5 (2, 3)) = w1 at *
  cases hv : startsL l
  · have HNO : Hid (rdOk l = false) := rd_noStart hv
    clear hv
    obtain ⟨_, _, _, _, _⟩ := x1.facts
    obtain ⟨f0, f1, f2, f3, f4⟩ := x1.frozen
    go_wp2_with fail
    have R9 : B5 (((((w1.setCell ⟨w.heap.size, 0, none⟩ (.slice none 0 0)).setCell ⟨w.heap.size, 1, none⟩ (.slice none 0 0)).setCell ⟨w.heap.size, 2, none⟩ (.slice none 0 0)).setCell ⟨w.heap.size, 3, none⟩ (.int .i64 0)).setCell ⟨w.heap.size, 4, none⟩ (.slice none 0 0)) w.heap.size 26 ⟨.slice none 0 0, .slice none 0 0, .slice none 0 0, .int .i64 0, .slice none 0 0⟩ := ((((x1.set0 _).set1 _).set2 _).set3 _).set4 _
    have Y9 : Below w.heap.size w (((((w1.setCell ⟨w.heap.size, 0, none⟩ (.slice none 0 0)).setCell ⟨w.heap.size, 1, none⟩ (.slice none 0 0)).setCell ⟨w.heap.size, 2, none⟩ (.slice none 0 0)).setCell ⟨w.heap.size, 3, none⟩ (.int .i64 0)).setCell ⟨w.heap.size, 4, none⟩ (.slice none 0 0)) := ((((y1.setCell (Nat.le_refl _) _).setCell (Nat.le_refl _) _).setCell (Nat.le_refl _) _).setCell (Nat.le_refl _) _).setCell (Nat.le_refl _) _
    generalize (((((w1.setCell ⟨w.heap.size, 0, none⟩ (.slice none 0 0)).setCell ⟨w.heap.size, 1, none⟩ (.slice none 0 0)).setCell ⟨w.heap.size, 2, none⟩ (.slice none 0 0)).setCell ⟨w.heap.size, 3, none⟩ (.int .i64 0)).setCell ⟨w.heap.size, 4, none⟩ (.slice none 0 0)) = w9 at *
    obtain ⟨d0, d1, d2, d3, d4⟩ := R9.facts
    simp only at d0 d1 d2 d3 d4
    refine bodyPost_ret (v := .tuple #[.agg #[.slice none 0 0, .slice none 0 0, .slice none 0 0, .int .i64 0, .slice none 0 0], .bool false]) (by simp [results, Try.results8, go_sem, d0, d1, d2, d3, d4]) rfl ⟨⟨.slice none 0 0, .slice none 0 0, .slice none 0 0, .int .i64 0, .slice none 0 0⟩, ?_, ?_, Y9⟩
    · rw [HNO.out]
    · rw [rdR_no HNO.out]
      exact ⟨[], [], OOwn.zero _ _⟩
  have HST : Hid (startsL l = true) := hv
  clear hv
  have H2 := sourceOfM a n c l w1 (BRow.below H.out y1) hn hnc hcm hnil
  unfold fNum fText fCount fBytes fEnded at H2
  go_wp2_with fail
  refine H2.mono ?_
  rintro e w2 ⟨pb, pa, ps, rfl, s2, hb⟩
  have x2 := x1.below hb x1.lt
  have y2 : Below w.heap.size w w2 := y1.trans (hb.mono y1.size)
  have hR1 : w.heap.size < w1.heap.size := x1.lt
  have hPA : w1.heap.size ≤ pa := s2.low
  have hPL : pa < w2.heap.size := lt_of_block s2.p
  have S2 : Hid (Src w1 w2 pb pa ps a n c l 2) := s2
  clear H2 x1 y1 hb s2 kc
  have g3 := B5.new w2 61 ⟨.func (Fn.func 43) #[] #[.pointer (some ⟨pb, 0, none⟩), .pointer (some ⟨pa, 0, none⟩)], .func (Fn.func 45) #[] #[.pointer (some ⟨pb, 0, none⟩), .pointer (some ⟨pa, 0, none⟩)], .func (Fn.func 47) #[] #[.pointer (some ⟨ps, 0, none⟩), .pointer (some ⟨pa, 0, none⟩)], .func (Fn.func 48) #[] #[.pointer (some ⟨pa, 0, none⟩), .pointer (some ⟨pb, 0, none⟩)], .func (Fn.func 49) #[] #[.pointer (some ⟨pa, 0, none⟩), .pointer (some ⟨pb, 0, none⟩)]⟩
  have x3 := x2.old (ob := .cells #[.func (Fn.func 43) #[] #[.pointer (some ⟨pb, 0, none⟩), .pointer (some ⟨pa, 0, none⟩)], .func (Fn.func 45) #[] #[.pointer (some ⟨pb, 0, none⟩), .pointer (some ⟨pa, 0, none⟩)], .func (Fn.func 47) #[] #[.pointer (some ⟨ps, 0, none⟩), .pointer (some ⟨pa, 0, none⟩)], .func (Fn.func 48) #[] #[.pointer (some ⟨pa, 0, none⟩), .pointer (some ⟨pb, 0, none⟩)], .func (Fn.func 49) #[] #[.pointer (some ⟨pa, 0, none⟩), .pointer (some ⟨pb, 0, none⟩)]] 61 (0, 0))
  have y3 := y2.alloc y2.size (.cells #[.func (Fn.func 43) #[] #[.pointer (some ⟨pb, 0, none⟩), .pointer (some ⟨pa, 0, none⟩)], .func (Fn.func 45) #[] #[.pointer (some ⟨pb, 0, none⟩), .pointer (some ⟨pa, 0, none⟩)], .func (Fn.func 47) #[] #[.pointer (some ⟨ps, 0, none⟩), .pointer (some ⟨pa, 0, none⟩)], .func (Fn.func 48) #[] #[.pointer (some ⟨pa, 0, none⟩), .pointer (some ⟨pb, 0, none⟩)], .func (Fn.func 49) #[] #[.pointer (some ⟨pa, 0, none⟩), .pointer (some ⟨pb, 0, none⟩)]] 61 (0, 0))
  have S3 : Hid (Src w1 (w2.alloc (.cells #[.func (Fn.func 43) #[] #[.pointer (some ⟨pb, 0, none⟩), .pointer (some ⟨pa, 0, none⟩)], .func (Fn.func 45) #[] #[.pointer (some ⟨pb, 0, none⟩), .pointer (some ⟨pa, 0, none⟩)], .func (Fn.func 47) #[] #[.pointer (some ⟨ps, 0, none⟩), .pointer (some ⟨pa, 0, none⟩)], .func (Fn.func 48) #[] #[.pointer (some ⟨pa, 0, none⟩), .pointer (some ⟨pb, 0, none⟩)], .func (Fn.func 49) #[] #[.pointer (some ⟨pa, 0, none⟩), .pointer (some ⟨pb, 0, none⟩)]] 61 (0, 0))) pb pa ps a n c l 2) := S2.out.below ((Below.refl _ _).alloc (Nat.le_refl _) _)
  have hz3 : (w2.alloc (.cells #[.func (Fn.func 43) #[] #[.pointer (some ⟨pb, 0, none⟩), .pointer (some ⟨pa, 0, none⟩)], .func (Fn.func 45) #[] #[.pointer (some ⟨pb, 0, none⟩), .pointer (some ⟨pa, 0, none⟩)], .func (Fn.func 47) #[] #[.pointer (some ⟨ps, 0, none⟩), .pointer (some ⟨pa, 0, none⟩)], .func (Fn.func 48) #[] #[.pointer (some ⟨pa, 0, none⟩), .pointer (some ⟨pb, 0, none⟩)], .func (Fn.func 49) #[] #[.pointer (some ⟨pa, 0, none⟩), .pointer (some ⟨pb, 0, none⟩)]] 61 (0, 0))).heap.size = w2.heap.size + 1 := by simp
  simp only at g3
  go_upto_region 4 with fail
  generalize (w2.alloc (.cells #[.func (Fn.func 43) #[] #[.pointer (some ⟨pb, 0, none⟩), .pointer (some ⟨pa, 0, none⟩)], .func (Fn.func 45) #[] #[.pointer (some ⟨pb, 0, none⟩), .pointer (some ⟨pa, 0, none⟩)], .func (Fn.func 47) #[] #[.pointer (some ⟨ps, 0, none⟩), .pointer (some ⟨pa, 0, none⟩)], .func (Fn.func 48) #[] #[.pointer (some ⟨pa, 0, none⟩), .pointer (some ⟨pb, 0, none⟩)], .func (Fn.func 49) #[] #[.pointer (some ⟨pa, 0, none⟩), .pointer (some ⟨pb, 0, none⟩)]] 61 (0, 0))) = w3 at *
  have HZ3 : Hid (w3.heap.size = w2.heap.size + 1) := hz3
  clear hz3 x2 y2 S2
  generalize w2.heap.size = gS at *
  obtain ⟨q0, q1, q2, q3, q4⟩ := g3.facts
  simp only at q0 q1 q2 q3 q4
  have H3 := objectM S3.out (.func (Fn.func 49) #[] #[.pointer (some ⟨pa, 0, none⟩), .pointer (some ⟨pb, 0, none⟩)])
  go_wp2_with fail
  refine H3.mono ?_
  rintro e w4 ⟨o, rfl, ⟨lE, lI, hO⟩, s4, k4⟩
  have R4 := hO.read (obL_exs l) (obL_ims l)
  obtain ⟨a1, c1, a2, c2, a3, c3, a4, c4, e4⟩ := R4.shape
  subst e4
  simp only
  have x4 := B5.keep x3 k4 (by simp; omega)
  have g4 := B5.keep g3 k4 (by simp; omega)
  have y4 : Below w.heap.size w w4 := y3.trans ((k4.below (fun k hk => by simp at hk; omega) (by have := HZ3.out; omega)).mono (Nat.le_refl _))
  have S4 : Hid (Src w1 w4 pb pa ps a n c l (r8 l).2) := s4
  have O4 : Hid (OOwn w4 w3.heap.size ⟨.slice a1 (obL l).name.length c1, .slice a2 (obL l).ex.length c2, .slice a3 (obL l).im.length c3, .int .i64 (obL l).data, .slice a4 (obL l).code.length c4⟩ (obL l) lE lI) := hO
  have R4' : Hid (ORead w4 ⟨.slice a1 (obL l).name.length c1, .slice a2 (obL l).ex.length c2, .slice a3 (obL l).im.length c3, .int .i64 (obL l).data, .slice a4 (obL l).code.length c4⟩ (obL l)) := R4
  have hz4 : gS < w4.heap.size := by have := k4.size; have := HZ3.out; omega
  clear H3 x3 g3 y3 S3 q0 q1 q2 q3 q4 s4 k4 hO R4
  have o5 := B5.new w4 26 ⟨.slice a1 (obL l).name.length c1, .slice a2 (obL l).ex.length c2, .slice a3 (obL l).im.length c3, .int .i64 (obL l).data, .slice a4 (obL l).code.length c4⟩
  have x5 := x4.old (ob := .cells #[.slice a1 (obL l).name.length c1, .slice a2 (obL l).ex.length c2, .slice a3 (obL l).im.length c3, .int .i64 (obL l).data, .slice a4 (obL l).code.length c4] 26 (0, 0))
  have g5 := g4.old (ob := .cells #[.slice a1 (obL l).name.length c1, .slice a2 (obL l).ex.length c2, .slice a3 (obL l).im.length c3, .int .i64 (obL l).data, .slice a4 (obL l).code.length c4] 26 (0, 0))
  have b5 : Below w4.heap.size w4 (w4.alloc (.cells #[.slice a1 (obL l).name.length c1, .slice a2 (obL l).ex.length c2, .slice a3 (obL l).im.length c3, .int .i64 (obL l).data, .slice a4 (obL l).code.length c4] 26 (0, 0))) := (Below.refl _ _).alloc (Nat.le_refl _) _
  have y5 := y4.trans (b5.mono y4.size)
  have S5 : Hid (Src w1 (w4.alloc (.cells #[.slice a1 (obL l).name.length c1, .slice a2 (obL l).ex.length c2, .slice a3 (obL l).im.length c3, .int .i64 (obL l).data, .slice a4 (obL l).code.length c4] 26 (0, 0))) pb pa ps a n c l (r8 l).2) := S4.out.below b5
  have O5' : Hid (OOwn (w4.alloc (.cells #[.slice a1 (obL l).name.length c1, .slice a2 (obL l).ex.length c2, .slice a3 (obL l).im.length c3, .int .i64 (obL l).data, .slice a4 (obL l).code.length c4] 26 (0, 0))) w3.heap.size ⟨.slice a1 (obL l).name.length c1, .slice a2 (obL l).ex.length c2, .slice a3 (obL l).im.length c3, .int .i64 (obL l).data, .slice a4 (obL l).code.length c4⟩ (obL l) lE lI) := O4.out.below b5
  have R5 : Hid (ORead (w4.alloc (.cells #[.slice a1 (obL l).name.length c1, .slice a2 (obL l).ex.length c2, .slice a3 (obL l).im.length c3, .int .i64 (obL l).data, .slice a4 (obL l).code.length c4] 26 (0, 0))) ⟨.slice a1 (obL l).name.length c1, .slice a2 (obL l).ex.length c2, .slice a3 (obL l).im.length c3, .int .i64 (obL l).data, .slice a4 (obL l).code.length c4⟩ (obL l)) := R4'.out.below b5
  simp only at o5
  go_upto_region 5 with fail
  generalize (w4.alloc (.cells #[.slice a1 (obL l).name.length c1, .slice a2 (obL l).ex.length c2, .slice a3 (obL l).im.length c3, .int .i64 (obL l).data, .slice a4 (obL l).code.length c4] 26 (0, 0))) = w5 at *
  clear x4 y4 g4 S4 O4 R4' b5
  generalize w4.heap.size = gO at *
  obtain ⟨q0, q1, q2, q3, q4⟩ := g5.facts
  simp only at q0 q1 q2 q3 q4
  have H4 := src_endedM S5.out
  clear q0 q1 q2 q3
  by_cases hE : (r8 l).2 = (n : Int)
  · rw [decide_eq_true hE] at H4
    have HEQ : Hid (rdOk l = objOk (obL l)) := rd_end HST.out (by rw [HL.out]; exact hE)
    clear hE
    go_wp2_with fail
    refine H4.mono ?_
    rintro e w5 ⟨rfl, rfl⟩
    obtain ⟨j0, j1, j2, j3, j4⟩ := o5.facts
    simp only at j0 j1 j2 j3 j4
    have H5 := implObjectOkM ⟨.slice a1 (obL l).name.length c1, .slice a2 (obL l).ex.length c2, .slice a3 (obL l).im.length c3, .int .i64 (obL l).data, .slice a4 (obL l).code.length c4⟩ (obL l) _ R5.out (obL_size HBY.out)
    simp only at H5
    clear H4
    go_wp2_with fail
    refine H5.mono ?_
    rintro e w6 ⟨rfl, hb⟩
    have x6 := x5.below hb x5.lt
    have o6 := o5.below hb o5.lt
    have y6 : Below w.heap.size w w6 := y5.trans (hb.mono y5.size)
    have O6 : Hid (OOwn w6 w3.heap.size ⟨.slice a1 (obL l).name.length c1, .slice a2 (obL l).ex.length c2, .slice a3 (obL l).im.length c3, .int .i64 (obL l).data, .slice a4 (obL l).code.length c4⟩ (obL l) lE lI) := O5'.out.below hb
    clear H5 j0 j1 j2 j3 j4 x5 o5 y5 g5 q4 hb S5 O5' R5
    cases hv : objOk (obL l)
    · have HNO : Hid (rdOk l = false) := by show _ = _; rw [HEQ.out]; exact hv
      clear hv
      obtain ⟨_, _, _, _, _⟩ := x6.facts
      obtain ⟨f0, f1, f2, f3, f4⟩ := x6.frozen
      go_wp2_with fail
      have R9 : B5 (((((w6.setCell ⟨w.heap.size, 0, none⟩ (.slice none 0 0)).setCell ⟨w.heap.size, 1, none⟩ (.slice none 0 0)).setCell ⟨w.heap.size, 2, none⟩ (.slice none 0 0)).setCell ⟨w.heap.size, 3, none⟩ (.int .i64 0)).setCell ⟨w.heap.size, 4, none⟩ (.slice none 0 0)) w.heap.size 26 ⟨.slice none 0 0, .slice none 0 0, .slice none 0 0, .int .i64 0, .slice none 0 0⟩ := ((((x6.set0 _).set1 _).set2 _).set3 _).set4 _
      have Y9 : Below w.heap.size w (((((w6.setCell ⟨w.heap.size, 0, none⟩ (.slice none 0 0)).setCell ⟨w.heap.size, 1, none⟩ (.slice none 0 0)).setCell ⟨w.heap.size, 2, none⟩ (.slice none 0 0)).setCell ⟨w.heap.size, 3, none⟩ (.int .i64 0)).setCell ⟨w.heap.size, 4, none⟩ (.slice none 0 0)) := ((((y6.setCell (Nat.le_refl _) _).setCell (Nat.le_refl _) _).setCell (Nat.le_refl _) _).setCell (Nat.le_refl _) _).setCell (Nat.le_refl _) _
      generalize (((((w6.setCell ⟨w.heap.size, 0, none⟩ (.slice none 0 0)).setCell ⟨w.heap.size, 1, none⟩ (.slice none 0 0)).setCell ⟨w.heap.size, 2, none⟩ (.slice none 0 0)).setCell ⟨w.heap.size, 3, none⟩ (.int .i64 0)).setCell ⟨w.heap.size, 4, none⟩ (.slice none 0 0)) = w9 at *
      obtain ⟨d0, d1, d2, d3, d4⟩ := R9.facts
      simp only at d0 d1 d2 d3 d4
      refine bodyPost_ret (v := .tuple #[.agg #[.slice none 0 0, .slice none 0 0, .slice none 0 0, .int .i64 0, .slice none 0 0], .bool false]) (by simp [results, Try.results8, go_sem, d0, d1, d2, d3, d4]) rfl ⟨⟨.slice none 0 0, .slice none 0 0, .slice none 0 0, .int .i64 0, .slice none 0 0⟩, ?_, ?_, Y9⟩
      · rw [HNO.out]
      · rw [rdR_no HNO.out]
        exact ⟨[], [], OOwn.zero _ _⟩
    · have HYES : Hid (rdOk l = true) := by show _ = _; rw [HEQ.out]; exact hv
      clear hv
      obtain ⟨j0, j1, j2, j3, j4⟩ := o6.facts
      simp only at j0 j1 j2 j3 j4
      obtain ⟨_, _, _, _, _⟩ := x6.facts
      obtain ⟨f0, f1, f2, f3, f4⟩ := x6.frozen
      go_wp2_with fail
      have R9 : B5 (((((w6.setCell ⟨w.heap.size, 0, none⟩ (.slice a1 (obL l).name.length c1)).setCell ⟨w.heap.size, 1, none⟩ (.slice a2 (obL l).ex.length c2)).setCell ⟨w.heap.size, 2, none⟩ (.slice a3 (obL l).im.length c3)).setCell ⟨w.heap.size, 3, none⟩ (.int .i64 (obL l).data)).setCell ⟨w.heap.size, 4, none⟩ (.slice a4 (obL l).code.length c4)) w.heap.size 26 ⟨.slice a1 (obL l).name.length c1, .slice a2 (obL l).ex.length c2, .slice a3 (obL l).im.length c3, .int .i64 (obL l).data, .slice a4 (obL l).code.length c4⟩ := ((((x6.set0 _).set1 _).set2 _).set3 _).set4 _
      have Y9 : Below w.heap.size w (((((w6.setCell ⟨w.heap.size, 0, none⟩ (.slice a1 (obL l).name.length c1)).setCell ⟨w.heap.size, 1, none⟩ (.slice a2 (obL l).ex.length c2)).setCell ⟨w.heap.size, 2, none⟩ (.slice a3 (obL l).im.length c3)).setCell ⟨w.heap.size, 3, none⟩ (.int .i64 (obL l).data)).setCell ⟨w.heap.size, 4, none⟩ (.slice a4 (obL l).code.length c4)) := ((((y6.setCell (Nat.le_refl _) _).setCell (Nat.le_refl _) _).setCell (Nat.le_refl _) _).setCell (Nat.le_refl _) _).setCell (Nat.le_refl _) _
      have hlw : w.heap.size < w3.heap.size := by have := HZ3.out; omega
      have C9 : Same w3.heap.size w6 (((((w6.setCell ⟨w.heap.size, 0, none⟩ (.slice a1 (obL l).name.length c1)).setCell ⟨w.heap.size, 1, none⟩ (.slice a2 (obL l).ex.length c2)).setCell ⟨w.heap.size, 2, none⟩ (.slice a3 (obL l).im.length c3)).setCell ⟨w.heap.size, 3, none⟩ (.int .i64 (obL l).data)).setCell ⟨w.heap.size, 4, none⟩ (.slice a4 (obL l).code.length c4)) := ((((Same.put hlw).trans (Same.put hlw)).trans (Same.put hlw)).trans (Same.put hlw)).trans (Same.put hlw)
      generalize (((((w6.setCell ⟨w.heap.size, 0, none⟩ (.slice a1 (obL l).name.length c1)).setCell ⟨w.heap.size, 1, none⟩ (.slice a2 (obL l).ex.length c2)).setCell ⟨w.heap.size, 2, none⟩ (.slice a3 (obL l).im.length c3)).setCell ⟨w.heap.size, 3, none⟩ (.int .i64 (obL l).data)).setCell ⟨w.heap.size, 4, none⟩ (.slice a4 (obL l).code.length c4)) = w9 at *
      obtain ⟨d0, d1, d2, d3, d4⟩ := R9.facts
      simp only at d0 d1 d2 d3 d4
      refine bodyPost_ret (v := .tuple #[.agg #[.slice a1 (obL l).name.length c1, .slice a2 (obL l).ex.length c2, .slice a3 (obL l).im.length c3, .int .i64 (obL l).data, .slice a4 (obL l).code.length c4], .bool true]) (by simp [results, Try.results8, go_sem, d0, d1, d2, d3, d4]) rfl ⟨⟨.slice a1 (obL l).name.length c1, .slice a2 (obL l).ex.length c2, .slice a3 (obL l).im.length c3, .int .i64 (obL l).data, .slice a4 (obL l).code.length c4⟩, ?_, ?_, Y9⟩
      · rw [HYES.out]
      · rw [rdR_yes HYES.out]
        exact ⟨lE, lI, (O6.out.same C9).mono (by omega)⟩
  · rw [decide_eq_false hE] at H4
    have HNO : Hid (rdOk l = false) := rd_noEnd (by rw [HL.out]; exact hE)
    clear hE
    go_wp2_with fail
    refine H4.mono ?_
    rintro e w5 ⟨rfl, rfl⟩
    clear H4
    obtain ⟨_, _, _, _, _⟩ := x5.facts
    obtain ⟨f0, f1, f2, f3, f4⟩ := x5.frozen
    go_wp2_with fail
    have R9 : B5 (((((w5.setCell ⟨w.heap.size, 0, none⟩ (.slice none 0 0)).setCell ⟨w.heap.size, 1, none⟩ (.slice none 0 0)).setCell ⟨w.heap.size, 2, none⟩ (.slice none 0 0)).setCell ⟨w.heap.size, 3, none⟩ (.int .i64 0)).setCell ⟨w.heap.size, 4, none⟩ (.slice none 0 0)) w.heap.size 26 ⟨.slice none 0 0, .slice none 0 0, .slice none 0 0, .int .i64 0, .slice none 0 0⟩ := ((((x5.set0 _).set1 _).set2 _).set3 _).set4 _
    have Y9 : Below w.heap.size w (((((w5.setCell ⟨w.heap.size, 0, none⟩ (.slice none 0 0)).setCell ⟨w.heap.size, 1, none⟩ (.slice none 0 0)).setCell ⟨w.heap.size, 2, none⟩ (.slice none 0 0)).setCell ⟨w.heap.size, 3, none⟩ (.int .i64 0)).setCell ⟨w.heap.size, 4, none⟩ (.slice none 0 0)) := ((((y5.setCell (Nat.le_refl _) _).setCell (Nat.le_refl _) _).setCell (Nat.le_refl _) _).setCell (Nat.le_refl _) _).setCell (Nat.le_refl _) _
    generalize (((((w5.setCell ⟨w.heap.size, 0, none⟩ (.slice none 0 0)).setCell ⟨w.heap.size, 1, none⟩ (.slice none 0 0)).setCell ⟨w.heap.size, 2, none⟩ (.slice none 0 0)).setCell ⟨w.heap.size, 3, none⟩ (.int .i64 0)).setCell ⟨w.heap.size, 4, none⟩ (.slice none 0 0)) = w9 at *
    obtain ⟨d0, d1, d2, d3, d4⟩ := R9.facts
    simp only at d0 d1 d2 d3 d4
    refine bodyPost_ret (v := .tuple #[.agg #[.slice none 0 0, .slice none 0 0, .slice none 0 0, .int .i64 0, .slice none 0 0], .bool false]) (by simp [results, Try.results8, go_sem, d0, d1, d2, d3, d4]) rfl ⟨⟨.slice none 0 0, .slice none 0 0, .slice none 0 0, .int .i64 0, .slice none 0 0⟩, ?_, ?_, Y9⟩
    · rw [HNO.out]
    · rw [rdR_no HNO.out]
      exact ⟨[], [], OOwn.zero _ _⟩
end Go.Proofs.Ytnhebknckgffoaa

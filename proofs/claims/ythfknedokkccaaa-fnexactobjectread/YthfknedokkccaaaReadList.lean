/- Records taken one behind the other. -/
import Derived.Test.YthfknedokkccaaaReadRec
namespace Go.Proofs.Ythfknedokkccaaa
open Go.RowKit
set_option linter.unusedVariables false
set_option linter.unusedSimpArgs false
set_option maxRecDepth 100000

theorem KeepO.same {w w' : World} {pa lo : Nat} (h : KeepO [some pa] w w') (hp : pa < lo) : Same lo w w' :=
  ⟨h.size, fun g h1 h2 => h.block g h2 (by simp; omega)⟩
theorem KeepO.grown {os : List (Option Nat)} {w w2 w3 : World} {row : Option Nat} (h : KeepO os w w2) (hg : w2.grownBy w3 row) (hr : ∀ g, row = some g → w.heap.size ≤ g) : KeepO os w w3 :=
  ⟨hg.os.trans h.os, hg.tape.trans h.tape, hg.output.trans h.output, Nat.le_trans h.size hg.size, fun g h1 h2 => (hg.block g (Nat.lt_of_lt_of_le h1 h.size) (fun e => by have := hr g e.symm; omega)).trans (h.block g h1 h2)⟩
theorem Src.grown {W w w' : World} {pb pa ps B : Nat} {a : Option Addr} {n c : Nat} {l : List Int} {t : Int} {row : Option Nat} (h : Src W w pb pa ps a n c l t) (hg : w.grownBy w' row) (hr : ∀ g, row = some g → B ≤ g) (hB : pb < B ∧ pa < B ∧ ps < B ∧ W.heap.size ≤ B) : Src W w' pb pa ps a n c l t :=
  ⟨(hg.block pb (lt_of_block h.b) (fun e => by have := hr _ e.symm; omega)).trans h.b, (hg.block pa (lt_of_block h.p) (fun e => by have := hr _ e.symm; omega)).trans h.p,
    by obtain ⟨y, z, u, v, e⟩ := h.s; exact ⟨y, z, u, v, (hg.block ps (lt_of_block e) (fun e => by have := hr _ e.symm; omega)).trans e⟩, h.row,
    h.bel.grown hg h.bel.size (fun k hk => by have := hr k hk; omega), h.low, h.len, h.cap, h.most, h.nil, h.ok⟩

theorem AL.step {wr w1 w2 w3 : World} {T B : Nat} {v v' : Value} {l : List R3} {ds : List D3} {r : R3} {d : D3} (h : AL wr T B v l ds) (hT : T ≠ 5) (hs : Same B wr w1) (hBw : B ≤ wr.heap.size)
    (hr : Hs w1 wr.heap.size r d) (hB : Bk wr.heap.size w1.heap.size r.owns) (hb : Below w1.heap.size w1 w2)
    (ho : w3.ownsRow B T 3 v' (ds.length + 1) (flat3 l ++ r.vals)) (hg : w2.grownBy w3 v.ownBlock) : AL w3 T B v' (l ++ [r]) (ds ++ [d]) := by
  have h2 : AL w2 T B v l ds := (h.same hs).below hb
  refine h2.push hT ((hr.below hb).mono hBw) ?_ ?_ ho hg
  · have hbk : Bk B wr.heap.size (owners l) := ⟨fun g hg => h.bk.1 g (List.mem_cons_of_mem _ hg), (List.pairwise_cons.1 h.bk.2).2⟩
    exact (hbk.append hB hBw hs.size).mono hb.size
  · cases hv : v.ownBlock with
    | none => exact .inl rfl
    | some g =>
      right
      intro hm
      have h3 := h.bk.1 g (by rw [hv]; simp)
      have h4 := hB.1 g hm
      omega
theorem AL.ge {w : World} {T B : Nat} {v : Value} {l : List R3} {ds : List D3} (h : AL w T B v l ds) : ∀ g, v.ownBlock = some g → B ≤ g := fun g hg => (h.bk.1 g (by rw [hg]; simp)).1

theorem wpList_appendE {w : World} {ops : Array Oper} {rest : List Oper} {o : Oper} {a : Act} {Q : Exit → Act → World → Prop} (hgd : o.guard = none) (s x : Operand)
    (ho : o.op = .call { callee := .builtin .append, args := #[s, x], argTypes := #[23, 23] })
    (base : Nat) (v : Value) (n : Nat) (l : List R3) (hs : a.eval s = v) (hown : w.ownsRow base 41 3 v n (flat3 l))
    (g : Nat) (r : R3) (hx : a.eval x = .slice (some ⟨g, 0, none⟩) 1 1) (hr : B3 w g 41 r.x r.y r.z) (h1 : ∀ u ∈ r.vals, u.oneCell' = true)
    (hsz : n ≤ 1000) (hbase : base ≤ w.heap.size)
    (h : ∀ v' w', w'.ownsRow base 41 3 v' (n + 1) (flat3 l ++ r.vals) → w.grownBy w' v.ownBlock → wpList Try.prog ops Q rest (a.put o.dst v') w') : wpList Try.prog ops Q (o :: rest) a w := by
  obtain ⟨i0, hi, hz0, hz1, hz2⟩ := info_parts infoE
  refine wpList_append_own w hgd s x 23 ho base 41 i0 (.agg #[.slice none 0 0, .int .i64 0, .int .i64 0]) 3 40 Try.underlying23 hi hz0 hz1 hz2 rfl (by decide) v n _ hs hown ⟨g, 0, none⟩ 1 1 r.vals hx rfl ?_ h1 (by unfold maxLen; omega) (by omega) hbase ?_
  · obtain ⟨q0, q1, q2, _⟩ := hr.facts
    intro j u hu
    match j, hu with
    | 0, hu => simp [R3.vals] at hu; subst hu; exact q0
    | 1, hu => simp [R3.vals] at hu; subst hu; exact q1
    | 2, hu => simp [R3.vals] at hu; subst hu; exact q2
    | j + 3, hu => simp [R3.vals] at hu
  · intro v' w' ho' hg' _
    exact h v' w' ho' hg'

set_option maxHeartbeats 4000000 in
theorem takeEM {W w : World} {pb pa ps : Nat} {a : Option Addr} {n c : Nat} {l : List Int} {t : Int} (h : Src W w pb pa ps a n c l t) (y2 y3 y4 : Value) (k : Nat) (hk : k ≤ 8) :
    Calls Try.prog 39 #[.int .i64 k, .func (Fn.func 40) #[.agg #[.func (Fn.func 31) #[] #[.pointer (some ⟨pb, 0, none⟩), .pointer (some ⟨pa, 0, none⟩)], .func (Fn.func 33) #[] #[.pointer (some ⟨pb, 0, none⟩), .pointer (some ⟨pa, 0, none⟩)], y2, y3, y4]] #[]] w fun e w' => ∃ a' c' l', e = .returned (.slice a' k c') ∧ AL w' 41 w.heap.size (.slice a' k c') l' (rep (exN l) k t).1 ∧ Src W w' pb pa ps a n c l (rep (exN l) k t).2 ∧ KeepO [some pa] w w' := by
  have hB : Hid (pb < w.heap.size ∧ pa < w.heap.size ∧ ps < w.heap.size ∧ W.heap.size ≤ w.heap.size) := ⟨lt_of_block h.b, lt_of_block h.p, (by obtain ⟨_, _, _, _, e⟩ := h.s; exact lt_of_block e), h.bel.size⟩
  have H0 : Hid (∃ l', AL w 41 w.heap.size (.slice none 0 0) l' (rep (exN l) 0 t).1 ∧ Src W w pb pa ps a n c l (rep (exN l) 0 t).2 ∧ KeepO [some pa] w w) := ⟨[], AL.nil _ _ _, h, KeepO.refl _ _⟩
  clear h
  go_enter Try.func39, Try.ntmps39
  go_wp2_with fail
  go_loopw [5, 7] (fun v i wr => ∃ j : Nat, j ≤ k ∧ i = .int .i64 j ∧ ∃ a' c', v = .slice a' j c' ∧ Hid (∃ l', AL wr 41 w.heap.size (.slice a' j c') l' (rep (exN l) j t).1 ∧ Src W wr pb pa ps a n c l (rep (exN l) j t).2 ∧ KeepO [some pa] w wr)) (fun _ i _ => k - (intOf i).toNat)
  case atStart => exact ⟨0, Nat.zero_le _, rfl, none, 0, rfl, H0.out⟩
  case round =>
    obtain ⟨j, hj, rfl, a', c', rfl, HR⟩ := hrel
    by_cases hlt : j < k
    · obtain ⟨l', hA, hS, hK⟩ := HR.out
      have H1 := exportM hS y2 y3 y4
      have HA : Hid (AL wr 41 w.heap.size (.slice a' j c') l' (rep (exN l) j t).1) := hA
      have HK : Hid (KeepO [some pa] w wr) := hK
      have hwr : w.heap.size ≤ wr.heap.size := hK.size
      clear hA hS hK HR
      go_wp2_with fail
      refine H1.mono ?_
      rintro e w1 ⟨r, rfl, hHs, hBk, hS1, hK1⟩
      obtain ⟨rx, ry, rz⟩ := r
      have hone := hHs.oneE
      have HHs : Hid (Hs w1 wr.heap.size ⟨rx, ry, rz⟩ (exN l (rep (exN l) j t).2).1) := hHs
      have HBk : Hid (Bk wr.heap.size w1.heap.size (R3.owns ⟨rx, ry, rz⟩)) := hBk
      have HS1 : Hid (Src W w1 pb pa ps a n c l (exN l (rep (exN l) j t).2).2) := hS1
      have HK1 : Hid (KeepO [some pa] wr w1) := hK1
      have hw1 : wr.heap.size ≤ w1.heap.size := hK1.size
      obtain ⟨⟨ax, cx, ex, _⟩, ey, ez⟩ := hHs
      simp only at ex ey ez
      subst ex ey ez
      clear hBk hS1 hK1 H1
      have x2 := B3.new w1 41 (.slice ax (getT l (rep (exN l) j t).2).1.length cx) (.int .i64 (getL l (getT l (rep (exN l) j t).2).2).1) (.int .i64 (getL l (getL l (getT l (rep (exN l) j t).2).2).2).1)
      have y2' : Below w1.heap.size w1 (w1.alloc (.cells #[.slice ax (getT l (rep (exN l) j t).2).1.length cx, .int .i64 (getL l (getT l (rep (exN l) j t).2).2).1, .int .i64 (getL l (getL l (getT l (rep (exN l) j t).2).2).2).1] 41 (0, 0))) := (Below.refl _ _).alloc (Nat.le_refl _) _
      have HO : Hid ((w1.alloc (.cells #[.slice ax (getT l (rep (exN l) j t).2).1.length cx, .int .i64 (getL l (getT l (rep (exN l) j t).2).2).1, .int .i64 (getL l (getL l (getT l (rep (exN l) j t).2).2).2).1] 41 (0, 0))).ownsRow w.heap.size 41 3 (.slice a' j c') j (flat3 l')) := by
        have h1 := (((HA.out.same (HK1.out.same hB.out.2.1)).below y2').own).row
        rwa [rep_len] at h1
      go_wp2_with (at_builtin; refine wpList_appendE rfl _ _ rfl w.heap.size _ j l' rfl HO.out w1.heap.size ⟨.slice ax (getT l (rep (exN l) j t).2).1.length cx, .int .i64 (getL l (getT l (rep (exN l) j t).2).2).1, .int .i64 (getL l (getL l (getT l (rep (exN l) j t).2).2).2).1⟩ rfl x2 hone (by omega) (by simp; omega) ?_)
      intro v3 w3 ho3 hg3
      have hA3 : AL w3 41 w.heap.size v3 (l' ++ [⟨.slice ax (getT l (rep (exN l) j t).2).1.length cx, .int .i64 (getL l (getT l (rep (exN l) j t).2).2).1, .int .i64 (getL l (getL l (getT l (rep (exN l) j t).2).2).2).1⟩]) ((rep (exN l) j t).1 ++ [(exN l (rep (exN l) j t).2).1]) :=
        HA.out.step (by decide) (HK1.out.same hB.out.2.1) hwr HHs.out HBk.out y2' (by rw [rep_len]; exact ho3) hg3
      have hS3 : Src W w3 pb pa ps a n c l (rep (exN l) (j + 1) t).2 := (HS1.out.below y2').grown hg3 HA.out.ge hB.out
      have hK3 : KeepO [some pa] w w3 := ((HK.out.trans HK1.out).trans (Below.keepO y2' _)).grown hg3 HA.out.ge
      obtain ⟨a3, c3, e3, _⟩ := hA3.shape
      have e3' : v3 = .slice a3 (j + 1) c3 := by rw [e3]; simp [rep_len]
      subst e3'
      have HF : Hid (∃ l'', AL w3 41 w.heap.size (.slice a3 (j + 1) c3) l'' (rep (exN l) (j + 1) t).1 ∧ Src W w3 pb pa ps a n c l (rep (exN l) (j + 1) t).2 ∧ KeepO [some pa] w w3) := ⟨_, hA3, hS3, hK3⟩
      clear hA3 hS3 hK3 ho3 hg3 HO x2 y2' HA HK HS1 HHs HBk HK1 hone e3
      go_wp2_with fail
      go_roundw
      case rel => exact ⟨j + 1, by omega, by go_num, a3, c3, rfl, HF⟩
      case measure => simp [intOf]; omega
    · have : j = k := by omega
      subst this
      go_wp2_with fail
      go_ret
      obtain ⟨l', hA, hS, hK⟩ := HR.out
      exact ⟨_, _, l', rfl, hA, hS, hK⟩

theorem wpList_appendM {w : World} {ops : Array Oper} {rest : List Oper} {o : Oper} {a : Act} {Q : Exit → Act → World → Prop} (hgd : o.guard = none) (s x : Operand)
    (ho : o.op = .call { callee := .builtin .append, args := #[s, x], argTypes := #[24, 24] })
    (base : Nat) (v : Value) (n : Nat) (l : List R3) (hs : a.eval s = v) (hown : w.ownsRow base 43 3 v n (flat3 l))
    (g : Nat) (r : R3) (hx : a.eval x = .slice (some ⟨g, 0, none⟩) 1 1) (hr : B3 w g 43 r.x r.y r.z) (h1 : ∀ u ∈ r.vals, u.oneCell' = true)
    (hsz : n ≤ 1000) (hbase : base ≤ w.heap.size)
    (h : ∀ v' w', w'.ownsRow base 43 3 v' (n + 1) (flat3 l ++ r.vals) → w.grownBy w' v.ownBlock → wpList Try.prog ops Q rest (a.put o.dst v') w') : wpList Try.prog ops Q (o :: rest) a w := by
  obtain ⟨i0, hi, hz0, hz1, hz2⟩ := info_parts infoM
  refine wpList_append_own w hgd s x 24 ho base 43 i0 (.agg #[.slice none 0 0, .slice none 0 0, .int .i64 0]) 3 56 Try.underlying24 hi hz0 hz1 hz2 rfl (by decide) v n _ hs hown ⟨g, 0, none⟩ 1 1 r.vals hx rfl ?_ h1 (by unfold maxLen; omega) (by omega) hbase ?_
  · obtain ⟨q0, q1, q2, _⟩ := hr.facts
    intro j u hu
    match j, hu with
    | 0, hu => simp [R3.vals] at hu; subst hu; exact q0
    | 1, hu => simp [R3.vals] at hu; subst hu; exact q1
    | 2, hu => simp [R3.vals] at hu; subst hu; exact q2
    | j + 3, hu => simp [R3.vals] at hu
  · intro v' w' ho' hg' _
    exact h v' w' ho' hg'

set_option maxHeartbeats 4000000 in
theorem takeMM {W w : World} {pb pa ps : Nat} {a : Option Addr} {n c : Nat} {l : List Int} {t : Int} (h : Src W w pb pa ps a n c l t) (y2 y3 y4 : Value) (k : Nat) (hk : k ≤ 8) :
    Calls Try.prog 41 #[.int .i64 k, .func (Fn.func 42) #[.agg #[.func (Fn.func 31) #[] #[.pointer (some ⟨pb, 0, none⟩), .pointer (some ⟨pa, 0, none⟩)], .func (Fn.func 33) #[] #[.pointer (some ⟨pb, 0, none⟩), .pointer (some ⟨pa, 0, none⟩)], y2, y3, y4]] #[]] w fun e w' => ∃ a' c' l', e = .returned (.slice a' k c') ∧ AL w' 43 w.heap.size (.slice a' k c') l' (rep (imN l) k t).1 ∧ Src W w' pb pa ps a n c l (rep (imN l) k t).2 ∧ KeepO [some pa] w w' := by
  have hB : Hid (pb < w.heap.size ∧ pa < w.heap.size ∧ ps < w.heap.size ∧ W.heap.size ≤ w.heap.size) := ⟨lt_of_block h.b, lt_of_block h.p, (by obtain ⟨_, _, _, _, e⟩ := h.s; exact lt_of_block e), h.bel.size⟩
  have H0 : Hid (∃ l', AL w 43 w.heap.size (.slice none 0 0) l' (rep (imN l) 0 t).1 ∧ Src W w pb pa ps a n c l (rep (imN l) 0 t).2 ∧ KeepO [some pa] w w) := ⟨[], AL.nil _ _ _, h, KeepO.refl _ _⟩
  clear h
  go_enter Try.func41, Try.ntmps41
  go_wp2_with fail
  go_loopw [5, 7] (fun v i wr => ∃ j : Nat, j ≤ k ∧ i = .int .i64 j ∧ ∃ a' c', v = .slice a' j c' ∧ Hid (∃ l', AL wr 43 w.heap.size (.slice a' j c') l' (rep (imN l) j t).1 ∧ Src W wr pb pa ps a n c l (rep (imN l) j t).2 ∧ KeepO [some pa] w wr)) (fun _ i _ => k - (intOf i).toNat)
  case atStart => exact ⟨0, Nat.zero_le _, rfl, none, 0, rfl, H0.out⟩
  case round =>
    obtain ⟨j, hj, rfl, a', c', rfl, HR⟩ := hrel
    by_cases hlt : j < k
    · obtain ⟨l', hA, hS, hK⟩ := HR.out
      have H1 := importedM hS y2 y3 y4
      have HA : Hid (AL wr 43 w.heap.size (.slice a' j c') l' (rep (imN l) j t).1) := hA
      have HK : Hid (KeepO [some pa] w wr) := hK
      have hwr : w.heap.size ≤ wr.heap.size := hK.size
      clear hA hS hK HR
      go_wp2_with fail
      refine H1.mono ?_
      rintro e w1 ⟨r, rfl, hHs, hBk, hS1, hK1⟩
      obtain ⟨rx, ry, rz⟩ := r
      have hone := hHs.oneE
      have HHs : Hid (Hs w1 wr.heap.size ⟨rx, ry, rz⟩ (imN l (rep (imN l) j t).2).1) := hHs
      have HBk : Hid (Bk wr.heap.size w1.heap.size (R3.owns ⟨rx, ry, rz⟩)) := hBk
      have HS1 : Hid (Src W w1 pb pa ps a n c l (imN l (rep (imN l) j t).2).2) := hS1
      have HK1 : Hid (KeepO [some pa] wr w1) := hK1
      have hw1 : wr.heap.size ≤ w1.heap.size := hK1.size
      obtain ⟨⟨ax, cx, ex, _⟩, ⟨ay, cy, ey, _⟩, ez⟩ := hHs
      simp only at ex ey ez
      subst ex ey ez
      clear hBk hS1 hK1 H1
      have x2 := B3.new w1 43 (.slice ax (getT l (rep (imN l) j t).2).1.length cx) (.slice ay (getT l (getT l (rep (imN l) j t).2).2).1.length cy) (.int .i64 (getL l (getT l (getT l (rep (imN l) j t).2).2).2).1)
      have y2' : Below w1.heap.size w1 (w1.alloc (.cells #[.slice ax (getT l (rep (imN l) j t).2).1.length cx, .slice ay (getT l (getT l (rep (imN l) j t).2).2).1.length cy, .int .i64 (getL l (getT l (getT l (rep (imN l) j t).2).2).2).1] 43 (0, 0))) := (Below.refl _ _).alloc (Nat.le_refl _) _
      have HO : Hid ((w1.alloc (.cells #[.slice ax (getT l (rep (imN l) j t).2).1.length cx, .slice ay (getT l (getT l (rep (imN l) j t).2).2).1.length cy, .int .i64 (getL l (getT l (getT l (rep (imN l) j t).2).2).2).1] 43 (0, 0))).ownsRow w.heap.size 43 3 (.slice a' j c') j (flat3 l')) := by
        have h1 := (((HA.out.same (HK1.out.same hB.out.2.1)).below y2').own).row
        rwa [rep_len] at h1
      go_wp2_with (at_builtin; refine wpList_appendM rfl _ _ rfl w.heap.size _ j l' rfl HO.out w1.heap.size ⟨.slice ax (getT l (rep (imN l) j t).2).1.length cx, .slice ay (getT l (getT l (rep (imN l) j t).2).2).1.length cy, .int .i64 (getL l (getT l (getT l (rep (imN l) j t).2).2).2).1⟩ rfl x2 hone (by omega) (by simp; omega) ?_)
      intro v3 w3 ho3 hg3
      have hA3 : AL w3 43 w.heap.size v3 (l' ++ [⟨.slice ax (getT l (rep (imN l) j t).2).1.length cx, .slice ay (getT l (getT l (rep (imN l) j t).2).2).1.length cy, .int .i64 (getL l (getT l (getT l (rep (imN l) j t).2).2).2).1⟩]) ((rep (imN l) j t).1 ++ [(imN l (rep (imN l) j t).2).1]) :=
        HA.out.step (by decide) (HK1.out.same hB.out.2.1) hwr HHs.out HBk.out y2' (by rw [rep_len]; exact ho3) hg3
      have hS3 : Src W w3 pb pa ps a n c l (rep (imN l) (j + 1) t).2 := (HS1.out.below y2').grown hg3 HA.out.ge hB.out
      have hK3 : KeepO [some pa] w w3 := ((HK.out.trans HK1.out).trans (Below.keepO y2' _)).grown hg3 HA.out.ge
      obtain ⟨a3, c3, e3, _⟩ := hA3.shape
      have e3' : v3 = .slice a3 (j + 1) c3 := by rw [e3]; simp [rep_len]
      subst e3'
      have HF : Hid (∃ l'', AL w3 43 w.heap.size (.slice a3 (j + 1) c3) l'' (rep (imN l) (j + 1) t).1 ∧ Src W w3 pb pa ps a n c l (rep (imN l) (j + 1) t).2 ∧ KeepO [some pa] w w3) := ⟨_, hA3, hS3, hK3⟩
      clear hA3 hS3 hK3 ho3 hg3 HO x2 y2' HA HK HS1 HHs HBk HK1 hone e3
      go_wp2_with fail
      go_roundw
      case rel => exact ⟨j + 1, by omega, by go_num, a3, c3, rfl, HF⟩
      case measure => simp [intOf]; omega
    · have : j = k := by omega
      subst this
      go_wp2_with fail
      go_ret
      obtain ⟨l', hA, hS, hK⟩ := HR.out
      exact ⟨_, _, l', rfl, hA, hS, hK⟩
end Go.Proofs.Ythfknedokkccaaa

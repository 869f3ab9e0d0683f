/- Marks over a script of one's own: laid, and looked for. -/
import Derived.Test.YtpkbeeicffoaoaaBkOwn
namespace Go.Proofs.Ytpkbeeicffoaoaa
open Go.RowKit
set_option linter.unusedVariables false
set_option linter.unusedSimpArgs false
set_option maxRecDepth 100000

/-! Arguments -/
def gmark (k : Int) : Ag := ⟨k % 3 == 0, k + 1⟩
def gmarks (k n : Nat) : List Ag := (List.range n).map fun i => gmark ((k + 2 * i : Nat) : Int)
theorem gmarks_len (k n : Nat) : (gmarks k n).length = n := by simp [gmarks]
theorem gmarks_at {k n i : Nat} (h : i < n) : (gmarks k n)[i]? = some (gmark ((k + 2 * i : Nat) : Int)) := by simp [gmarks, h]
theorem flatG_set (l : List Ag) (j : Nat) (x : Ag) (hj : j < l.length) : ((flatG l).set (j * 2) (.bool x.arr)).set (j * 2 + 1) (.int .i64 x.n) = flatG (l.set j x) := by
  induction l generalizing j with
  | nil => simp at hj
  | cons u l ih =>
    cases j with
    | zero => simp [flatG, Ag.vals]
    | succ j =>
      have e' : ∀ i q (m : List Value), ((u.vals ++ m).set ((j + 1) * 2 + i) q) = u.vals ++ m.set (j * 2 + i) q := by
        intro i q m
        have e1 : (j + 1) * 2 + i = u.vals.length + (j * 2 + i) := by simp [Ag.vals]; omega
        rw [e1, List.set_append_right _ _ (by omega), Nat.add_sub_cancel_left]
      have e0 : ∀ q (m : List Value), ((u.vals ++ m).set ((j + 1) * 2) q) = u.vals ++ m.set (j * 2) q := fun q m => e' 0 q m
      rw [flatG, e0, e', ih j (by simpa using hj)]
      rfl
def gTo (k : Nat) (l : List Ag) (j : Nat) : List Ag := (gmarks k l.length).take j ++ l.drop j
theorem gTo_len (k : Nat) (l : List Ag) (j : Nat) (hj : j ≤ l.length) : (gTo k l j).length = l.length := by
  unfold gTo
  rw [List.length_append, List.length_take, gmarks_len, List.length_drop]; omega
theorem gTo_next {k : Nat} {l : List Ag} {j : Nat} (h : j < l.length) : (gTo k l j).set j (gmark ((k + 2 * j : Nat) : Int)) = gTo k l (j + 1) := by
  unfold gTo
  have e : ((gmarks k l.length).take j).length = j := by rw [List.length_take, gmarks_len]; omega
  obtain ⟨hk, hx⟩ := List.getElem?_eq_some_iff.1 (gmarks_at (k := k) h)
  rw [List.set_append_right _ _ (by omega), e, Nat.sub_self, List.drop_eq_getElem_cons h, List.set_cons_zero, List.take_succ_eq_append_getElem hk, hx]
  simp

set_option maxHeartbeats 4000000 in
theorem markAg (lo : Nat) (gv : Value) (l : List Ag) (k : Nat) (w : World) (hr : w.ownsRow lo 89 2 gv l.length (flatG l)) (hk : k + 2 * l.length ≤ 10000000000000) :
    Calls Try.prog 32 #[gv, .int .i64 k] w fun e w' => e = .returned (.int .i64 ((k + 2 * l.length : Nat) : Int)) ∧ w'.ownsRow lo 89 2 gv l.length (flatG (gmarks k l.length)) ∧ w.grownBy w' gv.ownBlock := by
  have H0 : Hid (w.ownsRow lo 89 2 gv l.length (flatG (gTo k l 0)) ∧ w.grownBy w gv.ownBlock) := ⟨by simpa [gTo] using hr, grown_refl _ _⟩
  obtain ⟨a, c, rfl, hc1, hc2, hc3, hc4⟩ := owns_shape hr
  obtain ⟨n, hn⟩ : ∃ z, z = l.length := ⟨_, rfl⟩
  have HN9 : Hid (l.length = n) := hn.symm
  rw [← hn] at hc1 hc4 hk H0 ⊢
  clear hr hn
  have hn9 : n ≤ 9223372036854775807 := by omega
  go_enter Try.func32, Try.ntmps32
  go_wp2_with fail
  go_loopw [1, 5] (fun kk i wr => ∃ j : Nat, j ≤ n ∧ i = .int .i64 j ∧ kk = .int .i64 ((k : Int) + 2 * (j : Int)) ∧ Hid (wr.ownsRow lo 89 2 (.slice a n c) n (flatG (gTo k l j)) ∧ w.grownBy wr (Value.ownBlock (.slice a n c)))) (fun _ i _ => n - (intOf i).toNat)
  case atStart => exact ⟨0, Nat.zero_le _, rfl, by simp, H0⟩
  case round =>
    obtain ⟨j, hj, rfl, rfl, hst⟩ := hrel
    clear H0
    by_cases hlt : j < n
    · obtain ⟨g, rfl⟩ := hc4 (by omega)
      obtain ⟨ho, hg⟩ := hst.out
      have hjl : j < (gTo k l j).length := by rw [gTo_len _ _ _ (by rw [HN9.out]; exact hj), HN9.out]; exact hlt
      obtain ⟨y, hy⟩ : ∃ y, (gTo k l j)[j]? = some y := ⟨_, List.getElem?_eq_getElem hjl⟩
      have q0 := owns_cells ho _ _ (flatG_at (i := 0) (by omega) hy)
      have q1 := owns_cells ho _ _ (flatG_at (i := 1) (by omega) hy)
      rw [Nat.add_zero] at q0
      have f0 := ho.frozenAt (j * 2)
      have f1 := ho.frozenAt (j * 2 + 1)
      obtain ⟨kj, hkj⟩ : ∃ z : Int, z = (k : Int) + 2 * (j : Int) := ⟨_, rfl⟩
      have hkb : 0 ≤ kj ∧ kj ≤ 10000000000000 := by omega
      rw [← hkj]
      obtain ⟨o1, g1⟩ := ho.stored (j * 2) (.bool (kj % 3 == 0))
      obtain ⟨o2, g2⟩ := o1.stored (j * 2 + 1) (.int .i64 (kj + 1))
      have e7 := flatG_set (gTo k l j) j (gmark kj) hjl
      simp only [gmark] at e7
      rw [e7] at o2
      have ek : ((k + 2 * j : Nat) : Int) = kj := by omega
      have e8 := gTo_next (k := k) (show j < l.length by rw [HN9.out]; exact hlt)
      rw [ek] at e8
      simp only [gmark] at e8
      rw [e8] at o2
      have HF : Hid _ := And.intro o2 (grown_trans hg (grown_trans g1 g2))
      have HKJ : Hid (kj = (k : Int) + 2 * (j : Int)) := hkj
      clear ho hg hst hy e7 e8 ek o1 o2 g1 g2 hkj
      try simp only [Ag.vals, List.getElem?_cons_zero, List.getElem?_cons_succ] at q0 q1
      go_wp2_with fail
      go_roundw
      case rel => exact ⟨j + 1, by omega, by go_num, by congr 1; have := HKJ.out; omega, HF⟩
      case measure => simp [intOf]; omega
    · have : n = j := by omega
      subst this
      obtain ⟨ho, hg⟩ := hst.out
      have e : gTo k l n = gmarks k n := by
        unfold gTo
        rw [HN9.out, List.take_of_length_le (by rw [gmarks_len]; exact Nat.le_refl _), List.drop_of_length_le (by rw [HN9.out]; exact Nat.le_refl _), List.append_nil]
      rw [e] at ho
      have HF : Hid _ := And.intro ho hg
      clear ho hg hst
      go_wp2_with fail
      go_ret
      exact ⟨ret_int (by omega), HF.out⟩

set_option maxHeartbeats 4000000 in
theorem heldAg (lo : Nat) (gv : Value) (n k : Nat) (w : World) (hr : w.ownsRow lo 89 2 gv n (flatG (gmarks k n))) (hk : k + 2 * n ≤ 10000000000000) :
    Calls Try.prog 33 #[gv, .int .i64 k] w fun e w' => e = .returned (.int .i64 ((k + 2 * n : Nat) : Int)) ∧ w' = w := by
  obtain ⟨a, c, rfl, hc1, hc2, hc3, hc4⟩ := owns_shape hr
  have HR : Hid (w.ownsRow lo 89 2 (.slice a n c) n (flatG (gmarks k n))) := hr
  clear hr
  have hn9 : n ≤ 9223372036854775807 := by omega
  go_enter Try.func33, Try.ntmps33
  go_wp2_with fail
  go_loop [1, 5] (fun kk i => ∃ j : Nat, j ≤ n ∧ i = .int .i64 j ∧ kk = .int .i64 ((k : Int) + 2 * (j : Int))) (fun _ i => n - (intOf i).toNat)
  case atStart => exact ⟨0, Nat.zero_le _, rfl, by simp⟩
  case round =>
    obtain ⟨j, hj, rfl, rfl⟩ := hrel
    by_cases hlt : j < n
    · obtain ⟨g, rfl⟩ := hc4 (by omega)
      have ho := HR.out
      have hy := gmarks_at (k := k) hlt
      obtain ⟨kj, hkj⟩ : ∃ z : Int, z = (k : Int) + 2 * (j : Int) := ⟨_, rfl⟩
      have ek : ((k + 2 * j : Nat) : Int) = kj := by omega
      rw [ek] at hy
      have q0 := owns_cells ho _ _ (flatG_at (i := 0) (by omega) hy)
      have q1 := owns_cells ho _ _ (flatG_at (i := 1) (by omega) hy)
      rw [Nat.add_zero] at q0
      have hkb : 0 ≤ kj ∧ kj ≤ 10000000000000 := by omega
      have HKJ : Hid (kj = (k : Int) + 2 * (j : Int)) := hkj
      rw [← hkj]
      clear ho hy ek hkj
      try simp only [Ag.vals, gmark, List.getElem?_cons_zero, List.getElem?_cons_succ] at q0 q1
      go_wp2_with fail
      go_round
      case rel => exact ⟨j + 1, by omega, by go_num, by congr 1; have := HKJ.out; omega⟩
      case measure => simp [intOf]; omega
    · have : n = j := by omega
      subst this
      go_wp2_with fail
      go_ret
      exact ⟨ret_int (by omega), rfl⟩

/-! Actions -/
theorem flatA_app (u : Value × Ac) (j : Nat) : (∀ i q (m : List Value), ((u.2.vals u.1 ++ m).set ((j + 1) * 5 + i) q) = u.2.vals u.1 ++ m.set (j * 5 + i) q) ∧ (∀ q (m : List Value), ((u.2.vals u.1 ++ m).set ((j + 1) * 5) q) = u.2.vals u.1 ++ m.set (j * 5) q) := by
  have e' : ∀ i q (m : List Value), ((u.2.vals u.1 ++ m).set ((j + 1) * 5 + i) q) = u.2.vals u.1 ++ m.set (j * 5 + i) q := by
    intro i q m
    have e1 : (j + 1) * 5 + i = (u.2.vals u.1).length + (j * 5 + i) := by simp [Ac.vals]; omega
    rw [e1, List.set_append_right _ _ (by omega), Nat.add_sub_cancel_left]
  exact ⟨e', fun q m => e' 0 q m⟩
theorem flatA_set3 : ∀ {l : List (Value × Ac)} {j : Nat} {v : Value} {r : Ac}, l[j]? = some (v, r) → ∀ x y z : Int, (((flatA l).set (j * 5) (.int .i64 x)).set (j * 5 + 1) (.int .i64 y)).set (j * 5 + 2) (.int .i64 z) = flatA (l.set j (v, ⟨x, y, z, r.args, r.n⟩)) := by
  intro l
  induction l with
  | nil => intro j v r h; simp at h
  | cons u l ih =>
    intro j v r h x y z
    cases j with
    | zero =>
      simp only [List.getElem?_cons_zero, Option.some.injEq] at h
      subst h
      simp [flatA, Ac.vals]
    | succ j =>
      rw [List.getElem?_cons_succ] at h
      rw [flatA, (flatA_app u j).2, (flatA_app u j).1, (flatA_app u j).1, ih h]
      rfl
theorem flatA_set1 : ∀ {l : List (Value × Ac)} {j : Nat} {v : Value} {r : Ac}, l[j]? = some (v, r) → ∀ x : Int, (flatA l).set (j * 5 + 4) (.int .i64 x) = flatA (l.set j (v, ⟨r.kind, r.to, r.proc, r.args, x⟩)) := by
  intro l
  induction l with
  | nil => intro j v r h; simp at h
  | cons u l ih =>
    intro j v r h x
    cases j with
    | zero =>
      simp only [List.getElem?_cons_zero, Option.some.injEq] at h
      subst h
      simp [flatA, Ac.vals]
    | succ j =>
      rw [List.getElem?_cons_succ] at h
      rw [flatA, (flatA_app u j).1, ih h]
      rfl
theorem Cda.part {w : World} : ∀ {l : List (Value × Ac)} {lo hi j : Nat} {x : Value × Ac}, Cda w lo hi l → lo ≤ hi → l[j]? = some x → ∃ p q, lo ≤ p ∧ p ≤ q ∧ q ≤ hi ∧ Pc w 89 2 p q x.1 x.2.args.length (flatG x.2.args) ∧ Cda w lo p (l.take j) ∧ Cda w q hi (l.drop (j + 1)) := by
  intro l
  induction l with
  | nil => intro lo hi j x _ _ h; simp at h
  | cons y l ih =>
    intro lo hi j x h hl hx
    obtain ⟨m, a, b, e1, e2⟩ := h
    cases j with
    | zero =>
      simp only [List.getElem?_cons_zero, Option.some.injEq] at hx
      subst hx
      exact ⟨lo, m, Nat.le_refl _, a, b, e1, trivial, by simpa using e2⟩
    | succ j =>
      rw [List.getElem?_cons_succ] at hx
      obtain ⟨p, q, h1, h2, h3, h4, h6, h7⟩ := ih e2 b hx
      exact ⟨p, q, by omega, h2, h3, h4, ⟨m, a, h1, e1, h6⟩, by simpa using h7⟩
theorem Cda.join {w : World} : ∀ {l m : List (Value × Ac)} {lo p q hi : Nat} {x : Value × Ac}, Cda w lo p l → lo ≤ p → p ≤ q → q ≤ hi → Pc w 89 2 p q x.1 x.2.args.length (flatG x.2.args) → Cda w q hi m → Cda w lo hi (l ++ x :: m) := by
  intro l
  induction l with
  | nil =>
    intro m lo p q hi x h a b c h1 h2
    exact ⟨q, by omega, c, h1.wide a (Nat.le_refl _), h2⟩
  | cons y l ih =>
    intro m lo p q hi x h a b c h1 h2
    obtain ⟨m', a', b', e1, e2⟩ := h
    exact ⟨m', a', by omega, e1, ih e2 b' b c h1 h2⟩
theorem set_split {α : Type} {l : List α} {j : Nat} {x : α} (h : j < l.length) : l.set j x = l.take j ++ x :: l.drop (j + 1) := List.set_eq_take_append_cons_drop .. ▸ by simp [h]

def Ac.wt (r : Ac) : Nat := 4 + 2 * r.args.length
def awt : List (Value × Ac) → Nat
  | [] => 0
  | x :: l => x.2.wt + awt l
def Ac.mark (k : Nat) (r : Ac) : Ac := ⟨(k : Int), ((k + 1 : Nat) : Int), ((k + 2 : Nat) : Int), gmarks (k + 3) r.args.length, ((k + 3 + 2 * r.args.length : Nat) : Int)⟩
def mkA (k : Nat) : List (Value × Ac) → List (Value × Ac)
  | [] => []
  | x :: l => (x.1, x.2.mark k) :: mkA (k + x.2.wt) l
theorem mkA_len (k : Nat) (l : List (Value × Ac)) : (mkA k l).length = l.length := by
  induction l generalizing k with
  | nil => rfl
  | cons d l ih => simp [mkA, ih]
theorem awt_append (l m : List (Value × Ac)) : awt (l ++ m) = awt l + awt m := by
  induction l with
  | nil => simp [awt]
  | cons x l ih => simp [awt, ih]; omega
theorem mkA_append (k : Nat) (l m : List (Value × Ac)) : mkA k (l ++ m) = mkA k l ++ mkA (k + awt l) m := by
  induction l generalizing k with
  | nil => simp [mkA, awt]
  | cons x l ih => simp [mkA, awt, ih, Nat.add_assoc]
theorem awt_next {l : List (Value × Ac)} {j : Nat} {x : Value × Ac} (h : l[j]? = some x) : awt (l.take (j + 1)) = awt (l.take j) + x.2.wt := by
  obtain ⟨hk, rfl⟩ := List.getElem?_eq_some_iff.1 h
  rw [List.take_succ_eq_append_getElem hk, awt_append]
  simp [awt]
theorem awt_take (l : List (Value × Ac)) (k : Nat) : awt (l.take k) ≤ awt l := by
  have := awt_append (l.take k) (l.drop k)
  rw [List.take_append_drop] at this
  omega
/-- The first j actions are marked. -/
def mkTo (k : Nat) (l : List (Value × Ac)) (j : Nat) : List (Value × Ac) := mkA k (l.take j) ++ l.drop j
theorem mkTo_len (k : Nat) (l : List (Value × Ac)) (j : Nat) : (mkTo k l j).length = l.length := by
  unfold mkTo
  rw [List.length_append, mkA_len, List.length_take, List.length_drop]; omega
theorem mkTo_at {k : Nat} {l : List (Value × Ac)} {j : Nat} {x : Value × Ac} (h : l[j]? = some x) : (mkTo k l j)[j]? = some x := by
  have hj := (List.getElem?_eq_some_iff.1 h).1
  unfold mkTo
  have e : (mkA k (l.take j)).length = j := by rw [mkA_len, List.length_take]; omega
  rw [List.getElem?_append_right (by omega), e, Nat.sub_self, List.getElem?_drop]
  exact h
theorem mkTo_next {k : Nat} {l : List (Value × Ac)} {j : Nat} {x : Value × Ac} (h : l[j]? = some x) : (mkTo k l j).set j (x.1, x.2.mark (k + awt (l.take j))) = mkTo k l (j + 1) := by
  obtain ⟨hj, hx⟩ := List.getElem?_eq_some_iff.1 h
  unfold mkTo
  have e : (mkA k (l.take j)).length = j := by rw [mkA_len, List.length_take]; omega
  rw [List.set_append_right _ _ (by omega), e, Nat.sub_self, drop_at h, List.set_cons_zero, List.take_succ_eq_append_getElem hj, mkA_append, hx]
  simp [mkA]
theorem mkTo_all (k : Nat) (l : List (Value × Ac)) : mkTo k l l.length = mkA k l := by simp [mkTo]

theorem out_of {w w' : World} {T k a b p q n : Nat} {v : Value} {xs : List Value} (h : Pc w T k p q v n xs) (hp : a ≤ p) (hq : q ≤ b) (hg : w.grownBy w' v.ownBlock) : Out a b w w' :=
  ⟨hg.os, hg.tape, hg.output, hg.size, fun g hl ho => hg.block g hl (fun e => by
    have h1 := (h.own.lt g e.symm).1
    have h2 := h.lt g e.symm
    omega)⟩

/-- How far actions have been marked. -/
structure MkS (w : World) (lo hi : Nat) (v : Value) (L : List (Value × Ac)) (wr : World) : Prop where
  sc : Sc wr lo hi v L
  out : Out lo hi w wr
/-- A store into the row of actions. -/
theorem MkS.stored {w wr w1 : World} {lo hi j : Nat} {mv v : Value} {L : List (Value × Ac)} {r r' : Ac} (h : MkS w lo hi mv L wr) (hlo : lo ≤ hi) (hx : L[j]? = some (v, r)) (hr : r'.args = r.args)
    (ho : w1.ownsRow lo 53 5 mv L.length (flatA (L.set j (v, r')))) (hg : wr.grownBy w1 mv.ownBlock) : MkS w lo hi mv (L.set j (v, r')) w1 := by
  have hj := (List.getElem?_eq_some_iff.1 hx).1
  refine ⟨⟨?_, ⟨by rw [List.length_set]; exact ho, h.sc.row.lt⟩⟩, h.out.trans (out_of h.sc.row (Nat.le_refl _) (Nat.le_refl _) hg)⟩
  have hc := h.sc.codes.stays (w' := w1) (fun g' _ _ q => grown_other h.sc.row.own hg (by decide) q)
  obtain ⟨p, q, h1, h2, h3, h4, h6, h7⟩ := hc.part hlo hx
  rw [set_split hj]
  exact Cda.join (x := (v, r')) h6 h1 h2 h3 (by show Pc _ _ _ _ _ _ r'.args.length (flatG r'.args); rw [hr]; exact h4) h7
theorem MkS.args {w wr w1 : World} {lo hi j : Nat} {mv v : Value} {L : List (Value × Ac)} {r : Ac} {as9 : List Ag} (h : MkS w lo hi mv L wr) (hlo : lo ≤ hi) (hx : L[j]? = some (v, r)) (has : as9.length = r.args.length)
    (ho : ∀ p q, Pc wr 89 2 p q v r.args.length (flatG r.args) → w1.ownsRow p 89 2 v r.args.length (flatG as9)) (hg : wr.grownBy w1 v.ownBlock) :
    MkS w lo hi mv (L.set j (v, ⟨r.kind, r.to, r.proc, as9, r.n⟩)) w1 := by
  have hj := (List.getElem?_eq_some_iff.1 hx).1
  obtain ⟨p, q, h1, h2, h3, h4, h6, h7⟩ := h.sc.codes.part hlo hx
  have own1 := ho p q h4
  have out : ∀ g, g < wr.heap.size → (g < p ∨ q ≤ g) → w1.heap[g]? = wr.heap[g]? := fun g hl ho => hg.block g hl (fun e => by have a := (h4.own.lt g e.symm).1; have b := h4.lt g e.symm; omega)
  have hlt : ∀ {g U : Nat}, (∃ cur, wr.heap[g]? = some (.cells cur U (0, 0))) → g < wr.heap.size := fun ⟨_, hc⟩ => (Array.getElem?_eq_some_iff.1 hc).1
  have hfr : flatA (L.set j (v, ⟨r.kind, r.to, r.proc, as9, r.n⟩)) = flatA L := by
    have : ∀ {l : List (Value × Ac)} {j : Nat}, l[j]? = some (v, r) → flatA (l.set j (v, ⟨r.kind, r.to, r.proc, as9, r.n⟩)) = flatA l := by
      intro l
      induction l with
      | nil => intro j h; simp at h
      | cons u l ih =>
        intro j h
        cases j with
        | zero => simp only [List.getElem?_cons_zero, Option.some.injEq] at h; subst h; rfl
        | succ j => rw [List.getElem?_cons_succ] at h; simp [flatA, ih h]
    exact this hx
  refine ⟨⟨?_, ?_⟩, h.out.trans (out_of h4 h1 h3 hg)⟩
  · rw [set_split hj]
    refine Cda.join (x := (v, ⟨r.kind, r.to, r.proc, as9, r.n⟩)) (h6.stays (fun g _ b c => out g (hlt c) (.inl b))) h1 h2 h3 ?_ (h7.stays (fun g a _ c => out g (hlt c) (.inr a)))
    show Pc w1 _ _ _ _ _ as9.length _
    rw [has]
    exact ⟨own1, h4.lt⟩
  · rw [List.length_set, hfr]
    exact h.sc.row.stays (fun g _ _ c => grown_other h4.own hg (by decide) c)

set_option maxHeartbeats 4000000 in
theorem markAc (lo hi : Nat) (mv : Value) (l : List (Value × Ac)) (k : Nat) (w : World) (hs : Sc w lo hi mv l) (hlo : lo ≤ hi) (hk : k + awt l ≤ 10000000000000) (hN : l.length ≤ 1048576) :
    Calls Try.prog 14 #[mv, .int .i64 k] w fun e w' => e = .returned (.int .i64 ((k + awt l : Nat) : Int)) ∧ MkS w lo hi mv (mkA k l) w' := by
  have H0 : Hid (MkS w lo hi mv (mkTo k l 0) w) := ⟨by simpa [mkTo, mkA] using hs, Out.refl _ _ _⟩
  obtain ⟨a, c, rfl, hc1, hc2, hc3, hc4⟩ := owns_shape hs.row.own
  obtain ⟨n, hn⟩ : ∃ z, z = l.length := ⟨_, rfl⟩
  have HN9 : Hid (l.length = n) := hn.symm
  rw [← hn] at hc1 hc4 hN H0 ⊢
  clear hs hn
  have hn9 : n ≤ 9223372036854775807 := by omega
  generalize hW : awt l = W at hk ⊢
  have HW : Hid (awt l = W) := hW
  clear hW
  go_enter Try.func14, Try.ntmps14
  go_wp2_with fail
  go_loopw [1, 5] (fun kk i wr => ∃ (j kj : Nat), j ≤ n ∧ i = .int .i64 j ∧ kk = .int .i64 kj ∧ Hid (kj = k + awt (l.take j)) ∧ Hid (MkS w lo hi (.slice a n c) (mkTo k l j) wr)) (fun _ i _ => n - (intOf i).toNat)
  case atStart => exact ⟨0, k, Nat.zero_le _, rfl, rfl, by show _ = _; simp [awt], H0⟩
  case round =>
    obtain ⟨j, kj, hj, rfl, rfl, hkj, hst⟩ := hrel
    clear H0
    by_cases hlt : j < n
    · obtain ⟨⟨v, r⟩, hx⟩ : ∃ x, l[j]? = some x := ⟨_, List.getElem?_eq_getElem (by rw [HN9.out]; exact hlt)⟩
      obtain ⟨g, rfl⟩ := hc4 (by omega)
      have st := hst.out
      have hxm : (mkTo k l j)[j]? = some (v, r) := mkTo_at hx
      have hnx := awt_next hx
      have hle := awt_take l (j + 1)
      rw [hnx, HW.out] at hle
      unfold Ac.wt at hnx hle
      simp only at hnx hle
      have hkk := hkj.out
      have row0 : wr.ownsRow lo 53 5 (.slice (some ⟨g, 0, none⟩) n c) n (flatA (mkTo k l j)) := by have := st.sc.row.own; rw [mkTo_len, HN9.out] at this; exact this
      have q0 := owns_cells row0 _ _ (flatA_at (i := 0) (by omega) hxm)
      have q1 := owns_cells row0 _ _ (flatA_at (i := 1) (by omega) hxm)
      have q2 := owns_cells row0 _ _ (flatA_at (i := 2) (by omega) hxm)
      have z0 := row0.frozenAt (j * 5)
      have z1 := row0.frozenAt (j * 5 + 1)
      have z2 := row0.frozenAt (j * 5 + 2)
      try simp only [Ac.vals, Nat.add_zero] at q0
      obtain ⟨o1, g1⟩ := row0.stored (j * 5) (.int .i64 (kj : Int))
      obtain ⟨o2, g2⟩ := o1.stored (j * 5 + 1) (.int .i64 ((kj : Int) + 1))
      obtain ⟨o3, g3⟩ := o2.stored (j * 5 + 2) (.int .i64 ((kj : Int) + 1 + 1))
      rw [flatA_set3 hxm] at o3
      have s1 := st.stored (r' := ⟨(kj : Int), (kj : Int) + 1, (kj : Int) + 1 + 1, r.args, r.n⟩) hlo hxm rfl (by rw [mkTo_len, HN9.out]; exact o3) (grown_trans (grown_trans g1 g2) g3)
      have hs1 : ((mkTo k l j).set j (v, ⟨(kj : Int), (kj : Int) + 1, (kj : Int) + 1 + 1, r.args, r.n⟩))[j]? = some (v, ⟨(kj : Int), (kj : Int) + 1, (kj : Int) + 1 + 1, r.args, r.n⟩) := by
        rw [List.getElem?_set_self (by rw [mkTo_len, HN9.out]; exact hlt)]
      have q3 := owns_cells o3 _ _ (flatA_at (i := 3) (by omega) hs1)
      obtain ⟨p, q, _, _, _, pc, _, _⟩ := s1.sc.codes.part hlo hs1
      have H1 := markAg p v r.args (kj + 3) _ pc.own (by omega)
      have HX : Hid (∀ w2, w2.ownsRow p 89 2 v r.args.length (flatG (gmarks (kj + 3) r.args.length)) → World.grownBy (((wr.setCell ⟨g, j * 5, none⟩ (.int .i64 kj)).setCell ⟨g, j * 5 + 1, none⟩ (.int .i64 ((kj : Int) + 1))).setCell ⟨g, j * 5 + 2, none⟩ (.int .i64 ((kj : Int) + 1 + 1))) w2 v.ownBlock → (∃ u, w2.cell? ⟨g, j * 5 + 4, none⟩ = some u) ∧ w2.frozen? ⟨g, j * 5 + 4, none⟩ = false ∧ MkS w lo hi (.slice (some ⟨g, 0, none⟩) n c) (mkTo k l (j + 1)) (w2.setCell ⟨g, j * 5 + 4, none⟩ (.int .i64 ((kj + 3 + 2 * r.args.length : Nat) : Int)))) := by
        intro w2 ow2 gw2
        have s2 := s1.args (as9 := gmarks (kj + 3) r.args.length) hlo hs1 (gmarks_len _ _) (fun p' q' pc' => by
          refine ⟨ow2.1, ?_⟩
          rcases ow2.2 with e | ⟨gg, cap, cur, e1, e2, e3, e4⟩
          · exact .inl e
          · exact .inr ⟨gg, cap, cur, e1, (pc'.own.lt gg (by rw [e1]; rfl)).1, e3, e4⟩) gw2
        rw [List.set_set] at s2
        have hs2 : ((mkTo k l j).set j (v, ⟨(kj : Int), (kj : Int) + 1, (kj : Int) + 1 + 1, gmarks (kj + 3) r.args.length, r.n⟩))[j]? = some (v, ⟨(kj : Int), (kj : Int) + 1, (kj : Int) + 1 + 1, gmarks (kj + 3) r.args.length, r.n⟩) := by
          rw [List.getElem?_set_self (by rw [mkTo_len, HN9.out]; exact hlt)]
        have row2 := s2.sc.row.own
        have hL2 : ((mkTo k l j).set j (v, (⟨(kj : Int), (kj : Int) + 1, (kj : Int) + 1 + 1, gmarks (kj + 3) r.args.length, r.n⟩ : Ac))).length = n := by rw [List.length_set, mkTo_len, HN9.out]
        rw [hL2] at row2
        obtain ⟨o4, g4⟩ := row2.stored (j * 5 + 4) (.int .i64 ((kj + 3 + 2 * r.args.length : Nat) : Int))
        rw [flatA_set1 hs2] at o4
        have s3 := s2.stored (r' := ⟨(kj : Int), (kj : Int) + 1, (kj : Int) + 1 + 1, gmarks (kj + 3) r.args.length, ((kj + 3 + 2 * r.args.length : Nat) : Int)⟩) hlo hs2 rfl (by rw [hL2]; exact o4) g4
        refine ⟨⟨_, owns_cells row2 _ _ (flatA_at (i := 4) (by omega) hs2)⟩, row2.frozenAt _, ?_⟩
        rw [List.set_set] at s3
        rw [← mkTo_next hx]
        simp only [Ac.mark]
        rw [← hkk]
        have e1 : ((kj + 1 : Nat) : Int) = (kj : Int) + 1 := by omega
        have e2 : ((kj + 2 : Nat) : Int) = (kj : Int) + 1 + 1 := by omega
        rw [e1, e2]
        exact s3
      have HK1 : Hid (kj + 3 + 2 * r.args.length + 1 = k + awt (l.take (j + 1))) := by show _ = _; omega
      have hb1 : kj + 3 + 2 * r.args.length ≤ 10000000000000 := by omega
      have e3 : ((kj + 3 : Nat) : Int) = (kj : Int) + 1 + 1 + 1 := by omega
      rw [e3] at H1
      clear hst st s1 hs1 hxm pc hnx hle hkk hkj hx row0 o1 o2 o3 g1 g2 g3
      try simp only [Ac.vals, List.getElem?_cons_zero, List.getElem?_cons_succ] at q1 q2 q3
      go_wp2_with fail
      refine H1.mono ?_
      rintro e w2 ⟨rfl, o2, g2⟩
      obtain ⟨⟨u4, q4⟩, z4, hf⟩ := HX.out w2 o2 g2
      have HF : Hid _ := hf
      clear HX H1 o2 g2 q0 q1 q2 q3 z0 z1 z2 hf
      go_wp2_with fail
      go_roundw
      case rel => exact ⟨j + 1, kj + 3 + 2 * r.args.length + 1, by omega, by go_num, by first | rfl | (congr 1; omega), HK1, HF⟩
      case measure => simp [intOf]; omega
    · have : n = j := by omega
      subst this
      have hkk := hkj.out
      have st := hst.out
      have e1 : l.take n = l := List.take_of_length_le (by rw [HN9.out]; exact Nat.le_refl _)
      rw [e1, HW.out] at hkk
      rw [show mkTo k l n = mkA k l by rw [← HN9.out]; exact mkTo_all k l] at st
      have HA : Hid _ := st
      clear st hst
      go_wp2_with fail
      go_ret
      exact ⟨ret_int (by omega), HA.out⟩

set_option maxHeartbeats 4000000 in
theorem heldAc (lo hi : Nat) (mv : Value) (l : List (Value × Ac)) (k : Nat) (w : World) (hs : Sc w lo hi mv (mkA k l)) (hlo : lo ≤ hi) (hk : k + awt l ≤ 10000000000000) (hN : l.length ≤ 1048576) :
    Calls Try.prog 15 #[mv, .int .i64 k] w fun e w' => e = .returned (.int .i64 ((k + awt l : Nat) : Int)) ∧ w' = w := by
  have HC : Hid (Cda w lo hi (mkA k l)) := hs.codes
  obtain ⟨a, c, rfl, hc1, hc2, hc3, hc4⟩ := owns_shape hs.row.own
  have hm := hs.row
  rw [mkA_len] at hc1 hc4 hm
  rw [mkA_len]
  have HM : Hid (w.ownsRow lo 53 5 (.slice a l.length c) l.length (flatA (mkA k l))) := hm.own
  obtain ⟨n, hn⟩ : ∃ z, z = l.length := ⟨_, rfl⟩
  have HN9 : Hid (l.length = n) := hn.symm
  rw [← hn] at hc1 hc4 hN HM ⊢
  clear hs hm hn
  have hn9 : n ≤ 9223372036854775807 := by omega
  generalize hW : awt l = W at hk ⊢
  have HW : Hid (awt l = W) := hW
  clear hW
  go_enter Try.func15, Try.ntmps15
  go_wp2_with fail
  go_loop [1, 5] (fun kk i => ∃ (j kj : Nat), j ≤ n ∧ i = .int .i64 j ∧ kk = .int .i64 kj ∧ Hid (kj = k + awt (l.take j))) (fun _ i => n - (intOf i).toNat)
  case atStart => exact ⟨0, k, Nat.zero_le _, rfl, rfl, by show _ = _; simp [awt]⟩
  case round =>
    obtain ⟨j, kj, hj, rfl, rfl, hkj⟩ := hrel
    by_cases hlt : j < n
    · obtain ⟨⟨v, r⟩, hx⟩ : ∃ x, l[j]? = some x := ⟨_, List.getElem?_eq_getElem (by rw [HN9.out]; exact hlt)⟩
      obtain ⟨g, rfl⟩ := hc4 (by omega)
      have hxm : (mkA k l)[j]? = some (v, r.mark kj) := by
        have e : mkA k l = mkA k (l.take j) ++ mkA (k + awt (l.take j)) (l.drop j) := by rw [← mkA_append, List.take_append_drop]
        have h5 : (mkA k (l.take j)).length = j := by rw [mkA_len, List.length_take, HN9.out]; omega
        rw [e, List.getElem?_append_right (by omega), h5, Nat.sub_self, drop_at hx, hkj.out]
        rfl
      have hnx := awt_next hx
      have hle := awt_take l (j + 1)
      rw [hnx, HW.out] at hle
      unfold Ac.wt at hnx hle
      simp only at hnx hle
      have hkk := hkj.out
      have q0 := owns_cells HM.out _ _ (flatA_at (i := 0) (by omega) hxm)
      have q1 := owns_cells HM.out _ _ (flatA_at (i := 1) (by omega) hxm)
      have q2 := owns_cells HM.out _ _ (flatA_at (i := 2) (by omega) hxm)
      have q3 := owns_cells HM.out _ _ (flatA_at (i := 3) (by omega) hxm)
      have q4 := owns_cells HM.out _ _ (flatA_at (i := 4) (by omega) hxm)
      obtain ⟨p, q, _, _, _, pc, _, _⟩ := HC.out.part hlo hxm
      simp only [Ac.mark, gmarks_len] at pc
      try simp only [Ac.vals, Ac.mark, Nat.add_zero, List.getElem?_cons_zero, List.getElem?_cons_succ] at q0 q1 q2 q3 q4
      have H1 := heldAg p v r.args.length (kj + 3) w pc.own (by omega)
      have HK1 : Hid (kj + 3 + 2 * r.args.length + 1 = k + awt (l.take (j + 1))) := by show _ = _; omega
      have hb1 : kj + 3 + 2 * r.args.length ≤ 10000000000000 := by omega
      have e1 : ((kj + 1 : Nat) : Int) = (kj : Int) + 1 := by omega
      have e2 : ((kj + 2 : Nat) : Int) = (kj : Int) + 1 + 1 := by omega
      have e3 : ((kj + 3 : Nat) : Int) = (kj : Int) + 1 + 1 + 1 := by omega
      rw [e1] at q1
      rw [e2] at q2
      rw [e3] at H1
      have hge : ¬ (((kj + 3 + 2 * r.args.length : Nat) : Int) < 0) := by omega
      generalize hkz : ((kj + 3 + 2 * r.args.length : Nat) : Int) = kz at *
      have HKZ : Hid (((kj + 3 + 2 * r.args.length : Nat) : Int) = kz) := hkz
      have hkz9 : kz ≤ 10000000000000 := by omega
      clear hxm hx hnx hle hkk hkj pc hkz
      go_wp2_with fail
      refine H1.mono ?_
      rintro e w2 ⟨rfl, rfl⟩
      clear H1 q0 q1 q2 q3
      go_wp2_with fail
      go_round
      case rel => exact ⟨j + 1, kj + 3 + 2 * r.args.length + 1, by omega, by go_num, by congr 1; have := HKZ.out; omega, HK1⟩
      case measure => simp [intOf]; omega
    · have : n = j := by omega
      subst this
      have hkk := hkj.out
      rw [List.take_of_length_le (by rw [HN9.out]; exact Nat.le_refl _), HW.out] at hkk
      go_wp2_with fail
      go_ret
      exact ⟨ret_int (by omega), rfl⟩
end Go.Proofs.Ytpkbeeicffoaoaa

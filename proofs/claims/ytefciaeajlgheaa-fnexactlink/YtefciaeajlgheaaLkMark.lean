/- Marks over an image of one's own: laid, and looked for. -/
import Derived.Test.YtefciaeajlgheaaLkSt
import Derived.Test.YtefciaeajlgheaaMarkT
namespace Go.Proofs.Ytefciaeajlgheaa
open Go.RowKit
set_option linter.unusedVariables false
set_option linter.unusedSimpArgs false
set_option maxRecDepth 100000

/-! Lists -/
theorem flatR_set3 : ∀ {l : List (Value × Rg)} {j : Nat} {v : Value} {r : Rg}, l[j]? = some (v, r) → ∀ x y z : Int, (((flatR l).set (j * 4) (.int .i64 x)).set (j * 4 + 1) (.int .i64 y)).set (j * 4 + 2) (.int .i64 z) = flatR (l.set j (v, ⟨x, y, z, r.code⟩)) := by
  intro l
  induction l with
  | nil => intro j v r h; simp at h
  | cons u l ih =>
    intro j v r h x y z
    cases j with
    | zero =>
      simp only [List.getElem?_cons_zero, Option.some.injEq] at h
      subst h
      simp [flatR, Rg.vals]
    | succ j =>
      rw [List.getElem?_cons_succ] at h
      have e' : ∀ i q (m : List Value), ((u.2.vals u.1 ++ m).set ((j + 1) * 4 + i) q) = u.2.vals u.1 ++ m.set (j * 4 + i) q := by
        intro i q m
        have e1 : (j + 1) * 4 + i = (u.2.vals u.1).length + (j * 4 + i) := by simp [Rg.vals]; omega
        rw [e1, List.set_append_right _ _ (by omega), Nat.add_sub_cancel_left]
      have e0 : ∀ q (m : List Value), ((u.2.vals u.1 ++ m).set ((j + 1) * 4) q) = u.2.vals u.1 ++ m.set (j * 4) q := fun q m => e' 0 q m
      rw [flatR, e0, e', e', ih h]
      rfl
theorem Cds.part {w : World} : ∀ {l : List (Value × Rg)} {lo hi j : Nat} {x : Value × Rg}, Cds w lo hi l → lo ≤ hi → l[j]? = some x → ∃ p q, lo ≤ p ∧ p ≤ q ∧ q ≤ hi ∧ Pc w 5 1 p q x.1 x.2.code.length (bV x.2.code) ∧ isB x.2.code ∧ Cds w lo p (l.take j) ∧ Cds w q hi (l.drop (j + 1)) := by
  intro l
  induction l with
  | nil => intro lo hi j x _ _ h; simp at h
  | cons y l ih =>
    intro lo hi j x h hl hx
    obtain ⟨m, a, b, e1, eb, e2⟩ := h
    cases j with
    | zero =>
      simp only [List.getElem?_cons_zero, Option.some.injEq] at hx
      subst hx
      exact ⟨lo, m, Nat.le_refl _, a, b, e1, eb, trivial, by simpa using e2⟩
    | succ j =>
      rw [List.getElem?_cons_succ] at hx
      obtain ⟨p, q, h1, h2, h3, h4, h5, h6, h7⟩ := ih e2 b hx
      exact ⟨p, q, by omega, h2, h3, h4, h5, ⟨m, a, h1, e1, eb, h6⟩, by simpa using h7⟩
theorem Cds.join {w : World} : ∀ {l m : List (Value × Rg)} {lo p q hi : Nat} {x : Value × Rg}, Cds w lo p l → lo ≤ p → p ≤ q → q ≤ hi → Pc w 5 1 p q x.1 x.2.code.length (bV x.2.code) → isB x.2.code → Cds w q hi m → Cds w lo hi (l ++ x :: m) := by
  intro l
  induction l with
  | nil =>
    intro m lo p q hi x h a b c h1 hb h2
    exact ⟨q, by omega, c, h1.wide a (Nat.le_refl _), hb, h2⟩
  | cons y l ih =>
    intro m lo p q hi x h a b c h1 hb h2
    obtain ⟨m', a', b', e1, eb, e2⟩ := h
    exact ⟨m', a', by omega, e1, eb, ih e2 b' b c h1 hb h2⟩
theorem set_split {α : Type} {l : List α} {j : Nat} {x : α} (h : j < l.length) : l.set j x = l.take j ++ x :: l.drop (j + 1) := List.set_eq_take_append_cons_drop .. ▸ by simp [h]

def Rg.wt (r : Rg) : Nat := 3 + r.code.length
def rwt : List (Value × Rg) → Nat
  | [] => 0
  | x :: l => x.2.wt + rwt l
def Rg.mark (k : Nat) (r : Rg) : Rg := ⟨(k : Int), ((k + 1 : Nat) : Int), ((k + 2 : Nat) : Int), marks (k + 3) r.code.length⟩
def mkR (k : Nat) : List (Value × Rg) → List (Value × Rg)
  | [] => []
  | x :: l => (x.1, x.2.mark k) :: mkR (k + x.2.wt) l
theorem mkR_len (k : Nat) (l : List (Value × Rg)) : (mkR k l).length = l.length := by
  induction l generalizing k with
  | nil => rfl
  | cons d l ih => simp [mkR, ih]
theorem rwt_append (l m : List (Value × Rg)) : rwt (l ++ m) = rwt l + rwt m := by
  induction l with
  | nil => simp [rwt]
  | cons x l ih => simp [rwt, ih]; omega
theorem mkR_append (k : Nat) (l m : List (Value × Rg)) : mkR k (l ++ m) = mkR k l ++ mkR (k + rwt l) m := by
  induction l generalizing k with
  | nil => simp [mkR, rwt]
  | cons x l ih => simp [mkR, rwt, ih, Nat.add_assoc]
theorem rwt_next {l : List (Value × Rg)} {j : Nat} {x : Value × Rg} (h : l[j]? = some x) : rwt (l.take (j + 1)) = rwt (l.take j) + x.2.wt := by
  obtain ⟨hk, rfl⟩ := List.getElem?_eq_some_iff.1 h
  rw [List.take_succ_eq_append_getElem hk, rwt_append]
  simp [rwt]
theorem rwt_take (l : List (Value × Rg)) (k : Nat) : rwt (l.take k) ≤ rwt l := by
  have := rwt_append (l.take k) (l.drop k)
  rw [List.take_append_drop] at this
  omega
/-- The first j regions are marked. -/
def mkTo (k : Nat) (l : List (Value × Rg)) (j : Nat) : List (Value × Rg) := mkR k (l.take j) ++ l.drop j
theorem mkTo_len (k : Nat) (l : List (Value × Rg)) (j : Nat) : (mkTo k l j).length = l.length := by
  unfold mkTo
  rw [List.length_append, mkR_len, List.length_take, List.length_drop]; omega
theorem mkTo_at {k : Nat} {l : List (Value × Rg)} {j : Nat} {x : Value × Rg} (h : l[j]? = some x) : (mkTo k l j)[j]? = some x := by
  have hj := (List.getElem?_eq_some_iff.1 h).1
  unfold mkTo
  have e : (mkR k (l.take j)).length = j := by rw [mkR_len, List.length_take]; omega
  rw [List.getElem?_append_right (by omega), e, Nat.sub_self, List.getElem?_drop]
  exact h
theorem mkTo_next {k : Nat} {l : List (Value × Rg)} {j : Nat} {x : Value × Rg} (h : l[j]? = some x) : (mkTo k l j).set j (x.1, x.2.mark (k + rwt (l.take j))) = mkTo k l (j + 1) := by
  obtain ⟨hj, hx⟩ := List.getElem?_eq_some_iff.1 h
  unfold mkTo
  have e : (mkR k (l.take j)).length = j := by rw [mkR_len, List.length_take]; omega
  rw [List.set_append_right _ _ (by omega), e, Nat.sub_self, drop_at h, List.set_cons_zero, List.take_succ_eq_append_getElem hj, mkR_append, hx]
  simp [mkR]
theorem mkTo_all (k : Nat) (l : List (Value × Rg)) : mkTo k l l.length = mkR k l := by simp [mkTo]

/-- What marks change: blocks from lo up to hi, none of them a row of words. -/
structure Tw (lo hi : Nat) (w w' : World) : Prop where
  os : w'.os = w.os
  tape : w'.tape = w.tape
  output : w'.output = w.output
  size : w.heap.size ≤ w'.heap.size
  block : ∀ g, g < w.heap.size → (g < lo ∨ hi ≤ g ∨ (∃ cur, w.heap[g]? = some (.cells cur 55 (0, 0)))) → w'.heap[g]? = w.heap[g]?
theorem Tw.refl (a b : Nat) (w : World) : Tw a b w w := ⟨rfl, rfl, rfl, Nat.le_refl _, fun _ _ _ => rfl⟩
theorem Tw.trans {a b : Nat} {u v w : World} (h : Tw a b u v) (k : Tw a b v w) : Tw a b u w :=
  ⟨k.os.trans h.os, k.tape.trans h.tape, k.output.trans h.output, Nat.le_trans h.size k.size, fun g hg ho => (k.block g (Nat.lt_of_lt_of_le hg h.size) (by
    rcases ho with e | e | ⟨c, e⟩
    · exact .inl e
    · exact .inr (.inl e)
    · exact .inr (.inr ⟨c, (h.block g hg (.inr (.inr ⟨c, e⟩))).trans e⟩))).trans (h.block g hg ho)⟩
theorem Tw.of {w w' : World} {T k a b p q n : Nat} {v : Value} {xs : List Value} (h : Pc w T k p q v n xs) (hp : a ≤ p) (hq : q ≤ b) (hT : T ≠ 55) (hg : w.grownBy w' v.ownBlock) : Tw a b w w' :=
  ⟨hg.os, hg.tape, hg.output, hg.size, fun g hl ho => hg.block g hl (fun e => by
    have h1 := (h.own.lt g e.symm).1
    have h2 := h.lt g e.symm
    rcases ho with x | x | hx
    · omega
    · omega
    · obtain ⟨c', x'⟩ := owns_type h.own e.symm
      obtain ⟨c, x⟩ := hx
      exact hT (typ_ne x' x))⟩
theorem Tw.out {a b : Nat} {w w' : World} (h : Tw a b w w') : Out a b w w' := ⟨h.os, h.tape, h.output, h.size, fun g hg ho => h.block g hg (by omega)⟩

/-- How far regions have been marked. -/
structure MkS (w : World) (lo hi : Nat) (mv : Value) (L : List (Value × Rg)) (wr : World) : Prop where
  codes : Cds wr lo hi L
  mrow : Pc wr 50 4 lo hi mv L.length (flatR L)
  tw : Tw lo hi w wr

theorem MkS.ints {w wr : World} {lo hi g n c j : Nat} {L : List (Value × Rg)} {v : Value} {r : Rg} (h : MkS w lo hi (.slice (some ⟨g, 0, none⟩) n c) L wr) (hn : L.length = n) (hx : L[j]? = some (v, r)) (x y z : Int) :
    MkS w lo hi (.slice (some ⟨g, 0, none⟩) n c) (L.set j (v, ⟨x, y, z, r.code⟩)) (((wr.setCell ⟨g, j * 4, none⟩ (.int .i64 x)).setCell ⟨g, j * 4 + 1, none⟩ (.int .i64 y)).setCell ⟨g, j * 4 + 2, none⟩ (.int .i64 z)) := by
  subst hn
  obtain ⟨o1, g1⟩ := h.mrow.own.stored (j * 4) (.int .i64 x)
  obtain ⟨o2, g2⟩ := o1.stored (j * 4 + 1) (.int .i64 y)
  obtain ⟨o3, g3⟩ := o2.stored (j * 4 + 2) (.int .i64 z)
  have gg : wr.grownBy (((wr.setCell ⟨g, j * 4, none⟩ (.int .i64 x)).setCell ⟨g, j * 4 + 1, none⟩ (.int .i64 y)).setCell ⟨g, j * 4 + 2, none⟩ (.int .i64 z)) (Value.ownBlock (.slice (some ⟨g, 0, none⟩) L.length c)) := grown_trans (grown_trans g1 g2) g3
  rw [flatR_set3 hx] at o3
  have hj := (List.getElem?_eq_some_iff.1 hx).1
  refine ⟨?_, ⟨by rw [List.length_set]; exact o3, h.mrow.lt⟩, h.tw.trans (Tw.of h.mrow (Nat.le_refl _) (Nat.le_refl _) (by decide) gg)⟩
  have hlo : lo ≤ hi := by
    have := h.mrow.lt g rfl
    have := (h.mrow.own.lt g rfl).1
    omega
  have hc := h.codes.stays (w' := ((wr.setCell ⟨g, j * 4, none⟩ (.int .i64 x)).setCell ⟨g, j * 4 + 1, none⟩ (.int .i64 y)).setCell ⟨g, j * 4 + 2, none⟩ (.int .i64 z)) (fun g' _ _ q => grown_other h.mrow.own gg (by decide) q)
  obtain ⟨p, q, h1, h2, h3, h4, h5, h6, h7⟩ := hc.part hlo hx
  rw [set_split hj]
  exact Cds.join (x := (v, ⟨x, y, z, r.code⟩)) h6 h1 h2 h3 h4 h5 h7

theorem MkS.code {w wr w1 : World} {lo hi j k : Nat} {mv v : Value} {L : List (Value × Rg)} {r : Rg} (h : MkS w lo hi mv L wr) (hlo : lo ≤ hi) (hx : L[j]? = some (v, r))
    (ho : ∀ p q, Pc wr 5 1 p q v r.code.length (bV r.code) → Own w1 p v r.code.length (marks k r.code.length)) (hg : wr.grownBy w1 v.ownBlock) :
    MkS w lo hi mv (L.set j (v, ⟨r.lo, r.hi, r.own, marks k r.code.length⟩)) w1 := by
  have hj := (List.getElem?_eq_some_iff.1 hx).1
  obtain ⟨p, q, h1, h2, h3, h4, h5, h6, h7⟩ := h.codes.part hlo hx
  have t := Tw.of h4 h1 h3 (by decide) hg
  have own1 := ho p q h4
  have out : ∀ g, g < wr.heap.size → (g < p ∨ q ≤ g) → w1.heap[g]? = wr.heap[g]? := fun g hl ho => hg.block g hl (fun e => by have a := (h4.own.lt g e.symm).1; have b := h4.lt g e.symm; omega)
  have hlt : ∀ {g U : Nat}, (∃ cur, wr.heap[g]? = some (.cells cur U (0, 0))) → g < wr.heap.size := fun ⟨_, hc⟩ => (Array.getElem?_eq_some_iff.1 hc).1
  have hfr : flatR (L.set j (v, ⟨r.lo, r.hi, r.own, marks k r.code.length⟩)) = flatR L := by
    have : ∀ {l : List (Value × Rg)} {j : Nat}, l[j]? = some (v, r) → flatR (l.set j (v, ⟨r.lo, r.hi, r.own, marks k r.code.length⟩)) = flatR l := by
      intro l
      induction l with
      | nil => intro j h; simp at h
      | cons u l ih =>
        intro j h
        cases j with
        | zero => simp only [List.getElem?_cons_zero, Option.some.injEq] at h; subst h; rfl
        | succ j => rw [List.getElem?_cons_succ] at h; simp [flatR, ih h]
    exact this hx
  refine ⟨?_, ?_, h.tw.trans t⟩
  · rw [set_split hj]
    refine Cds.join (x := (v, ⟨r.lo, r.hi, r.own, marks k r.code.length⟩)) (h6.stays (fun g _ b c => out g (hlt c) (.inl b))) h1 h2 h3 ?_ (marks_byte _ _) (h7.stays (fun g a _ c => out g (hlt c) (.inr a)))
    show Pc w1 _ _ _ _ _ (marks _ _).length _
    rw [marks_length]
    exact ⟨own1.1, h4.lt⟩
  · rw [List.length_set, hfr]
    exact h.mrow.stays (fun g _ _ c => grown_other h4.own hg (by decide) c)

set_option maxHeartbeats 4000000 in
theorem markRg (lo hi : Nat) (mv : Value) (l : List (Value × Rg)) (k : Nat) (w : World) (hc : Cds w lo hi l) (hm : Pc w 50 4 lo hi mv l.length (flatR l)) (hlo : lo ≤ hi) (hk : k + rwt l ≤ 1000000000) (hN : l.length ≤ 1048576) :
    Calls Try.prog 35 #[mv, .int .i64 k] w fun e w' => e = .returned (.int .i64 ((k + rwt l : Nat) : Int)) ∧ MkS w lo hi mv (mkR k l) w' := by
  have H0 : Hid (MkS w lo hi mv (mkTo k l 0) w) := ⟨by simpa [mkTo, mkR] using hc, by simpa [mkTo, mkR] using hm, Tw.refl _ _ _⟩
  obtain ⟨a, c, rfl, hc1, hc2, hc3, hc4⟩ := owns_shape hm.own
  obtain ⟨n, hn⟩ : ∃ z, z = l.length := ⟨_, rfl⟩
  have HN9 : Hid (l.length = n) := hn.symm
  rw [← hn] at hc1 hc4 hN H0 ⊢
  clear hc hm hn
  have hn9 : n ≤ 9223372036854775807 := by omega
  generalize hW : rwt l = W at hk ⊢
  have HW : Hid (rwt l = W) := hW
  clear hW
  go_enter Try.func35, Try.ntmps35
  go_wp2_with fail
  go_loopw [1, 5] (fun kk i wr => ∃ (j kj : Nat), j ≤ n ∧ i = .int .i64 j ∧ kk = .int .i64 kj ∧ Hid (kj = k + rwt (l.take j)) ∧ Hid (MkS w lo hi (.slice a n c) (mkTo k l j) wr)) (fun _ i _ => n - (intOf i).toNat)
  case atStart => exact ⟨0, k, Nat.zero_le _, rfl, rfl, by show _ = _; simp [rwt], H0⟩
  case round =>
    obtain ⟨j, kj, hj, rfl, rfl, hkj, hst⟩ := hrel
    clear H0
    by_cases hlt : j < n
    · obtain ⟨⟨v, r⟩, hx⟩ : ∃ x, l[j]? = some x := ⟨_, List.getElem?_eq_getElem (by rw [HN9.out]; exact hlt)⟩
      obtain ⟨g, rfl⟩ := hc4 (by omega)
      have st := hst.out
      have hxm : (mkTo k l j)[j]? = some (v, r) := mkTo_at hx
      have hnx := rwt_next hx
      have hle := rwt_take l (j + 1)
      rw [hnx, HW.out] at hle
      unfold Rg.wt at hnx hle
      simp only at hnx hle
      have hkk := hkj.out
      have q0 := owns_cells (by have := st.mrow.own; rw [mkTo_len, HN9.out] at this; exact this) _ _ (flatR_at (i := 0) (by omega) hxm)
      have q1 := owns_cells (by have := st.mrow.own; rw [mkTo_len, HN9.out] at this; exact this) _ _ (flatR_at (i := 1) (by omega) hxm)
      have q2 := owns_cells (by have := st.mrow.own; rw [mkTo_len, HN9.out] at this; exact this) _ _ (flatR_at (i := 2) (by omega) hxm)
      have z0 := (by have := st.mrow.own; rw [mkTo_len, HN9.out] at this; exact this.frozenAt (j * 4) : wr.frozen? ⟨g, j * 4, none⟩ = false)
      have z1 := (by have := st.mrow.own; rw [mkTo_len, HN9.out] at this; exact this.frozenAt (j * 4 + 1) : wr.frozen? ⟨g, j * 4 + 1, none⟩ = false)
      have z2 := (by have := st.mrow.own; rw [mkTo_len, HN9.out] at this; exact this.frozenAt (j * 4 + 2) : wr.frozen? ⟨g, j * 4 + 2, none⟩ = false)
      try simp only [Rg.vals, Nat.add_zero] at q0
      have s1 := st.ints (by rw [mkTo_len]; exact HN9.out) hxm (kj : Int) ((kj : Int) + 1) ((kj : Int) + 1 + 1)
      have hs1 : ((mkTo k l j).set j (v, ⟨(kj : Int), (kj : Int) + 1, (kj : Int) + 1 + 1, r.code⟩))[j]? = some (v, ⟨(kj : Int), (kj : Int) + 1, (kj : Int) + 1 + 1, r.code⟩) := by
        rw [List.getElem?_set_self (by rw [mkTo_len, HN9.out]; exact hlt)]
      have q3 := owns_cells (by have := s1.mrow.own; rw [List.length_set, mkTo_len, HN9.out] at this; exact this) _ _ (flatR_at (i := 3) (by omega) hs1)
      obtain ⟨p, q, _, _, _, pc, pb, _, _⟩ := s1.codes.part (by have := s1.mrow.lt g rfl; have := (s1.mrow.own.lt g rfl).1; omega) hs1
      have H1 := markB p v r.code.length r.code (kj + 3) _ ⟨pc.own, pb⟩ (by omega) (by omega)
      have HX : Hid (∀ w2, Own w2 p v r.code.length (marks (kj + 3) r.code.length) → World.grownBy (((wr.setCell ⟨g, j * 4, none⟩ (.int .i64 kj)).setCell ⟨g, j * 4 + 1, none⟩ (.int .i64 ((kj : Int) + 1))).setCell ⟨g, j * 4 + 2, none⟩ (.int .i64 ((kj : Int) + 1 + 1))) w2 v.ownBlock → MkS w lo hi (.slice (some ⟨g, 0, none⟩) n c) (mkTo k l (j + 1)) w2) := by
        intro w2 o2 g2
        have := s1.code (k := kj + 3) hlo hs1 (fun p' q' pc' => ⟨by
          have := o2.1
          refine ⟨this.1, ?_⟩
          rcases this.2 with e | ⟨gg, cap, cur, e1, e2, e3, e4⟩
          · exact .inl e
          · exact .inr ⟨gg, cap, cur, e1, (pc'.own.lt gg (by rw [e1]; rfl)).1, e3, e4⟩, o2.2⟩) g2
        rw [List.set_set] at this
        rw [← mkTo_next hx]
        simp only [Rg.mark]
        rw [← hkk]
        have e1 : ((kj + 1 : Nat) : Int) = (kj : Int) + 1 := by omega
        have e2 : ((kj + 2 : Nat) : Int) = (kj : Int) + 1 + 1 := by omega
        rw [e1, e2]
        exact this
      have HK1 : Hid (kj + 3 + r.code.length = k + rwt (l.take (j + 1))) := by show _ = _; omega
      have hb1 : kj + 3 + r.code.length ≤ 1000000000 := by omega
      have e3 : ((kj + 3 : Nat) : Int) = (kj : Int) + 1 + 1 + 1 := by omega
      rw [e3] at H1
      clear hst st s1 hs1 hxm pc pb hnx hle hkk hkj hx
      try simp only [Rg.vals, List.getElem?_cons_zero, List.getElem?_cons_succ] at q1 q2 q3
      go_wp2_with fail
      refine H1.mono ?_
      rintro e w2 ⟨rfl, o2, g2⟩
      have HF : Hid _ := HX.out w2 o2 g2
      clear HX H1 o2 g2 q0 q1 q2 q3 z0 z1 z2
      go_wp2_with fail
      go_roundw
      case rel => exact ⟨j + 1, kj + 3 + r.code.length, by omega, by go_num, by first | rfl | (congr 1; omega), HK1, HF⟩
      case measure => simp [intOf]; omega
    · have : n = j := by omega
      subst this
      have hkk := hkj.out
      have st := hst.out
      have e1 : l.take n = l := List.take_of_length_le (by rw [HN9.out]; exact Nat.le_refl _)
      rw [e1, HW.out] at hkk
      rw [show mkTo k l n = mkR k l by rw [← HN9.out]; exact mkTo_all k l] at st
      have HA : Hid _ := st
      clear st hst
      go_wp2_with fail
      go_ret
      exact ⟨ret_int (by omega), HA.out⟩

set_option maxHeartbeats 4000000 in
theorem heldRg (lo hi : Nat) (mv : Value) (l : List (Value × Rg)) (k : Nat) (w : World) (hc : Cds w lo hi (mkR k l)) (hm : Pc w 50 4 lo hi mv (mkR k l).length (flatR (mkR k l))) (hlo : lo ≤ hi) (hk : k + rwt l ≤ 1000000000) (hN : l.length ≤ 1048576) :
    Calls Try.prog 37 #[mv, .int .i64 k] w fun e w' => e = .returned (.int .i64 ((k + rwt l : Nat) : Int)) ∧ w' = w := by
  have HC : Hid (Cds w lo hi (mkR k l)) := hc
  obtain ⟨a, c, rfl, hc1, hc2, hc3, hc4⟩ := owns_shape hm.own
  rw [mkR_len] at hc1 hc4 hm
  rw [mkR_len]
  have HM : Hid (w.ownsRow lo 50 4 (.slice a l.length c) l.length (flatR (mkR k l))) := hm.own
  obtain ⟨n, hn⟩ : ∃ z, z = l.length := ⟨_, rfl⟩
  have HN9 : Hid (l.length = n) := hn.symm
  rw [← hn] at hc1 hc4 hN HM ⊢
  clear hc hm hn
  have hn9 : n ≤ 9223372036854775807 := by omega
  generalize hW : rwt l = W at hk ⊢
  have HW : Hid (rwt l = W) := hW
  clear hW
  go_enter Try.func37, Try.ntmps37
  go_wp2_with fail
  go_loop [1, 5] (fun kk i => ∃ (j kj : Nat), j ≤ n ∧ i = .int .i64 j ∧ kk = .int .i64 kj ∧ Hid (kj = k + rwt (l.take j))) (fun _ i => n - (intOf i).toNat)
  case atStart => exact ⟨0, k, Nat.zero_le _, rfl, rfl, by show _ = _; simp [rwt]⟩
  case round =>
    obtain ⟨j, kj, hj, rfl, rfl, hkj⟩ := hrel
    by_cases hlt : j < n
    · obtain ⟨⟨v, r⟩, hx⟩ : ∃ x, l[j]? = some x := ⟨_, List.getElem?_eq_getElem (by rw [HN9.out]; exact hlt)⟩
      obtain ⟨g, rfl⟩ := hc4 (by omega)
      have hxm : (mkR k l)[j]? = some (v, r.mark kj) := by
        have e : mkR k l = mkR k (l.take j) ++ mkR (k + rwt (l.take j)) (l.drop j) := by rw [← mkR_append, List.take_append_drop]
        have h5 : (mkR k (l.take j)).length = j := by rw [mkR_len, List.length_take, HN9.out]; omega
        rw [e, List.getElem?_append_right (by omega), h5, Nat.sub_self, drop_at hx, hkj.out]
        rfl
      have hnx := rwt_next hx
      have hle := rwt_take l (j + 1)
      rw [hnx, HW.out] at hle
      unfold Rg.wt at hnx hle
      simp only at hnx hle
      have hkk := hkj.out
      have q0 := owns_cells HM.out _ _ (flatR_at (i := 0) (by omega) hxm)
      have q1 := owns_cells HM.out _ _ (flatR_at (i := 1) (by omega) hxm)
      have q2 := owns_cells HM.out _ _ (flatR_at (i := 2) (by omega) hxm)
      have q3 := owns_cells HM.out _ _ (flatR_at (i := 3) (by omega) hxm)
      obtain ⟨p, q, _, _, _, pc, pb, _, _⟩ := HC.out.part hlo hxm
      simp only [Rg.mark] at pc pb
      obtain ⟨ax, cx, rfl, rx, _⟩ := pc.brow pb
      rw [marks_length] at rx
      try simp only [Rg.vals, Rg.mark, Nat.add_zero, List.getElem?_cons_zero, List.getElem?_cons_succ, marks_length] at q0 q1 q2 q3
      have H1 := heldB ax r.code.length cx (kj + 3) w rx (by omega) (by omega)
      have HK1 : Hid (kj + 3 + r.code.length = k + rwt (l.take (j + 1))) := by show _ = _; omega
      have hb1 : kj + 3 + r.code.length ≤ 1000000000 := by omega
      have e1 : ((kj + 1 : Nat) : Int) = (kj : Int) + 1 := by omega
      have e2 : ((kj + 2 : Nat) : Int) = (kj : Int) + 1 + 1 := by omega
      have e3 : ((kj + 3 : Nat) : Int) = (kj : Int) + 1 + 1 + 1 := by omega
      rw [e1] at q1
      rw [e2] at q2
      rw [e3] at H1
      have hge : ¬ (((kj + 3 + r.code.length : Nat) : Int) < 0) := by omega
      clear hxm hx hnx hle hkk hkj pc pb rx
      go_wp2_with fail
      refine H1.mono ?_
      rintro e w2 ⟨rfl, rfl⟩
      clear H1 q0 q1 q2 q3
      go_wp2_with fail
      go_round
      case rel => exact ⟨j + 1, kj + 3 + r.code.length, by omega, by go_num, by first | rfl | (congr 1; omega), HK1⟩
      case measure => simp [intOf]; omega
    · have : n = j := by omega
      subst this
      have hkk := hkj.out
      rw [List.take_of_length_le (by rw [HN9.out]; exact Nat.le_refl _), HW.out] at hkk
      go_wp2_with fail
      go_ret
      exact ⟨ret_int (by omega), rfl⟩

/-! Words -/
def wmark (k : Int) : Wo := ⟨k % 3 == 0, k + 1, k + 1 + 1, k + 1 + 1 + 1, k + 1 + 1 + 1 + 1, k + 1 + 1 + 1 + 1 + 1, k + 1 + 1 + 1 + 1 + 1 + 1⟩
def wmarks (k n : Nat) : List Wo := (List.range n).map fun i => wmark ((k + 7 * i : Nat) : Int)
theorem wmarks_len (k n : Nat) : (wmarks k n).length = n := by simp [wmarks]
theorem wmarks_at {k n i : Nat} (h : i < n) : (wmarks k n)[i]? = some (wmark ((k + 7 * i : Nat) : Int)) := by simp [wmarks, h]
theorem flatW_set (l : List Wo) (j : Nat) (x : Wo) (hj : j < l.length) :
    (((((((flatW l).set (j * 7) (.bool x.t)).set (j * 7 + 1) (.int .i64 x.n)).set (j * 7 + 2) (.int .i64 x.l)).set (j * 7 + 3) (.int .i64 x.h)).set (j * 7 + 4) (.int .i64 x.a)).set (j * 7 + 5) (.int .i64 x.p)).set (j * 7 + 6) (.int .i64 x.s) = flatW (l.set j x) := by
  induction l generalizing j with
  | nil => simp at hj
  | cons u l ih =>
    cases j with
    | zero => simp [flatW, Wo.vals]
    | succ j =>
      have e' : ∀ i q (m : List Value), ((u.vals ++ m).set ((j + 1) * 7 + i) q) = u.vals ++ m.set (j * 7 + i) q := by
        intro i q m
        have e1 : (j + 1) * 7 + i = u.vals.length + (j * 7 + i) := by simp [Wo.vals]; omega
        rw [e1, List.set_append_right _ _ (by omega), Nat.add_sub_cancel_left]
      have e0 : ∀ q (m : List Value), ((u.vals ++ m).set ((j + 1) * 7) q) = u.vals ++ m.set (j * 7) q := fun q m => e' 0 q m
      rw [flatW, e0, e', e', e', e', e', e', ih j (by simpa using hj)]
      rfl
def wTo (k : Nat) (l : List Wo) (j : Nat) : List Wo := (wmarks k l.length).take j ++ l.drop j
theorem wTo_len (k : Nat) (l : List Wo) (j : Nat) (hj : j ≤ l.length) : (wTo k l j).length = l.length := by
  unfold wTo
  rw [List.length_append, List.length_take, wmarks_len, List.length_drop]; omega
theorem wTo_next {k : Nat} {l : List Wo} {j : Nat} (h : j < l.length) : (wTo k l j).set j (wmark ((k + 7 * j : Nat) : Int)) = wTo k l (j + 1) := by
  unfold wTo
  have e : ((wmarks k l.length).take j).length = j := by rw [List.length_take, wmarks_len]; omega
  obtain ⟨hk, hx⟩ := List.getElem?_eq_some_iff.1 (wmarks_at (k := k) h)
  rw [List.set_append_right _ _ (by omega), e, Nat.sub_self, List.drop_eq_getElem_cons h, List.set_cons_zero, List.take_succ_eq_append_getElem hk, hx]
  simp

set_option maxHeartbeats 8000000 in
theorem markWo (lo : Nat) (wv : Value) (l : List Wo) (k : Nat) (w : World) (hr : w.ownsRow lo 55 7 wv l.length (flatW l)) (hk : k + 7 * l.length ≤ 1000000000) :
    Calls Try.prog 36 #[wv, .int .i64 k] w fun e w' => e = .returned (.int .i64 ((k + 7 * l.length : Nat) : Int)) ∧ w'.ownsRow lo 55 7 wv l.length (flatW (wmarks k l.length)) ∧ w.grownBy w' wv.ownBlock := by
  have H0 : Hid (w.ownsRow lo 55 7 wv l.length (flatW (wTo k l 0)) ∧ w.grownBy w wv.ownBlock) := ⟨by simpa [wTo] using hr, grown_refl _ _⟩
  obtain ⟨a, c, rfl, hc1, hc2, hc3, hc4⟩ := owns_shape hr
  obtain ⟨n, hn⟩ : ∃ z, z = l.length := ⟨_, rfl⟩
  have HN9 : Hid (l.length = n) := hn.symm
  rw [← hn] at hc1 hc4 hk H0 ⊢
  clear hr hn
  have hn9 : n ≤ 9223372036854775807 := by omega
  go_enter Try.func36, Try.ntmps36
  go_wp2_with fail
  go_loopw [1, 5] (fun kk i wr => ∃ j : Nat, j ≤ n ∧ i = .int .i64 j ∧ kk = .int .i64 ((k : Int) + 7 * (j : Int)) ∧ Hid (wr.ownsRow lo 55 7 (.slice a n c) n (flatW (wTo k l j)) ∧ w.grownBy wr (Value.ownBlock (.slice a n c)))) (fun _ i _ => n - (intOf i).toNat)
  case atStart => exact ⟨0, Nat.zero_le _, rfl, by simp, H0⟩
  case round =>
    obtain ⟨j, hj, rfl, rfl, hst⟩ := hrel
    clear H0
    by_cases hlt : j < n
    · obtain ⟨g, rfl⟩ := hc4 (by omega)
      obtain ⟨ho, hg⟩ := hst.out
      have hjl : j < (wTo k l j).length := by rw [wTo_len _ _ _ (by rw [HN9.out]; exact hj), HN9.out]; exact hlt
      obtain ⟨y, hy⟩ : ∃ y, (wTo k l j)[j]? = some y := ⟨_, List.getElem?_eq_getElem hjl⟩
      have q0 := owns_cells ho _ _ (flatW_at (i := 0) (by omega) hy)
      have q1 := owns_cells ho _ _ (flatW_at (i := 1) (by omega) hy)
      have q2 := owns_cells ho _ _ (flatW_at (i := 2) (by omega) hy)
      have q3 := owns_cells ho _ _ (flatW_at (i := 3) (by omega) hy)
      have q4 := owns_cells ho _ _ (flatW_at (i := 4) (by omega) hy)
      have q5 := owns_cells ho _ _ (flatW_at (i := 5) (by omega) hy)
      have q6 := owns_cells ho _ _ (flatW_at (i := 6) (by omega) hy)
      rw [Nat.add_zero] at q0
      have f0 := ho.frozenAt (j * 7)
      have f1 := ho.frozenAt (j * 7 + 1)
      have f2 := ho.frozenAt (j * 7 + 2)
      have f3 := ho.frozenAt (j * 7 + 3)
      have f4 := ho.frozenAt (j * 7 + 4)
      have f5 := ho.frozenAt (j * 7 + 5)
      have f6 := ho.frozenAt (j * 7 + 6)
      obtain ⟨kj, hkj⟩ : ∃ z : Int, z = (k : Int) + 7 * (j : Int) := ⟨_, rfl⟩
      have hkb : 0 ≤ kj ∧ kj ≤ 1000000000 := by omega
      rw [← hkj]
      obtain ⟨o1, g1⟩ := ho.stored (j * 7) (.bool (kj % 3 == 0))
      obtain ⟨o2, g2⟩ := o1.stored (j * 7 + 1) (.int .i64 (kj + 1))
      obtain ⟨o3, g3⟩ := o2.stored (j * 7 + 2) (.int .i64 (kj + 1 + 1))
      obtain ⟨o4, g4⟩ := o3.stored (j * 7 + 3) (.int .i64 (kj + 1 + 1 + 1))
      obtain ⟨o5, g5⟩ := o4.stored (j * 7 + 4) (.int .i64 (kj + 1 + 1 + 1 + 1))
      obtain ⟨o6, g6⟩ := o5.stored (j * 7 + 5) (.int .i64 (kj + 1 + 1 + 1 + 1 + 1))
      obtain ⟨o7, g7⟩ := o6.stored (j * 7 + 6) (.int .i64 (kj + 1 + 1 + 1 + 1 + 1 + 1))
      have e7 := flatW_set (wTo k l j) j (wmark kj) hjl
      simp only [wmark] at e7
      rw [e7] at o7
      have ek : ((k + 7 * j : Nat) : Int) = kj := by omega
      have e8 := wTo_next (k := k) (show j < l.length by rw [HN9.out]; exact hlt)
      rw [ek] at e8
      simp only [wmark] at e8
      rw [e8] at o7
      have HF : Hid _ := And.intro o7 (grown_trans hg (grown_trans (grown_trans (grown_trans (grown_trans (grown_trans (grown_trans g1 g2) g3) g4) g5) g6) g7))
      have HKJ : Hid (kj = (k : Int) + 7 * (j : Int)) := hkj
      clear ho hg hst hy e7 e8 ek o1 o2 o3 o4 o5 o6 o7 g1 g2 g3 g4 g5 g6 g7 hkj
      try simp only [Wo.vals, List.getElem?_cons_zero, List.getElem?_cons_succ] at q0 q1 q2 q3 q4 q5 q6
      go_wp2_with fail
      go_roundw
      case rel => exact ⟨j + 1, by omega, by go_num, by congr 1; have := HKJ.out; omega, HF⟩
      case measure => simp [intOf]; omega
    · have : n = j := by omega
      subst this
      obtain ⟨ho, hg⟩ := hst.out
      have e : wTo k l n = wmarks k n := by
        unfold wTo
        rw [HN9.out, List.take_of_length_le (by rw [wmarks_len]; exact Nat.le_refl _), List.drop_of_length_le (by rw [HN9.out]; exact Nat.le_refl _), List.append_nil]
      rw [e] at ho
      have HF : Hid _ := And.intro ho hg
      clear ho hg hst
      go_wp2_with fail
      go_ret
      exact ⟨ret_int (by omega), HF.out⟩

set_option maxHeartbeats 8000000 in
theorem heldWo (lo : Nat) (wv : Value) (n k : Nat) (w : World) (hr : w.ownsRow lo 55 7 wv n (flatW (wmarks k n))) (hk : k + 7 * n ≤ 1000000000) :
    Calls Try.prog 38 #[wv, .int .i64 k] w fun e w' => e = .returned (.int .i64 ((k + 7 * n : Nat) : Int)) ∧ w' = w := by
  obtain ⟨a, c, rfl, hc1, hc2, hc3, hc4⟩ := owns_shape hr
  have HR : Hid (w.ownsRow lo 55 7 (.slice a n c) n (flatW (wmarks k n))) := hr
  clear hr
  have hn9 : n ≤ 9223372036854775807 := by omega
  go_enter Try.func38, Try.ntmps38
  go_wp2_with fail
  go_loop [1, 5] (fun kk i => ∃ j : Nat, j ≤ n ∧ i = .int .i64 j ∧ kk = .int .i64 ((k : Int) + 7 * (j : Int))) (fun _ i => n - (intOf i).toNat)
  case atStart => exact ⟨0, Nat.zero_le _, rfl, by simp⟩
  case round =>
    obtain ⟨j, hj, rfl, rfl⟩ := hrel
    by_cases hlt : j < n
    · obtain ⟨g, rfl⟩ := hc4 (by omega)
      have ho := HR.out
      have hy := wmarks_at (k := k) hlt
      obtain ⟨kj, hkj⟩ : ∃ z : Int, z = (k : Int) + 7 * (j : Int) := ⟨_, rfl⟩
      have ek : ((k + 7 * j : Nat) : Int) = kj := by omega
      rw [ek] at hy
      have q0 := owns_cells ho _ _ (flatW_at (i := 0) (by omega) hy)
      have q1 := owns_cells ho _ _ (flatW_at (i := 1) (by omega) hy)
      have q2 := owns_cells ho _ _ (flatW_at (i := 2) (by omega) hy)
      have q3 := owns_cells ho _ _ (flatW_at (i := 3) (by omega) hy)
      have q4 := owns_cells ho _ _ (flatW_at (i := 4) (by omega) hy)
      have q5 := owns_cells ho _ _ (flatW_at (i := 5) (by omega) hy)
      have q6 := owns_cells ho _ _ (flatW_at (i := 6) (by omega) hy)
      rw [Nat.add_zero] at q0
      have hkb : 0 ≤ kj ∧ kj ≤ 1000000000 := by omega
      have HKJ : Hid (kj = (k : Int) + 7 * (j : Int)) := hkj
      rw [← hkj]
      clear ho hy ek hkj
      try simp only [Wo.vals, wmark, List.getElem?_cons_zero, List.getElem?_cons_succ] at q0 q1 q2 q3 q4 q5 q6
      go_wp2_with fail
      go_round
      case rel => exact ⟨j + 1, by omega, by go_num, by congr 1; have := HKJ.out; omega⟩
      case measure => simp [intOf]; omega
    · have : n = j := by omega
      subst this
      go_wp2_with fail
      go_ret
      exact ⟨ret_int (by omega), rfl⟩

/-- What the marks of an image count. -/
def iwt (l : List (Value × Rg)) (ws : List Wo) : Nat := rwt l + 7 * ws.length

set_option maxHeartbeats 4000000 in
theorem markIg (lo hi : Nat) (mv wv : Value) (l : List (Value × Rg)) (ws : List Wo) (s : Int) (k : Nat) (w : World) (h : Im w lo hi hi mv wv l ws) (hlo : lo ≤ hi) (hh : hi ≤ w.heap.size) (hk : k + iwt l ws ≤ 1000000000) (hN : l.length ≤ 1048576) :
    Calls Try.prog 11 #[.agg #[mv, wv, .int .i64 s], .int .i64 k] w fun e w' => e = .returned (.int .i64 ((k + iwt l ws : Nat) : Int)) ∧ Im w' lo hi hi mv wv (mkR k l) (wmarks (k + rwt l) ws.length) ∧ Out lo hi w w' := by
  have x0 := Blk.new w 27 [mv, wv, .int .i64 s]
  have y0 : Below w.heap.size w (w.alloc (.cells #[mv, wv, .int .i64 s] 27 (0, 0))) := (Below.refl _ _).alloc (Nat.le_refl _) _
  have h0 := h.below y0
  have O0 : Out lo hi w (w.alloc (.cells #[mv, wv, .int .i64 s] 27 (0, 0))) := Out.grown (grown_alloc w _ none)
  simp only [List.toArray] at x0
  have hwt : iwt l ws = rwt l + 7 * ws.length := rfl
  clear h
  go_enter Try.func11, Try.ntmps11
  go_upto_region 1 with fail
  generalize w.alloc (.cells #[mv, wv, .int .i64 s] 27 (0, 0)) = w0 at *
  have q0 := x0.cell (i := 0) rfl
  have H1 := markRg lo hi mv l k w0 h0.codes h0.mrow hlo (by omega) hN
  go_wp2_with fail
  refine H1.mono ?_
  rintro e w1 ⟨rfl, m1⟩
  have x1 := m1.tw.out.blk x0 (.inr hh)
  have q1 := x1.cell (i := 1) rfl
  have r1 := owns_stays h0.wrow.own (w' := w1) (fun g hg => m1.tw.block g (h0.wrow.own.lt g hg).2 (.inr (.inr (owns_type h0.wrow.own hg))))
  have H2 := markWo lo wv ws (k + rwt l) w1 r1 (by omega)
  clear q0 H1
  go_wp2_with fail
  refine H2.mono ?_
  rintro e w2 ⟨rfl, r2, g2⟩
  have HF : Hid (Im w2 lo hi hi mv wv (mkR k l) (wmarks (k + rwt l) ws.length) ∧ Out lo hi w w2) := by
    refine ⟨⟨m1.codes.stays (fun g _ _ c => grown_other r1 g2 (by decide) c), m1.mrow.stays (fun g _ _ c => grown_other r1 g2 (by decide) c), ⟨by rw [wmarks_len]; exact r2, h0.wrow.lt⟩⟩, (O0.trans m1.tw.out).trans ⟨g2.os, g2.tape, g2.output, g2.size, fun g hg ho => g2.block g hg (fun e => by have a := (h0.wrow.own.lt g e.symm).1; have b := h0.wrow.lt g e.symm; omega)⟩⟩
  clear H2 q1 x0 x1 m1 r1 r2 g2 h0 y0 O0
  go_wp2_with fail
  go_ret
  exact ⟨ret_int (by rw [hwt]; omega), HF.out⟩

set_option maxHeartbeats 4000000 in
theorem heldIg (lo hi : Nat) (mv wv : Value) (l : List (Value × Rg)) (nw : Nat) (s : Int) (k : Nat) (w : World) (h : Im w lo hi hi mv wv (mkR k l) (wmarks (k + rwt l) nw)) (hlo : lo ≤ hi) (hk : k + (rwt l + 7 * nw) ≤ 1000000000) (hN : l.length ≤ 1048576) :
    Calls Try.prog 12 #[.agg #[mv, wv, .int .i64 s], .int .i64 k] w fun e w' => e = .returned (.int .i64 ((k + (rwt l + 7 * nw) : Nat) : Int)) ∧ Below w.heap.size w w' := by
  have x0 := Blk.new w 27 [mv, wv, .int .i64 s]
  have y0 : Below w.heap.size w (w.alloc (.cells #[mv, wv, .int .i64 s] 27 (0, 0))) := (Below.refl _ _).alloc (Nat.le_refl _) _
  have h0 := h.below y0
  simp only [List.toArray] at x0
  clear h
  go_enter Try.func12, Try.ntmps12
  go_upto_region 1 with fail
  generalize w.alloc (.cells #[mv, wv, .int .i64 s] 27 (0, 0)) = w0 at *
  have q0 := x0.cell (i := 0) rfl
  have q1 := x0.cell (i := 1) rfl
  have H1 := heldRg lo hi mv l k w0 h0.codes h0.mrow hlo (by omega) hN
  have H2 := heldWo lo wv nw (k + rwt l) w0 (by have := h0.wrow.own; rw [wmarks_len] at this; exact this) (by omega)
  have HB : Hid (Below w.heap.size w w0) := y0
  have n1 : ¬ (((k + rwt l : Nat) : Int) < 0) := by omega
  have n2 : ¬ (((k + rwt l + 7 * nw : Nat) : Int) < 0) := by omega
  clear h0 y0
  go_wp2_with fail
  refine H1.mono ?_
  rintro e w1 ⟨rfl, rfl⟩
  go_wp2_with fail
  refine H2.mono ?_
  rintro e w2 ⟨rfl, rfl⟩
  go_wp2_with fail
  go_ret
  exact ⟨ret_int (by omega), HB.out⟩
end Go.Proofs.Ytefciaeajlgheaa

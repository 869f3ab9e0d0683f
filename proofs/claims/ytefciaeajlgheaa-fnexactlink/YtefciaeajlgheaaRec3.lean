/- Slices of records of three cells each (exports, imports): what reads there, who owns it. No function is walked here. -/
import Derived.Test.YtefciaeajlgheaaBase
namespace Go.Proofs.Ytefciaeajlgheaa
open Go.RowKit
set_option linter.unusedVariables false

/-- What a field holds: bytes, or an int. -/
inductive Fd where
  | b (l : List Int)
  | n (x : Int)

/-- The cells of a record. -/
structure R3 where
  x : Value
  y : Value
  z : Value

/-- What a record holds. -/
structure D3 where
  x : Fd
  y : Fd
  z : Fd

def R3.vals (r : R3) : List Value := [r.x, r.y, r.z]
def flat3 : List R3 → List Value
  | [] => []
  | r :: l => r.vals ++ flat3 l

theorem flat3_append (l m : List R3) : flat3 (l ++ m) = flat3 l ++ flat3 m := by
  induction l with
  | nil => rfl
  | cons x l ih => simp [flat3, ih]

theorem flat3_len (l : List R3) : (flat3 l).length = l.length * 3 := by
  induction l with
  | nil => rfl
  | cons x l ih => simp [flat3, R3.vals, ih]; omega

theorem flat3_at (l : List R3) (k i : Nat) (hi : i < 3) (r : R3) (hk : l[k]? = some r) : (flat3 l)[k * 3 + i]? = r.vals[i]? := by
  induction l generalizing k with
  | nil => simp at hk
  | cons y l ih =>
    cases k with
    | zero =>
      simp only [List.getElem?_cons_zero, Option.some.injEq] at hk
      subst hk
      rw [flat3, Nat.zero_mul, Nat.zero_add, List.getElem?_append_left (by simpa [R3.vals] using hi)]
    | succ k =>
      rw [List.getElem?_cons_succ] at hk
      have e : (k + 1) * 3 + i = y.vals.length + (k * 3 + i) := by simp [R3.vals]; omega
      rw [flat3, e, List.getElem?_append_right (by omega), Nat.add_sub_cancel_left]
      exact ih k hk

/-- Three cells set: one record set. -/
theorem flat3_set (l : List R3) (k : Nat) (r : R3) (hk : k < l.length) :
    (((flat3 l).set (k * 3) r.x).set (k * 3 + 1) r.y).set (k * 3 + 2) r.z = flat3 (l.set k r) := by
  induction l generalizing k with
  | nil => simp at hk
  | cons y l ih =>
    cases k with
    | zero => simp [flat3, R3.vals]
    | succ k =>
      have e' : ∀ i v (m : List Value), ((y.vals ++ m).set ((k + 1) * 3 + i) v) = y.vals ++ m.set (k * 3 + i) v := by
        intro i v m
        have e1 : (k + 1) * 3 + i = y.vals.length + (k * 3 + i) := by simp [R3.vals]; omega
        rw [e1, List.set_append_right _ _ (by omega), Nat.add_sub_cancel_left]
      have e0 : ∀ v (m : List Value), ((y.vals ++ m).set ((k + 1) * 3) v) = y.vals ++ m.set (k * 3) v := fun v m => e' 0 v m
      rw [flat3, e0, e', e', ih k (by simpa using hk)]
      rfl

theorem take_set3 (l m : List R3) (k : Nat) (r : R3) (hl : l.length = k) (hm : k < m.length) : (l ++ m.drop k).set k r = (l ++ [r]) ++ m.drop (k + 1) := by
  have e : m.drop k = m[k] :: m.drop (k + 1) := by rw [List.drop_eq_getElem_cons hm]
  rw [List.set_append_right _ _ (by omega), hl, e, Nat.sub_self, List.set_cons_zero]
  simp

/-- The slice at address a, of n records, has these cells. -/
def Row3 (w : World) (a : Option Addr) (n : Nat) (l : List R3) : Prop :=
  l.length = n ∧ (0 < n → ∃ b off, a = some ⟨b, off, none⟩ ∧ ∀ k v, (flat3 l)[k]? = some v → w.cell? ⟨b, off + k, none⟩ = some v)

theorem Row3.below {w w' : World} {a : Option Addr} {n : Nat} {l : List R3} (h : Row3 w a n l) (hb : Below w.heap.size w w') : Row3 w' a n l := by
  refine ⟨h.1, fun hn => ?_⟩
  obtain ⟨b, off, ha, hc⟩ := h.2 hn
  refine ⟨b, off, ha, fun k v hv => ?_⟩
  have := hc k v hv
  rw [hb.cell (World.block_lt_of_cell? w _ this)]; exact this

theorem row_rec {w : World} {b off k : Nat} {l : List R3} (hc : ∀ k v, (flat3 l)[k]? = some v → w.cell? ⟨b, off + k, none⟩ = some v) {r : R3} (hk : l[k]? = some r) :
    w.cell? ⟨b, off + k * 3, none⟩ = some r.x ∧ w.cell? ⟨b, off + k * 3 + 1, none⟩ = some r.y ∧ w.cell? ⟨b, off + k * 3 + 2, none⟩ = some r.z := by
  have h : ∀ i, i < 3 → ∀ v, r.vals[i]? = some v → w.cell? ⟨b, off + k * 3 + i, none⟩ = some v := by
    intro i hi v hv
    rw [Nat.add_assoc]
    exact hc _ _ ((flat3_at l k i hi r hk).trans hv)
  exact ⟨h 0 (by omega) _ rfl, h 1 (by omega) _ rfl, h 2 (by omega) _ rfl⟩

/-- The value reads as what the field holds. -/
def Fd.Read (w : World) (v : Value) : Fd → Prop
  | .b l => ∃ a c, v = .slice a l.length c ∧ BRow w a l.length l ∧ l.length ≤ c ∧ c ≤ maxLen ∧ (a = none → c = 0)
  | .n x => v = .int .i64 x

theorem Fd.Read.below {w w' : World} {v : Value} {f : Fd} (h : f.Read w v) (hb : Below w.heap.size w w') : f.Read w' v := by
  cases f with
  | b l => obtain ⟨a, c, e, hr, r⟩ := h; exact ⟨a, c, e, hr.below hb, r⟩
  | n x => exact h

def Rd (w : World) (r : R3) (d : D3) : Prop := d.x.Read w r.x ∧ d.y.Read w r.y ∧ d.z.Read w r.z

theorem Rd.below {w w' : World} {r : R3} {d : D3} (h : Rd w r d) (hb : Below w.heap.size w w') : Rd w' r d := ⟨h.1.below hb, h.2.1.below hb, h.2.2.below hb⟩

/-- The slice at address a, of n records, reads as ds. -/
def DRow (w : World) (a : Option Addr) (n : Nat) (ds : List D3) : Prop :=
  ds.length = n ∧ ∃ l : List R3, Row3 w a n l ∧ ∀ (i : Nat) (r : R3) (d : D3), l[i]? = some r → ds[i]? = some d → Rd w r d

theorem DRow.below {w w' : World} {a : Option Addr} {n : Nat} {ds : List D3} (h : DRow w a n ds) (hb : Below w.heap.size w w') : DRow w' a n ds := by
  obtain ⟨hl, l, hr, hd⟩ := h
  exact ⟨hl, l, hr.below hb, fun i r d h1 h2 => (hd i r d h1 h2).below hb⟩

theorem DRow.addr {w : World} {a : Option Addr} {n : Nat} {ds : List D3} (h : DRow w a n ds) (hn : 0 < n) : ∃ b off, a = some ⟨b, off, none⟩ := by
  obtain ⟨_, l, hr, _⟩ := h
  obtain ⟨b, off, e, _⟩ := hr.2 hn
  exact ⟨b, off, e⟩

theorem DRow.el {w : World} {b off n : Nat} {ds : List D3} (h : DRow w (some ⟨b, off, none⟩) n ds) {k : Nat} (hk : k < n) :
    ∃ r d, ds[k]? = some d ∧ Rd w r d ∧ w.cell? ⟨b, off + k * 3, none⟩ = some r.x ∧ w.cell? ⟨b, off + k * 3 + 1, none⟩ = some r.y ∧ w.cell? ⟨b, off + k * 3 + 2, none⟩ = some r.z := by
  obtain ⟨hl, l, hr, hd⟩ := h
  obtain ⟨b', off', e, hc⟩ := hr.2 (by omega)
  simp only [Option.some.injEq, Addr.mk.injEq, and_true] at e
  obtain ⟨rfl, rfl⟩ := e
  have hkl : k < l.length := by rw [hr.1]; exact hk
  have h1 : l[k]? = some l[k] := List.getElem?_eq_getElem hkl
  have h2 : ds[k]? = some ds[k] := List.getElem?_eq_getElem (by rw [hl]; exact hk)
  exact ⟨_, _, h2, hd k _ _ h1 h2, row_rec hc h1⟩

/-! Who owns what -/
def Fd.Has (w : World) (base : Nat) (v : Value) : Fd → Prop
  | .b l => ∃ a c, v = .slice a l.length c ∧ Own w base v l.length l
  | .n x => v = .int .i64 x

theorem Fd.Has.read {w : World} {base : Nat} {v : Value} {f : Fd} (h : f.Has w base v) : f.Read w v := by
  cases f with
  | b l =>
    obtain ⟨a, c, e, ho⟩ := h
    obtain ⟨a', c', e', h1, h2, h3, _⟩ := ho.shape
    rw [e] at e'
    simp only [Value.slice.injEq, true_and] at e'
    obtain ⟨rfl, rfl⟩ := e'
    refine ⟨a, c, e, h3, h1, h2, fun hn => ?_⟩
    rcases ho.1.2 with ⟨e2, _⟩ | ⟨g, cap, cur, e2, _⟩
    · rw [e] at e2; simp only [Value.slice.injEq] at e2; exact e2.2.2
    · rw [e, hn] at e2; simp at e2
  | n x => exact h

theorem Fd.Has.below {w w' : World} {base : Nat} {v : Value} {f : Fd} (h : f.Has w base v) (hb : Below w.heap.size w w') : f.Has w' base v := by
  cases f with
  | b l => obtain ⟨a, c, e, ho⟩ := h; exact ⟨a, c, e, ho.below hb⟩
  | n x => exact h

theorem Fd.Has.mono {w : World} {base base' : Nat} {v : Value} {f : Fd} (h : f.Has w base v) (hb : base' ≤ base) : f.Has w base' v := by
  cases f with
  | b l => obtain ⟨a, c, e, ho⟩ := h; exact ⟨a, c, e, ho.mono hb⟩
  | n x => exact h

theorem Fd.Has.kept {w w' : World} {base : Nat} {v : Value} {f : Fd} {row : Option Nat} (h : f.Has w base v) (hg : w.grownBy w' row) (hne : v.ownBlock = none ∨ v.ownBlock ≠ row) : f.Has w' base v := by
  cases f with
  | b l => obtain ⟨a, c, e, ho⟩ := h; exact ⟨a, c, e, ho.kept hg hne⟩
  | n x => exact h

theorem Fd.Has.lt {w : World} {base : Nat} {v : Value} {f : Fd} (h : f.Has w base v) : ∀ g, v.ownBlock = some g → base ≤ g ∧ g < w.heap.size := by
  cases f with
  | b l => obtain ⟨a, c, e, ho⟩ := h; exact ho.1.lt
  | n x => intro g hg; rw [show v = .int .i64 x from h] at hg; cases hg

def Hs (w : World) (base : Nat) (r : R3) (d : D3) : Prop := d.x.Has w base r.x ∧ d.y.Has w base r.y ∧ d.z.Has w base r.z

theorem Hs.rd {w : World} {base : Nat} {r : R3} {d : D3} (h : Hs w base r d) : Rd w r d := ⟨h.1.read, h.2.1.read, h.2.2.read⟩
theorem Hs.below {w w' : World} {base : Nat} {r : R3} {d : D3} (h : Hs w base r d) (hb : Below w.heap.size w w') : Hs w' base r d := ⟨h.1.below hb, h.2.1.below hb, h.2.2.below hb⟩
theorem Hs.mono {w : World} {base base' : Nat} {r : R3} {d : D3} (h : Hs w base r d) (hb : base' ≤ base) : Hs w base' r d := ⟨h.1.mono hb, h.2.1.mono hb, h.2.2.mono hb⟩

def R3.owns (r : R3) : List (Option Nat) := [r.x.ownBlock, r.y.ownBlock, r.z.ownBlock]
def owners : List R3 → List (Option Nat)
  | [] => []
  | r :: l => r.owns ++ owners l

theorem owners_append (l m : List R3) : owners (l ++ m) = owners l ++ owners m := by
  induction l with
  | nil => rfl
  | cons x l ih => simp [owners, ih]

/-- Blocks from lo up to hi, all unlike. -/
def Bk (lo hi : Nat) (os : List (Option Nat)) : Prop := (∀ g, some g ∈ os → lo ≤ g ∧ g < hi) ∧ os.Pairwise (fun a b => a = none ∨ a ≠ b)

theorem Bk.append {lo mid hi : Nat} {xs ys : List (Option Nat)} (h1 : Bk lo mid xs) (h2 : Bk mid hi ys) (hl : lo ≤ mid) (hh : mid ≤ hi) : Bk lo hi (xs ++ ys) := by
  refine ⟨fun g hg => ?_, List.pairwise_append.2 ⟨h1.2, h2.2, fun a ha b hb => ?_⟩⟩
  · rcases List.mem_append.1 hg with h | h
    · have := h1.1 g h; omega
    · have := h2.1 g h; omega
  · cases a with
    | none => exact .inl rfl
    | some g =>
      cases b with
      | none => exact .inr (by simp)
      | some k =>
        refine .inr fun e => ?_
        have e' : g = k := Option.some.inj e
        have x1 := h1.1 g ha
        have x2 := h2.1 k hb
        omega

theorem Bk.mono {lo hi hi' : Nat} {os : List (Option Nat)} (h : Bk lo hi os) (hh : hi ≤ hi') : Bk lo hi' os := ⟨fun g hg => by have := h.1 g hg; omega, h.2⟩
theorem Bk.low {lo lo' hi : Nat} {os : List (Option Nat)} (h : Bk lo hi os) (hh : lo' ≤ lo) : Bk lo' hi os := ⟨fun g hg => by have := h.1 g hg; omega, h.2⟩
theorem Bk.nil {lo hi : Nat} : Bk lo hi [] := ⟨by simp, List.Pairwise.nil⟩
theorem Bk.one {lo hi g : Nat} (h1 : lo ≤ g) (h2 : g < hi) : Bk lo hi [some g] := ⟨by intro k hk; simp at hk; omega, List.pairwise_singleton _ _⟩

/-- Records in a row of one's own, each with what is its own. -/
structure DOwn (w : World) (T : TypeId) (base : Nat) (v : Value) (n : Nat) (l : List R3) (ds : List D3) : Prop where
  row : w.ownsRow base T 3 v n (flat3 l)
  len : l.length = n
  lend : ds.length = n
  has : ∀ (i : Nat) (r : R3) (d : D3), l[i]? = some r → ds[i]? = some d → Hs w base r d

theorem ownsRow_below {w w' : World} {T base n : Nat} {v : Value} {xs : List Value} (h : w.ownsRow base T 3 v n xs) (hb : Below w.heap.size w w') : w'.ownsRow base T 3 v n xs := by
  refine ⟨h.1, ?_⟩
  rcases h.2 with hn | ⟨g, cap, cur, hv, hg, hh, r⟩
  · exact .inl hn
  · exact .inr ⟨g, cap, cur, hv, hg, by rw [hb.block g (Array.getElem?_eq_some_iff.1 hh).1]; exact hh, r⟩

theorem DOwn.below {w w' : World} {T base n : Nat} {v : Value} {l : List R3} {ds : List D3} (h : DOwn w T base v n l ds) (hb : Below w.heap.size w w') : DOwn w' T base v n l ds :=
  ⟨ownsRow_below h.row hb, h.len, h.lend, fun i r d h1 h2 => (h.has i r d h1 h2).below hb⟩

theorem DOwn.mono {w : World} {T base base' n : Nat} {v : Value} {l : List R3} {ds : List D3} (h : DOwn w T base v n l ds) (hb : base' ≤ base) : DOwn w T base' v n l ds := by
  refine ⟨⟨h.row.1, ?_⟩, h.len, h.lend, fun i r d h1 h2 => (h.has i r d h1 h2).mono hb⟩
  rcases h.row.2 with hn | ⟨g, cap, cur, hv, hg, hh, r⟩
  · exact .inl hn
  · exact .inr ⟨g, cap, cur, hv, by omega, hh, r⟩

theorem DOwn.shape {w : World} {T base n : Nat} {v : Value} {l : List R3} {ds : List D3} (h : DOwn w T base v n l ds) :
    ∃ a c, v = .slice a n c ∧ n ≤ c ∧ c ≤ maxLen ∧ (a = none → c = 0) ∧ DRow w a n ds := by
  have hd := fun (i : Nat) (r : R3) (d : D3) h1 h2 => (h.has i r d h1 h2).rd
  obtain ⟨⟨hlen, hr⟩, hl, hld, _⟩ := h
  rcases hr with ⟨rfl, rfl⟩ | ⟨g, cap, cur, rfl, hg, hh, hnc, hcm, hs, ht⟩
  · exact ⟨none, 0, rfl, by omega, by simp, fun _ => rfl, hld, l, ⟨hl, by omega⟩, hd⟩
  · refine ⟨some ⟨g, 0, none⟩, cap, rfl, hnc, hcm, by simp, hld, l, ⟨hl, fun hn => ⟨g, 0, rfl, fun i v hv => ?_⟩⟩, hd⟩
    rw [Nat.zero_add, cell_of_row w g i cur _ (0, 0) hh]
    have hi : i < (flat3 l).length := (List.getElem?_eq_some_iff.1 hv).1
    rw [flat3_len, hl] at hi
    have e : (cur.toList.take (n * 3))[i]? = cur[i]? := by rw [List.getElem?_take, if_pos hi]; simp
    rw [← e, ht]
    exact hv

/-! Three cells of a block -/
def B3 (w : World) (g : Nat) (t : TypeId) (x y z : Value) : Prop := w.heap[g]? = some (.cells #[x, y, z] t (0, 0))

theorem B3.facts {w : World} {g : Nat} {t : TypeId} {x y z : Value} (h : B3 w g t x y z) :
    w.cell? ⟨g, 0, none⟩ = some x ∧ w.cell? ⟨g, 1, none⟩ = some y ∧ w.cell? ⟨g, 2, none⟩ = some z ∧ w.frozen? ⟨g, 0, none⟩ = false ∧ w.frozen? ⟨g, 1, none⟩ = false ∧ w.frozen? ⟨g, 2, none⟩ = false :=
  ⟨by rw [cell_of_row w g 0 _ _ (0, 0) h]; rfl, by rw [cell_of_row w g 1 _ _ (0, 0) h]; rfl, by rw [cell_of_row w g 2 _ _ (0, 0) h]; rfl, frozen_of_row w g 0 _ _ h, frozen_of_row w g 1 _ _ h, frozen_of_row w g 2 _ _ h⟩

theorem B3.below {w w' : World} {g B : Nat} {t : TypeId} {x y z : Value} (h : B3 w g t x y z) (hb : Below B w w') (hg : g < B) : B3 w' g t x y z := (hb.block g hg).trans h
theorem B3.new (w : World) (t : TypeId) (x y z : Value) : B3 (w.alloc (.cells #[x, y, z] t (0, 0))) w.heap.size t x y z := heap_alloc_new w _
theorem B3.old {w : World} {g : Nat} {t : TypeId} {x y z : Value} {o : Obj} (h : B3 w g t x y z) : B3 (w.alloc o) g t x y z :=
  ((((Below.refl w.heap.size w).alloc (Nat.le_refl _) o).block g (Array.getElem?_eq_some_iff.1 h).1)).trans h
theorem B3.lt {w : World} {g : Nat} {t : TypeId} {x y z : Value} (h : B3 w g t x y z) : g < w.heap.size := (Array.getElem?_eq_some_iff.1 h).1
theorem B3.set0 {w : World} {g : Nat} {t : TypeId} {x y z : Value} (h : B3 w g t x y z) (v : Value) : B3 (w.setCell ⟨g, 0, none⟩ v) g t v y z := by
  unfold B3; rw [heap_setCell_same w g 0 _ _ _ h]; rfl
theorem B3.set1 {w : World} {g : Nat} {t : TypeId} {x y z : Value} (h : B3 w g t x y z) (v : Value) : B3 (w.setCell ⟨g, 1, none⟩ v) g t x v z := by
  unfold B3; rw [heap_setCell_same w g 1 _ _ _ h]; rfl
theorem B3.set2 {w : World} {g : Nat} {t : TypeId} {x y z : Value} (h : B3 w g t x y z) (v : Value) : B3 (w.setCell ⟨g, 2, none⟩ v) g t x y v := by
  unfold B3; rw [heap_setCell_same w g 2 _ _ _ h]; rfl
theorem B3.other {w : World} {g k i : Nat} {t : TypeId} {x y z v : Value} (h : B3 w g t x y z) (hne : g ≠ k) : B3 (w.setCell ⟨k, i, none⟩ v) g t x y z := (heap_setCell_other w ⟨k, i, none⟩ g v hne).trans h

/-- A store into a block that is not one's own. -/
theorem grown_set (w : World) (k i : Nat) (v : Value) : w.grownBy (w.setCell ⟨k, i, none⟩ v) (some k) :=
  ⟨rfl, rfl, rfl, by simp, fun j hj hne => heap_setCell_other w ⟨k, i, none⟩ j v (fun e => hne (by rw [e]))⟩

theorem Own.other {w : World} {base k i : Nat} {v u : Value} {n : Nat} {l : List Int} (h : Own w base v n l) (hne : v.ownBlock ≠ some k) : Own (w.setCell ⟨k, i, none⟩ u) base v n l :=
  h.kept (grown_set w k i u) (.inr hne)

/-- A record built up in one block and handed over in another: six stores. -/
theorem lay6 {w0 w : World} {B g k : Nat} {t : TypeId} {x y z x' y' z' : Value} (h : B3 w k t x' y' z') (hb : Below B w0 w) (hg : B ≤ g) (hk : B ≤ k) (hne : k ≠ g) :
    B3 ((((((w.setCell ⟨g, 0, none⟩ x).setCell ⟨g, 1, none⟩ y).setCell ⟨g, 2, none⟩ z).setCell ⟨k, 0, none⟩ x).setCell ⟨k, 1, none⟩ y).setCell ⟨k, 2, none⟩ z) k t x y z ∧
    Below B w0 ((((((w.setCell ⟨g, 0, none⟩ x).setCell ⟨g, 1, none⟩ y).setCell ⟨g, 2, none⟩ z).setCell ⟨k, 0, none⟩ x).setCell ⟨k, 1, none⟩ y).setCell ⟨k, 2, none⟩ z) ∧
    ((((((w.setCell ⟨g, 0, none⟩ x).setCell ⟨g, 1, none⟩ y).setCell ⟨g, 2, none⟩ z).setCell ⟨k, 0, none⟩ x).setCell ⟨k, 1, none⟩ y).setCell ⟨k, 2, none⟩ z).heap.size = w.heap.size ∧
    (∀ base v n l, Own w base v n l → v.ownBlock ≠ some g → v.ownBlock ≠ some k → Own ((((((w.setCell ⟨g, 0, none⟩ x).setCell ⟨g, 1, none⟩ y).setCell ⟨g, 2, none⟩ z).setCell ⟨k, 0, none⟩ x).setCell ⟨k, 1, none⟩ y).setCell ⟨k, 2, none⟩ z) base v n l) :=
  ⟨(((((h.other hne).other hne).other hne).set0 x).set1 y).set2 z, (((((hb.setCell hg x).setCell hg y).setCell hg z).setCell hk x).setCell hk y).setCell hk z, by simp,
    fun base v n l ho h1 h2 => (((((ho.other h1).other h1).other h1).other h2).other h2).other h2⟩

/-- The same, the first field laid already: five stores. -/
theorem lay5 {w0 w : World} {B g k : Nat} {t : TypeId} {x y z x' y' z' : Value} (h : B3 w k t x' y' z') (hb : Below B w0 w) (hg : B ≤ g) (hk : B ≤ k) (hne : k ≠ g) :
    B3 (((((w.setCell ⟨g, 1, none⟩ y).setCell ⟨g, 2, none⟩ z).setCell ⟨k, 0, none⟩ x).setCell ⟨k, 1, none⟩ y).setCell ⟨k, 2, none⟩ z) k t x y z ∧
    Below B w0 (((((w.setCell ⟨g, 1, none⟩ y).setCell ⟨g, 2, none⟩ z).setCell ⟨k, 0, none⟩ x).setCell ⟨k, 1, none⟩ y).setCell ⟨k, 2, none⟩ z) ∧
    (((((w.setCell ⟨g, 1, none⟩ y).setCell ⟨g, 2, none⟩ z).setCell ⟨k, 0, none⟩ x).setCell ⟨k, 1, none⟩ y).setCell ⟨k, 2, none⟩ z).heap.size = w.heap.size ∧
    (∀ base v n l, Own w base v n l → v.ownBlock ≠ some g → v.ownBlock ≠ some k → Own (((((w.setCell ⟨g, 1, none⟩ y).setCell ⟨g, 2, none⟩ z).setCell ⟨k, 0, none⟩ x).setCell ⟨k, 1, none⟩ y).setCell ⟨k, 2, none⟩ z) base v n l) :=
  ⟨((((h.other hne).other hne).set0 x).set1 y).set2 z, ((((hb.setCell hg y).setCell hg z).setCell hk x).setCell hk y).setCell hk z, by simp,
    fun base v n l ho h1 h2 => ((((ho.other h1).other h1).other h2).other h2).other h2⟩
end Go.Proofs.Ytefciaeajlgheaa

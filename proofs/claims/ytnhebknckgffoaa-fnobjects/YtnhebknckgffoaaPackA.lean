import Derived.Test.YtnhebknckgffoaaBase
import Derived.Deep.Cut
import Derived.Deep.CutRange
import Derived.Deep.RegionHeld3
/- Slices of records of three cells each (exports, imports): what reads there, who owns it. No function is walked here. -/
namespace Go.Proofs.Ytnhebknckgffoaa
open Go.RowKit
set_option linter.unusedVariables false

/-- What a field holds: bytes, or an int. -/
inductive Fd where
  | b (l : List Int)
  | n (x : Int)

/-- The cells of a record. -/
structure R3 where
  x : Value
  y : Value
  z : Value

/-- What a record holds. -/
structure D3 where
  x : Fd
  y : Fd
  z : Fd

def R3.vals (r : R3) : List Value := [r.x, r.y, r.z]
def flat3 : List R3 → List Value
  | [] => []
  | r :: l => r.vals ++ flat3 l

theorem flat3_append (l m : List R3) : flat3 (l ++ m) = flat3 l ++ flat3 m := by
  induction l with
  | nil => rfl
  | cons x l ih => simp [flat3, ih]

theorem flat3_len (l : List R3) : (flat3 l).length = l.length * 3 := by
  induction l with
  | nil => rfl
  | cons x l ih => simp [flat3, R3.vals, ih]; omega

theorem flat3_at (l : List R3) (k i : Nat) (hi : i < 3) (r : R3) (hk : l[k]? = some r) : (flat3 l)[k * 3 + i]? = r.vals[i]? := by
  induction l generalizing k with
  | nil => simp at hk
  | cons y l ih =>
    cases k with
    | zero =>
      simp only [List.getElem?_cons_zero, Option.some.injEq] at hk
      subst hk
      rw [flat3, Nat.zero_mul, Nat.zero_add, List.getElem?_append_left (by simpa [R3.vals] using hi)]
    | succ k =>
      rw [List.getElem?_cons_succ] at hk
      have e : (k + 1) * 3 + i = y.vals.length + (k * 3 + i) := by simp [R3.vals]; omega
      rw [flat3, e, List.getElem?_append_right (by omega), Nat.add_sub_cancel_left]
      exact ih k hk

/-- Three cells set: one record set. -/
theorem flat3_set (l : List R3) (k : Nat) (r : R3) (hk : k < l.length) :
    (((flat3 l).set (k * 3) r.x).set (k * 3 + 1) r.y).set (k * 3 + 2) r.z = flat3 (l.set k r) := by
  induction l generalizing k with
  | nil => simp at hk
  | cons y l ih =>
    cases k with
    | zero => simp [flat3, R3.vals]
    | succ k =>
      have e' : ∀ i v (m : List Value), ((y.vals ++ m).set ((k + 1) * 3 + i) v) = y.vals ++ m.set (k * 3 + i) v := by
        intro i v m
        have e1 : (k + 1) * 3 + i = y.vals.length + (k * 3 + i) := by simp [R3.vals]; omega
        rw [e1, List.set_append_right _ _ (by omega), Nat.add_sub_cancel_left]
      have e0 : ∀ v (m : List Value), ((y.vals ++ m).set ((k + 1) * 3) v) = y.vals ++ m.set (k * 3) v := fun v m => e' 0 v m
      rw [flat3, e0, e', e', ih k (by simpa using hk)]
      rfl

theorem take_set3 (l m : List R3) (k : Nat) (r : R3) (hl : l.length = k) (hm : k < m.length) : (l ++ m.drop k).set k r = (l ++ [r]) ++ m.drop (k + 1) := by
  have e : m.drop k = m[k] :: m.drop (k + 1) := by rw [List.drop_eq_getElem_cons hm]
  rw [List.set_append_right _ _ (by omega), hl, e, Nat.sub_self, List.set_cons_zero]
  simp

/-- The slice at address a, of n records, has these cells. -/
def Row3 (w : World) (a : Option Addr) (n : Nat) (l : List R3) : Prop :=
  l.length = n ∧ (0 < n → ∃ b off, a = some ⟨b, off, none⟩ ∧ ∀ k v, (flat3 l)[k]? = some v → w.cell? ⟨b, off + k, none⟩ = some v)

theorem Row3.below {w w' : World} {a : Option Addr} {n : Nat} {l : List R3} (h : Row3 w a n l) (hb : Below w.heap.size w w') : Row3 w' a n l := by
  refine ⟨h.1, fun hn => ?_⟩
  obtain ⟨b, off, ha, hc⟩ := h.2 hn
  refine ⟨b, off, ha, fun k v hv => ?_⟩
  have := hc k v hv
  rw [hb.cell (World.block_lt_of_cell? w _ this)]; exact this

theorem row_rec {w : World} {b off k : Nat} {l : List R3} (hc : ∀ k v, (flat3 l)[k]? = some v → w.cell? ⟨b, off + k, none⟩ = some v) {r : R3} (hk : l[k]? = some r) :
    w.cell? ⟨b, off + k * 3, none⟩ = some r.x ∧ w.cell? ⟨b, off + k * 3 + 1, none⟩ = some r.y ∧ w.cell? ⟨b, off + k * 3 + 2, none⟩ = some r.z := by
  have h : ∀ i, i < 3 → ∀ v, r.vals[i]? = some v → w.cell? ⟨b, off + k * 3 + i, none⟩ = some v := by
    intro i hi v hv
    rw [Nat.add_assoc]
    exact hc _ _ ((flat3_at l k i hi r hk).trans hv)
  exact ⟨h 0 (by omega) _ rfl, h 1 (by omega) _ rfl, h 2 (by omega) _ rfl⟩

/-- The value reads as what the field holds. -/
def Fd.Read (w : World) (v : Value) : Fd → Prop
  | .b l => ∃ a c, v = .slice a l.length c ∧ BRow w a l.length l ∧ l.length ≤ c ∧ c ≤ maxLen ∧ (a = none → c = 0)
  | .n x => v = .int .i64 x

theorem Fd.Read.below {w w' : World} {v : Value} {f : Fd} (h : f.Read w v) (hb : Below w.heap.size w w') : f.Read w' v := by
  cases f with
  | b l => obtain ⟨a, c, e, hr, r⟩ := h; exact ⟨a, c, e, hr.below hb, r⟩
  | n x => exact h

def Rd (w : World) (r : R3) (d : D3) : Prop := d.x.Read w r.x ∧ d.y.Read w r.y ∧ d.z.Read w r.z

theorem Rd.below {w w' : World} {r : R3} {d : D3} (h : Rd w r d) (hb : Below w.heap.size w w') : Rd w' r d := ⟨h.1.below hb, h.2.1.below hb, h.2.2.below hb⟩

/-- The slice at address a, of n records, reads as ds. -/
def DRow (w : World) (a : Option Addr) (n : Nat) (ds : List D3) : Prop :=
  ds.length = n ∧ ∃ l : List R3, Row3 w a n l ∧ ∀ (i : Nat) (r : R3) (d : D3), l[i]? = some r → ds[i]? = some d → Rd w r d

theorem DRow.below {w w' : World} {a : Option Addr} {n : Nat} {ds : List D3} (h : DRow w a n ds) (hb : Below w.heap.size w w') : DRow w' a n ds := by
  obtain ⟨hl, l, hr, hd⟩ := h
  exact ⟨hl, l, hr.below hb, fun i r d h1 h2 => (hd i r d h1 h2).below hb⟩

theorem DRow.addr {w : World} {a : Option Addr} {n : Nat} {ds : List D3} (h : DRow w a n ds) (hn : 0 < n) : ∃ b off, a = some ⟨b, off, none⟩ := by
  obtain ⟨_, l, hr, _⟩ := h
  obtain ⟨b, off, e, _⟩ := hr.2 hn
  exact ⟨b, off, e⟩

theorem DRow.el {w : World} {b off n : Nat} {ds : List D3} (h : DRow w (some ⟨b, off, none⟩) n ds) {k : Nat} (hk : k < n) :
    ∃ r d, ds[k]? = some d ∧ Rd w r d ∧ w.cell? ⟨b, off + k * 3, none⟩ = some r.x ∧ w.cell? ⟨b, off + k * 3 + 1, none⟩ = some r.y ∧ w.cell? ⟨b, off + k * 3 + 2, none⟩ = some r.z := by
  obtain ⟨hl, l, hr, hd⟩ := h
  obtain ⟨b', off', e, hc⟩ := hr.2 (by omega)
  simp only [Option.some.injEq, Addr.mk.injEq, and_true] at e
  obtain ⟨rfl, rfl⟩ := e
  have hkl : k < l.length := by rw [hr.1]; exact hk
  have h1 : l[k]? = some l[k] := List.getElem?_eq_getElem hkl
  have h2 : ds[k]? = some ds[k] := List.getElem?_eq_getElem (by rw [hl]; exact hk)
  exact ⟨_, _, h2, hd k _ _ h1 h2, row_rec hc h1⟩

/-! Who owns what -/
def Fd.Has (w : World) (base : Nat) (v : Value) : Fd → Prop
  | .b l => ∃ a c, v = .slice a l.length c ∧ Own w base v l.length l
  | .n x => v = .int .i64 x

theorem Fd.Has.read {w : World} {base : Nat} {v : Value} {f : Fd} (h : f.Has w base v) : f.Read w v := by
  cases f with
  | b l =>
    obtain ⟨a, c, e, ho⟩ := h
    obtain ⟨a', c', e', h1, h2, h3, _⟩ := ho.shape
    rw [e] at e'
    simp only [Value.slice.injEq, true_and] at e'
    obtain ⟨rfl, rfl⟩ := e'
    refine ⟨a, c, e, h3, h1, h2, fun hn => ?_⟩
    rcases ho.1.2 with ⟨e2, _⟩ | ⟨g, cap, cur, e2, _⟩
    · rw [e] at e2; simp only [Value.slice.injEq] at e2; exact e2.2.2
    · rw [e, hn] at e2; simp at e2
  | n x => exact h

theorem Fd.Has.below {w w' : World} {base : Nat} {v : Value} {f : Fd} (h : f.Has w base v) (hb : Below w.heap.size w w') : f.Has w' base v := by
  cases f with
  | b l => obtain ⟨a, c, e, ho⟩ := h; exact ⟨a, c, e, ho.below hb⟩
  | n x => exact h

theorem Fd.Has.mono {w : World} {base base' : Nat} {v : Value} {f : Fd} (h : f.Has w base v) (hb : base' ≤ base) : f.Has w base' v := by
  cases f with
  | b l => obtain ⟨a, c, e, ho⟩ := h; exact ⟨a, c, e, ho.mono hb⟩
  | n x => exact h

theorem Fd.Has.kept {w w' : World} {base : Nat} {v : Value} {f : Fd} {row : Option Nat} (h : f.Has w base v) (hg : w.grownBy w' row) (hne : v.ownBlock = none ∨ v.ownBlock ≠ row) : f.Has w' base v := by
  cases f with
  | b l => obtain ⟨a, c, e, ho⟩ := h; exact ⟨a, c, e, ho.kept hg hne⟩
  | n x => exact h

theorem Fd.Has.lt {w : World} {base : Nat} {v : Value} {f : Fd} (h : f.Has w base v) : ∀ g, v.ownBlock = some g → base ≤ g ∧ g < w.heap.size := by
  cases f with
  | b l => obtain ⟨a, c, e, ho⟩ := h; exact ho.1.lt
  | n x => intro g hg; rw [show v = .int .i64 x from h] at hg; cases hg

def Hs (w : World) (base : Nat) (r : R3) (d : D3) : Prop := d.x.Has w base r.x ∧ d.y.Has w base r.y ∧ d.z.Has w base r.z

theorem Hs.rd {w : World} {base : Nat} {r : R3} {d : D3} (h : Hs w base r d) : Rd w r d := ⟨h.1.read, h.2.1.read, h.2.2.read⟩
theorem Hs.below {w w' : World} {base : Nat} {r : R3} {d : D3} (h : Hs w base r d) (hb : Below w.heap.size w w') : Hs w' base r d := ⟨h.1.below hb, h.2.1.below hb, h.2.2.below hb⟩
theorem Hs.mono {w : World} {base base' : Nat} {r : R3} {d : D3} (h : Hs w base r d) (hb : base' ≤ base) : Hs w base' r d := ⟨h.1.mono hb, h.2.1.mono hb, h.2.2.mono hb⟩

def R3.owns (r : R3) : List (Option Nat) := [r.x.ownBlock, r.y.ownBlock, r.z.ownBlock]
def owners : List R3 → List (Option Nat)
  | [] => []
  | r :: l => r.owns ++ owners l

theorem owners_append (l m : List R3) : owners (l ++ m) = owners l ++ owners m := by
  induction l with
  | nil => rfl
  | cons x l ih => simp [owners, ih]

/-- Blocks from lo up to hi, all unlike. -/
def Bk (lo hi : Nat) (os : List (Option Nat)) : Prop := (∀ g, some g ∈ os → lo ≤ g ∧ g < hi) ∧ os.Pairwise (fun a b => a = none ∨ a ≠ b)

theorem Bk.append {lo mid hi : Nat} {xs ys : List (Option Nat)} (h1 : Bk lo mid xs) (h2 : Bk mid hi ys) (hl : lo ≤ mid) (hh : mid ≤ hi) : Bk lo hi (xs ++ ys) := by
  refine ⟨fun g hg => ?_, List.pairwise_append.2 ⟨h1.2, h2.2, fun a ha b hb => ?_⟩⟩
  · rcases List.mem_append.1 hg with h | h
    · have := h1.1 g h; omega
    · have := h2.1 g h; omega
  · cases a with
    | none => exact .inl rfl
    | some g =>
      cases b with
      | none => exact .inr (by simp)
      | some k =>
        refine .inr fun e => ?_
        have e' : g = k := Option.some.inj e
        have x1 := h1.1 g ha
        have x2 := h2.1 k hb
        omega

theorem Bk.mono {lo hi hi' : Nat} {os : List (Option Nat)} (h : Bk lo hi os) (hh : hi ≤ hi') : Bk lo hi' os := ⟨fun g hg => by have := h.1 g hg; omega, h.2⟩
theorem Bk.low {lo lo' hi : Nat} {os : List (Option Nat)} (h : Bk lo hi os) (hh : lo' ≤ lo) : Bk lo' hi os := ⟨fun g hg => by have := h.1 g hg; omega, h.2⟩
theorem Bk.nil {lo hi : Nat} : Bk lo hi [] := ⟨by simp, List.Pairwise.nil⟩
theorem Bk.one {lo hi g : Nat} (h1 : lo ≤ g) (h2 : g < hi) : Bk lo hi [some g] := ⟨by intro k hk; simp at hk; omega, List.pairwise_singleton _ _⟩

/-- Records in a row of one's own, each with what is its own. -/
structure DOwn (w : World) (T : TypeId) (base : Nat) (v : Value) (n : Nat) (l : List R3) (ds : List D3) : Prop where
  row : w.ownsRow base T 3 v n (flat3 l)
  len : l.length = n
  lend : ds.length = n
  has : ∀ (i : Nat) (r : R3) (d : D3), l[i]? = some r → ds[i]? = some d → Hs w base r d

theorem ownsRow_below {w w' : World} {T base n : Nat} {v : Value} {xs : List Value} (h : w.ownsRow base T 3 v n xs) (hb : Below w.heap.size w w') : w'.ownsRow base T 3 v n xs := by
  refine ⟨h.1, ?_⟩
  rcases h.2 with hn | ⟨g, cap, cur, hv, hg, hh, r⟩
  · exact .inl hn
  · exact .inr ⟨g, cap, cur, hv, hg, by rw [hb.block g (Array.getElem?_eq_some_iff.1 hh).1]; exact hh, r⟩

theorem DOwn.below {w w' : World} {T base n : Nat} {v : Value} {l : List R3} {ds : List D3} (h : DOwn w T base v n l ds) (hb : Below w.heap.size w w') : DOwn w' T base v n l ds :=
  ⟨ownsRow_below h.row hb, h.len, h.lend, fun i r d h1 h2 => (h.has i r d h1 h2).below hb⟩

theorem DOwn.mono {w : World} {T base base' n : Nat} {v : Value} {l : List R3} {ds : List D3} (h : DOwn w T base v n l ds) (hb : base' ≤ base) : DOwn w T base' v n l ds := by
  refine ⟨⟨h.row.1, ?_⟩, h.len, h.lend, fun i r d h1 h2 => (h.has i r d h1 h2).mono hb⟩
  rcases h.row.2 with hn | ⟨g, cap, cur, hv, hg, hh, r⟩
  · exact .inl hn
  · exact .inr ⟨g, cap, cur, hv, by omega, hh, r⟩

theorem DOwn.shape {w : World} {T base n : Nat} {v : Value} {l : List R3} {ds : List D3} (h : DOwn w T base v n l ds) :
    ∃ a c, v = .slice a n c ∧ n ≤ c ∧ c ≤ maxLen ∧ (a = none → c = 0) ∧ DRow w a n ds := by
  have hd := fun (i : Nat) (r : R3) (d : D3) h1 h2 => (h.has i r d h1 h2).rd
  obtain ⟨⟨hlen, hr⟩, hl, hld, _⟩ := h
  rcases hr with ⟨rfl, rfl⟩ | ⟨g, cap, cur, rfl, hg, hh, hnc, hcm, hs, ht⟩
  · exact ⟨none, 0, rfl, by omega, by simp, fun _ => rfl, hld, l, ⟨hl, by omega⟩, hd⟩
  · refine ⟨some ⟨g, 0, none⟩, cap, rfl, hnc, hcm, by simp, hld, l, ⟨hl, fun hn => ⟨g, 0, rfl, fun i v hv => ?_⟩⟩, hd⟩
    rw [Nat.zero_add, cell_of_row w g i cur _ (0, 0) hh]
    have hi : i < (flat3 l).length := (List.getElem?_eq_some_iff.1 hv).1
    rw [flat3_len, hl] at hi
    have e : (cur.toList.take (n * 3))[i]? = cur[i]? := by rw [List.getElem?_take, if_pos hi]; simp
    rw [← e, ht]
    exact hv

/-! Three cells of a block -/
def B3 (w : World) (g : Nat) (t : TypeId) (x y z : Value) : Prop := w.heap[g]? = some (.cells #[x, y, z] t (0, 0))

theorem B3.facts {w : World} {g : Nat} {t : TypeId} {x y z : Value} (h : B3 w g t x y z) :
    w.cell? ⟨g, 0, none⟩ = some x ∧ w.cell? ⟨g, 1, none⟩ = some y ∧ w.cell? ⟨g, 2, none⟩ = some z ∧ w.frozen? ⟨g, 0, none⟩ = false ∧ w.frozen? ⟨g, 1, none⟩ = false ∧ w.frozen? ⟨g, 2, none⟩ = false :=
  ⟨by rw [cell_of_row w g 0 _ _ (0, 0) h]; rfl, by rw [cell_of_row w g 1 _ _ (0, 0) h]; rfl, by rw [cell_of_row w g 2 _ _ (0, 0) h]; rfl, frozen_of_row w g 0 _ _ h, frozen_of_row w g 1 _ _ h, frozen_of_row w g 2 _ _ h⟩

theorem B3.below {w w' : World} {g B : Nat} {t : TypeId} {x y z : Value} (h : B3 w g t x y z) (hb : Below B w w') (hg : g < B) : B3 w' g t x y z := (hb.block g hg).trans h
theorem B3.new (w : World) (t : TypeId) (x y z : Value) : B3 (w.alloc (.cells #[x, y, z] t (0, 0))) w.heap.size t x y z := heap_alloc_new w _
theorem B3.old {w : World} {g : Nat} {t : TypeId} {x y z : Value} {o : Obj} (h : B3 w g t x y z) : B3 (w.alloc o) g t x y z :=
  ((((Below.refl w.heap.size w).alloc (Nat.le_refl _) o).block g (Array.getElem?_eq_some_iff.1 h).1)).trans h
theorem B3.lt {w : World} {g : Nat} {t : TypeId} {x y z : Value} (h : B3 w g t x y z) : g < w.heap.size := (Array.getElem?_eq_some_iff.1 h).1
theorem B3.set0 {w : World} {g : Nat} {t : TypeId} {x y z : Value} (h : B3 w g t x y z) (v : Value) : B3 (w.setCell ⟨g, 0, none⟩ v) g t v y z := by
  unfold B3; rw [heap_setCell_same w g 0 _ _ _ h]; rfl
theorem B3.set1 {w : World} {g : Nat} {t : TypeId} {x y z : Value} (h : B3 w g t x y z) (v : Value) : B3 (w.setCell ⟨g, 1, none⟩ v) g t x v z := by
  unfold B3; rw [heap_setCell_same w g 1 _ _ _ h]; rfl
theorem B3.set2 {w : World} {g : Nat} {t : TypeId} {x y z : Value} (h : B3 w g t x y z) (v : Value) : B3 (w.setCell ⟨g, 2, none⟩ v) g t x y v := by
  unfold B3; rw [heap_setCell_same w g 2 _ _ _ h]; rfl
theorem B3.other {w : World} {g k i : Nat} {t : TypeId} {x y z v : Value} (h : B3 w g t x y z) (hne : g ≠ k) : B3 (w.setCell ⟨k, i, none⟩ v) g t x y z := (heap_setCell_other w ⟨k, i, none⟩ g v hne).trans h

/-- A store into a block that is not one's own. -/
theorem grown_set (w : World) (k i : Nat) (v : Value) : w.grownBy (w.setCell ⟨k, i, none⟩ v) (some k) :=
  ⟨rfl, rfl, rfl, by simp, fun j hj hne => heap_setCell_other w ⟨k, i, none⟩ j v (fun e => hne (by rw [e]))⟩

theorem Own.other {w : World} {base k i : Nat} {v u : Value} {n : Nat} {l : List Int} (h : Own w base v n l) (hne : v.ownBlock ≠ some k) : Own (w.setCell ⟨k, i, none⟩ u) base v n l :=
  h.kept (grown_set w k i u) (.inr hne)

/-- A record built up in one block and handed over in another: six stores. -/
theorem lay6 {w0 w : World} {B g k : Nat} {t : TypeId} {x y z x' y' z' : Value} (h : B3 w k t x' y' z') (hb : Below B w0 w) (hg : B ≤ g) (hk : B ≤ k) (hne : k ≠ g) :
    B3 ((((((w.setCell ⟨g, 0, none⟩ x).setCell ⟨g, 1, none⟩ y).setCell ⟨g, 2, none⟩ z).setCell ⟨k, 0, none⟩ x).setCell ⟨k, 1, none⟩ y).setCell ⟨k, 2, none⟩ z) k t x y z ∧
    Below B w0 ((((((w.setCell ⟨g, 0, none⟩ x).setCell ⟨g, 1, none⟩ y).setCell ⟨g, 2, none⟩ z).setCell ⟨k, 0, none⟩ x).setCell ⟨k, 1, none⟩ y).setCell ⟨k, 2, none⟩ z) ∧
    ((((((w.setCell ⟨g, 0, none⟩ x).setCell ⟨g, 1, none⟩ y).setCell ⟨g, 2, none⟩ z).setCell ⟨k, 0, none⟩ x).setCell ⟨k, 1, none⟩ y).setCell ⟨k, 2, none⟩ z).heap.size = w.heap.size ∧
    (∀ base v n l, Own w base v n l → v.ownBlock ≠ some g → v.ownBlock ≠ some k → Own ((((((w.setCell ⟨g, 0, none⟩ x).setCell ⟨g, 1, none⟩ y).setCell ⟨g, 2, none⟩ z).setCell ⟨k, 0, none⟩ x).setCell ⟨k, 1, none⟩ y).setCell ⟨k, 2, none⟩ z) base v n l) :=
  ⟨(((((h.other hne).other hne).other hne).set0 x).set1 y).set2 z, (((((hb.setCell hg x).setCell hg y).setCell hg z).setCell hk x).setCell hk y).setCell hk z, by simp,
    fun base v n l ho h1 h2 => (((((ho.other h1).other h1).other h1).other h2).other h2).other h2⟩

/-- The same, the first field laid already: five stores. -/
theorem lay5 {w0 w : World} {B g k : Nat} {t : TypeId} {x y z x' y' z' : Value} (h : B3 w k t x' y' z') (hb : Below B w0 w) (hg : B ≤ g) (hk : B ≤ k) (hne : k ≠ g) :
    B3 (((((w.setCell ⟨g, 1, none⟩ y).setCell ⟨g, 2, none⟩ z).setCell ⟨k, 0, none⟩ x).setCell ⟨k, 1, none⟩ y).setCell ⟨k, 2, none⟩ z) k t x y z ∧
    Below B w0 (((((w.setCell ⟨g, 1, none⟩ y).setCell ⟨g, 2, none⟩ z).setCell ⟨k, 0, none⟩ x).setCell ⟨k, 1, none⟩ y).setCell ⟨k, 2, none⟩ z) ∧
    (((((w.setCell ⟨g, 1, none⟩ y).setCell ⟨g, 2, none⟩ z).setCell ⟨k, 0, none⟩ x).setCell ⟨k, 1, none⟩ y).setCell ⟨k, 2, none⟩ z).heap.size = w.heap.size ∧
    (∀ base v n l, Own w base v n l → v.ownBlock ≠ some g → v.ownBlock ≠ some k → Own (((((w.setCell ⟨g, 1, none⟩ y).setCell ⟨g, 2, none⟩ z).setCell ⟨k, 0, none⟩ x).setCell ⟨k, 1, none⟩ y).setCell ⟨k, 2, none⟩ z) base v n l) :=
  ⟨((((h.other hne).other hne).set0 x).set1 y).set2 z, ((((hb.setCell hg y).setCell hg z).setCell hk x).setCell hk y).setCell hk z, by simp,
    fun base v n l ho h1 h2 => ((((ho.other h1).other h1).other h2).other h2).other h2⟩
end Go.Proofs.Ytnhebknckgffoaa

/- A list of records while it is copied, record by record. No function is walked here. -/
namespace Go.Proofs.Ytnhebknckgffoaa
open Go.RowKit
set_option linter.unusedVariables false

theorem made_flat3 (z : R3) (n : Nat) : (madeCells #[z.x, z.y, z.z] (n * 3)).toList = flat3 (List.replicate n z) := by
  apply List.ext_getElem?
  intro j
  by_cases hj : j < n * 3
  · have h3 : j % 3 < 3 := Nat.mod_lt _ (by omega)
    have e : j = (j / 3) * 3 + j % 3 := by omega
    have hk : (List.replicate n z)[j / 3]? = some z := by rw [List.getElem?_replicate, if_pos (by omega)]
    have := flat3_at (List.replicate n z) (j / 3) (j % 3) h3 z hk
    rw [← e] at this
    rw [this]
    simp only [madeCells, Array.toList_map, List.getElem?_map, Array.toList_range, List.getElem?_range hj, Option.map_some]
    show some (#[z.x, z.y, z.z][j % 3]!) = _
    have : j % 3 = 0 ∨ j % 3 = 1 ∨ j % 3 = 2 := by omega
    rcases this with h | h | h <;> rw [h] <;> rfl
  · rw [List.getElem?_eq_none (by simp [madeCells]; omega), List.getElem?_eq_none (by rw [flat3_len]; simp; omega)]

structure TL (w wr : World) (T : TypeId) (n k : Nat) (zero : R3) (l : List R3) (ds : List D3) : Prop where
  len : l.length = k
  row : wr.ownsRow w.heap.size T 3 (.slice (some ⟨w.heap.size, 0, none⟩) n n) n (flat3 (l ++ (List.replicate n zero).drop k))
  has : ∀ (i : Nat) (r : R3) (d : D3), l[i]? = some r → ds[i]? = some d → Hs wr w.heap.size r d
  bk : Bk w.heap.size wr.heap.size (some w.heap.size :: owners l)
  below : Below w.heap.size w wr

theorem TL.start {w wr : World} {T n : Nat} {zero : R3} {ds : List D3} (h : wr.ownsRow w.heap.size T 3 (.slice (some ⟨w.heap.size, 0, none⟩) n n) n (madeCells #[zero.x, zero.y, zero.z] (n * 3)).toList) (hg : w.grownBy wr none) : TL w wr T n 0 zero [] ds := by
  refine ⟨rfl, ?_, by simp, ?_, (Below.refl _ _).grown hg (Nat.le_refl _) (by intro k hk; cases hk)⟩
  · rw [made_flat3] at h; simpa using h
  · have := (h.lt w.heap.size rfl).2
    exact Bk.one (Nat.le_refl _) this

theorem TL.cells {w wr : World} {T n k : Nat} {zero : R3} {l : List R3} {ds : List D3} (h : TL w wr T n k zero l ds) (hk : k < n) :
    ∃ u0 u1 u2, wr.cell? ⟨w.heap.size, k * 3, none⟩ = some u0 ∧ wr.cell? ⟨w.heap.size, k * 3 + 1, none⟩ = some u1 ∧ wr.cell? ⟨w.heap.size, k * 3 + 2, none⟩ = some u2 ∧
      wr.frozen? ⟨w.heap.size, k * 3, none⟩ = false ∧ wr.frozen? ⟨w.heap.size, k * 3 + 1, none⟩ = false ∧ wr.frozen? ⟨w.heap.size, k * 3 + 2, none⟩ = false := by
  have hl := h.row.1
  have hc : ∀ j, j < n * 3 → ∃ u, wr.cell? ⟨w.heap.size, j, none⟩ = some u := by
    intro j hj
    rw [h.row.cellAt j hj]
    exact ⟨_, List.getElem?_eq_getElem (by omega)⟩
  obtain ⟨u0, h0⟩ := hc (k * 3) (by omega)
  obtain ⟨u1, h1⟩ := hc (k * 3 + 1) (by omega)
  obtain ⟨u2, h2⟩ := hc (k * 3 + 2) (by omega)
  exact ⟨u0, u1, u2, h0, h1, h2, h.row.frozenAt _, h.row.frozenAt _, h.row.frozenAt _⟩

theorem TL.call {w w1 w2 : World} {T n k : Nat} {zero : R3} {l : List R3} {ds : List D3} (h : TL w w1 T n k zero l ds) (hb : Below w1.heap.size w1 w2) : TL w w2 T n k zero l ds :=
  ⟨h.len, ownsRow_below h.row hb, fun i r d h1 h2 => (h.has i r d h1 h2).below hb, h.bk.mono hb.size, h.below.trans (hb.mono h.below.size)⟩

theorem Fd.Has.other {w : World} {base k i : Nat} {v u : Value} {f : Fd} (h : f.Has w base v) (hne : v.ownBlock ≠ some k) : f.Has (w.setCell ⟨k, i, none⟩ u) base v :=
  h.kept (grown_set w k i u) (.inr hne)

theorem Hs.other {w : World} {base k i : Nat} {r : R3} {d : D3} {u : Value} (h : Hs w base r d) (hne : ∀ o ∈ r.owns, o ≠ some k) : Hs (w.setCell ⟨k, i, none⟩ u) base r d :=
  ⟨h.1.other (hne _ (by simp [R3.owns])), h.2.1.other (hne _ (by simp [R3.owns])), h.2.2.other (hne _ (by simp [R3.owns]))⟩

theorem owners_mem {l : List R3} {i : Nat} {r : R3} (h : l[i]? = some r) {o : Option Nat} (ho : o ∈ r.owns) : o ∈ owners l := by
  induction l generalizing i with
  | nil => simp at h
  | cons x l ih =>
    cases i with
    | zero => simp only [List.getElem?_cons_zero, Option.some.injEq] at h; subst h; exact List.mem_append_left _ ho
    | succ i => rw [List.getElem?_cons_succ] at h; exact List.mem_append_right _ (ih h)

theorem Bk.head {lo hi g : Nat} {os : List (Option Nat)} (h : Bk lo hi (some g :: os)) : ∀ o ∈ os, o ≠ some g := by
  intro o ho e
  have := (List.pairwise_cons.1 h.2).1 o ho
  simp only [reduceCtorEq, false_or] at this
  exact this e.symm

theorem TL.step {w w1 w2 : World} {T n k : Nat} {zero : R3} {l : List R3} {ds : List D3} {r : R3} {d : D3} (h : TL w w1 T n k zero l ds) (hk : k < n) (hb : Below w1.heap.size w1 w2) (hd : ds[k]? = some d) (hr : Hs w2 w1.heap.size r d) (hB : Bk w1.heap.size w2.heap.size r.owns) :
    TL w (((w2.setCell ⟨w.heap.size, k * 3, none⟩ r.x).setCell ⟨w.heap.size, k * 3 + 1, none⟩ r.y).setCell ⟨w.heap.size, k * 3 + 2, none⟩ r.z) T n (k + 1) zero (l ++ [r]) ds := by
  have h2 := h.call hb
  have s1 := h.below.size
  have hbk : Bk w.heap.size w2.heap.size (some w.heap.size :: owners (l ++ [r])) := by
    have := h.bk.append hB s1 hb.size
    rw [owners_append]
    simpa [owners] using this
  have hne := hbk.head
  refine ⟨by simp [h.len], ?_, ?_, ?_, ((h2.below.setCell (Nat.le_refl _) _).setCell (Nat.le_refl _) _).setCell (Nat.le_refl _) _⟩
  · have := (((h2.row.stored (k * 3) r.x).1.stored (k * 3 + 1) r.y).1.stored (k * 3 + 2) r.z).1
    rw [flat3_set _ _ _ (by simp [h.len]; omega), take_set3 _ _ _ _ h.len (by simpa using hk)] at this
    exact this
  · intro i r' d' h1 h2'
    have hH : Hs w2 w.heap.size r' d' ∧ ∀ o ∈ r'.owns, o ≠ some w.heap.size := by
      by_cases hi : i < l.length
      · rw [List.getElem?_append_left hi] at h1
        exact ⟨h2.has i r' d' h1 h2', fun o ho => hne o (by rw [owners_append]; exact List.mem_append_left _ (owners_mem h1 ho))⟩
      · have hlt : i < (l ++ [r]).length := (List.getElem?_eq_some_iff.1 h1).1
        have hi2 : i = k := by rw [List.length_append, h.len] at hlt; rw [h.len] at hi; simp at hlt; omega
        subst hi2
        rw [List.getElem?_append_right (by rw [h.len]; exact Nat.le_refl _), h.len, Nat.sub_self] at h1
        simp only [List.getElem?_cons_zero, Option.some.injEq] at h1
        subst h1
        rw [hd] at h2'
        obtain rfl := Option.some.inj h2'
        exact ⟨hr.mono s1, fun o ho => hne o (by rw [owners_append]; exact List.mem_append_right _ (by simpa [owners] using ho))⟩
    exact ((hH.1.other hH.2).other hH.2).other hH.2
  · simpa using hbk

theorem TL.done {w wr : World} {T n : Nat} {zero : R3} {l : List R3} {ds : List D3} (h : TL w wr T n n zero l ds) (hd : ds.length = n) : DOwn wr T w.heap.size (.slice (some ⟨w.heap.size, 0, none⟩) n n) n l ds :=
  ⟨by have := h.row; rwa [List.drop_of_length_le (by simp), List.append_nil] at this, h.len, hd, h.has⟩

theorem DOwn.drow {w : World} {T base n c : Nat} {a : Option Addr} {l : List R3} {ds : List D3} (h : DOwn w T base (.slice a n c) n l ds) : DRow w a n ds ∧ n ≤ c ∧ c ≤ maxLen ∧ (a = none → c = 0) := by
  obtain ⟨a', c', e, h1, h2, h3, h4⟩ := h.shape
  simp only [Value.slice.injEq, true_and] at e
  obtain ⟨rfl, rfl⟩ := e
  exact ⟨h4, h1, h2, h3⟩

theorem infoE : (Try.prog.info? 43).map (fun i => (i.zero, i.size, i.bytes)) = some (some (.agg #[.slice none 0 0, .int .i64 0, .int .i64 0]), 3, 40) := by kernel_rfl
theorem infoM : (Try.prog.info? 47).map (fun i => (i.zero, i.size, i.bytes)) = some (some (.agg #[.slice none 0 0, .slice none 0 0, .int .i64 0]), 3, 56) := by kernel_rfl
def zeroE : R3 := ⟨.slice none 0 0, .int .i64 0, .int .i64 0⟩
def zeroM : R3 := ⟨.slice none 0 0, .slice none 0 0, .int .i64 0⟩
end Go.Proofs.Ytnhebknckgffoaa

/- Contracts of the laws' own helpers that count how large exports and imports are. -/
namespace Go.Proofs.Ytnhebknckgffoaa
open Go.RowKit
set_option linter.unusedVariables false
set_option maxRecDepth 100000

def Fd.len : Fd → Nat
  | .b l => l.length
  | .n _ => 0
def D3.len (d : D3) : Nat := d.x.len + d.y.len + d.z.len
def dsum : List D3 → Nat
  | [] => 0
  | d :: l => d.len + dsum l

theorem dsum_append (l m : List D3) : dsum (l ++ m) = dsum l + dsum m := by
  induction l with
  | nil => simp [dsum]
  | cons x l ih => simp [dsum, ih]; omega

theorem dsum_next {ds : List D3} {k : Nat} {d : D3} (h : ds[k]? = some d) : dsum (ds.take (k + 1)) = dsum (ds.take k) + d.len := by
  obtain ⟨hk, rfl⟩ := List.getElem?_eq_some_iff.1 h
  rw [List.take_succ_eq_append_getElem hk, dsum_append]
  simp [dsum]

theorem dsum_take (ds : List D3) (k : Nat) : dsum (ds.take k) ≤ dsum ds := by
  have := dsum_append (ds.take k) (ds.drop k)
  rw [List.take_append_drop] at this
  omega

theorem len_le_dsum {ds : List D3} {d : D3} (h : d ∈ ds) : d.len ≤ dsum ds := by
  induction ds with
  | nil => simp at h
  | cons x l ih =>
    rcases List.mem_cons.1 h with rfl | h
    · simp [dsum]
    · have := ih h; simp [dsum]; omega

/-- What is left. -/
def szL (left : Int) (n : Nat) : Int := if (n : Int) ≤ left then left - (n : Int) else -1

theorem szL_yes {left : Int} {n : Nat} (h : (n : Int) ≤ left) : szL left n = left - (n : Int) := if_pos h
theorem szL_no {left : Int} {n : Nat} (h : ¬ (n : Int) ≤ left) : szL left n = -1 := if_neg h

end Go.Proofs.Ytnhebknckgffoaa

/- Objects: what reads there, who owns it. No function is walked here. -/
namespace Go.Proofs.Ytnhebknckgffoaa
open Go.RowKit
set_option linter.unusedVariables false

structure Ob where
  name : List Int
  ex : List D3
  im : List D3
  data : Int
  code : List Int

/-- An object's five cells. -/
structure O5 where
  x : Value
  e : Value
  i : Value
  d : Value
  c : Value

def isE (d : D3) : Prop := ∃ l p q, d = (⟨.b l, .n p, .n q⟩ : D3)
def isM (d : D3) : Prop := ∃ l l2 p, d = (⟨.b l, .b l2, .n p⟩ : D3)

def DV (w : World) (v : Value) (ds : List D3) : Prop := ∃ a c, v = .slice a ds.length c ∧ DRow w a ds.length ds ∧ ds.length ≤ c ∧ c ≤ maxLen ∧ (a = none → c = 0)

theorem DV.below {w w' : World} {v : Value} {ds : List D3} (h : DV w v ds) (hb : Below w.heap.size w w') : DV w' v ds := by
  obtain ⟨a, c, e, hr, r⟩ := h
  exact ⟨a, c, e, hr.below hb, r⟩

structure ORead (w : World) (o : O5) (b : Ob) : Prop where
  nm : (Fd.b b.name).Read w o.x
  ex : DV w o.e b.ex
  im : DV w o.i b.im
  dt : o.d = .int .i64 b.data
  cd : (Fd.b b.code).Read w o.c
  exs : ∀ d ∈ b.ex, isE d
  ims : ∀ d ∈ b.im, isM d

theorem ORead.below {w w' : World} {o : O5} {b : Ob} (h : ORead w o b) (hb : Below w.heap.size w w') : ORead w' o b :=
  ⟨h.nm.below hb, h.ex.below hb, h.im.below hb, h.dt, h.cd.below hb, h.exs, h.ims⟩

theorem ORead.shape {w : World} {o : O5} {b : Ob} (h : ORead w o b) : ∃ a1 c1 a2 c2 a3 c3 a4 c4, o = ⟨.slice a1 b.name.length c1, .slice a2 b.ex.length c2, .slice a3 b.im.length c3, .int .i64 b.data, .slice a4 b.code.length c4⟩ := by
  obtain ⟨x, e, i, d, c⟩ := o
  obtain ⟨⟨a1, c1, h1, _⟩, ⟨a2, c2, h2, _⟩, ⟨a3, c3, h3, _⟩, h4, ⟨a4, c4, h5, _⟩, _, _⟩ := h
  simp only at h1 h2 h3 h4 h5
  exact ⟨a1, c1, a2, c2, a3, c3, a4, c4, by rw [h1, h2, h3, h4, h5]⟩

def osz (b : Ob) : Nat := b.name.length + (b.ex.length + dsum b.ex) + (b.im.length + dsum b.im) + b.code.length

theorem osz_ex {b : Ob} (h : osz b ≤ 1048576) (hs : ∀ d ∈ b.ex, isE d) : ∀ d ∈ b.ex, ∃ l p q, d = (⟨.b l, .n p, .n q⟩ : D3) ∧ l.length ≤ 1048576 := by
  intro d hd
  obtain ⟨l, p, q, rfl⟩ := hs d hd
  have := len_le_dsum hd
  simp only [D3.len, Fd.len] at this
  unfold osz at h
  exact ⟨l, p, q, rfl, by omega⟩

theorem osz_im {b : Ob} (h : osz b ≤ 1048576) (hs : ∀ d ∈ b.im, isM d) : ∀ d ∈ b.im, ∃ l l2 p, d = (⟨.b l, .b l2, .n p⟩ : D3) ∧ l.length ≤ 1048576 ∧ l2.length ≤ 1048576 := by
  intro d hd
  obtain ⟨l, l2, p, rfl⟩ := hs d hd
  have := len_le_dsum hd
  simp only [D3.len, Fd.len] at this
  unfold osz at h
  exact ⟨l, l2, p, rfl, by omega, by omega⟩

/-! Five cells of a block -/
def B5 (w : World) (g : Nat) (t : TypeId) (o : O5) : Prop := w.heap[g]? = some (.cells #[o.x, o.e, o.i, o.d, o.c] t (0, 0))

theorem B5.facts {w : World} {g : Nat} {t : TypeId} {o : O5} (h : B5 w g t o) :
    w.cell? ⟨g, 0, none⟩ = some o.x ∧ w.cell? ⟨g, 1, none⟩ = some o.e ∧ w.cell? ⟨g, 2, none⟩ = some o.i ∧ w.cell? ⟨g, 3, none⟩ = some o.d ∧ w.cell? ⟨g, 4, none⟩ = some o.c :=
  ⟨by rw [cell_of_row w g 0 _ _ (0, 0) h]; rfl, by rw [cell_of_row w g 1 _ _ (0, 0) h]; rfl, by rw [cell_of_row w g 2 _ _ (0, 0) h]; rfl, by rw [cell_of_row w g 3 _ _ (0, 0) h]; rfl, by rw [cell_of_row w g 4 _ _ (0, 0) h]; rfl⟩
theorem B5.frozen {w : World} {g : Nat} {t : TypeId} {o : O5} (h : B5 w g t o) :
    w.frozen? ⟨g, 0, none⟩ = false ∧ w.frozen? ⟨g, 1, none⟩ = false ∧ w.frozen? ⟨g, 2, none⟩ = false ∧ w.frozen? ⟨g, 3, none⟩ = false ∧ w.frozen? ⟨g, 4, none⟩ = false :=
  ⟨frozen_of_row w g 0 _ _ h, frozen_of_row w g 1 _ _ h, frozen_of_row w g 2 _ _ h, frozen_of_row w g 3 _ _ h, frozen_of_row w g 4 _ _ h⟩
theorem B5.below {w w' : World} {g B : Nat} {t : TypeId} {o : O5} (h : B5 w g t o) (hb : Below B w w') (hg : g < B) : B5 w' g t o := (hb.block g hg).trans h
theorem B5.lt {w : World} {g : Nat} {t : TypeId} {o : O5} (h : B5 w g t o) : g < w.heap.size := (Array.getElem?_eq_some_iff.1 h).1
theorem B5.new (w : World) (t : TypeId) (o : O5) : B5 (w.alloc (.cells #[o.x, o.e, o.i, o.d, o.c] t (0, 0))) w.heap.size t o := heap_alloc_new w _
theorem B5.old {w : World} {g : Nat} {t : TypeId} {o : O5} {ob : Obj} (h : B5 w g t o) : B5 (w.alloc ob) g t o :=
  ((((Below.refl w.heap.size w).alloc (Nat.le_refl _) ob).block g (Array.getElem?_eq_some_iff.1 h).1)).trans h
theorem B5.other {w : World} {g k i : Nat} {t : TypeId} {o : O5} {v : Value} (h : B5 w g t o) (hne : g ≠ k) : B5 (w.setCell ⟨k, i, none⟩ v) g t o := (heap_setCell_other w ⟨k, i, none⟩ g v hne).trans h
theorem B5.set0 {w : World} {g : Nat} {t : TypeId} {o : O5} (h : B5 w g t o) (v : Value) : B5 (w.setCell ⟨g, 0, none⟩ v) g t ⟨v, o.e, o.i, o.d, o.c⟩ := by
  unfold B5; rw [heap_setCell_same w g 0 _ _ _ h]; rfl
theorem B5.set1 {w : World} {g : Nat} {t : TypeId} {o : O5} (h : B5 w g t o) (v : Value) : B5 (w.setCell ⟨g, 1, none⟩ v) g t ⟨o.x, v, o.i, o.d, o.c⟩ := by
  unfold B5; rw [heap_setCell_same w g 1 _ _ _ h]; rfl
theorem B5.set2 {w : World} {g : Nat} {t : TypeId} {o : O5} (h : B5 w g t o) (v : Value) : B5 (w.setCell ⟨g, 2, none⟩ v) g t ⟨o.x, o.e, v, o.d, o.c⟩ := by
  unfold B5; rw [heap_setCell_same w g 2 _ _ _ h]; rfl
theorem B5.set3 {w : World} {g : Nat} {t : TypeId} {o : O5} (h : B5 w g t o) (v : Value) : B5 (w.setCell ⟨g, 3, none⟩ v) g t ⟨o.x, o.e, o.i, v, o.c⟩ := by
  unfold B5; rw [heap_setCell_same w g 3 _ _ _ h]; rfl
theorem B5.set4 {w : World} {g : Nat} {t : TypeId} {o : O5} (h : B5 w g t o) (v : Value) : B5 (w.setCell ⟨g, 4, none⟩ v) g t ⟨o.x, o.e, o.i, o.d, v⟩ := by
  unfold B5; rw [heap_setCell_same w g 4 _ _ _ h]; rfl

/-! Blocks from lo on that stay -/
structure Same (lo : Nat) (w w' : World) : Prop where
  size : w.heap.size ≤ w'.heap.size
  block : ∀ g, lo ≤ g → g < w.heap.size → w'.heap[g]? = w.heap[g]?

theorem Same.refl (lo : Nat) (w : World) : Same lo w w := ⟨Nat.le_refl _, fun _ _ _ => rfl⟩
theorem Same.trans {lo : Nat} {a b c : World} (h : Same lo a b) (k : Same lo b c) : Same lo a c :=
  ⟨Nat.le_trans h.size k.size, fun g h1 h2 => (k.block g h1 (Nat.lt_of_lt_of_le h2 h.size)).trans (h.block g h1 h2)⟩
theorem Same.of {lo : Nat} {w w' : World} (h : Below w.heap.size w w') : Same lo w w' := ⟨h.size, fun g _ h2 => h.block g h2⟩
theorem Same.put {lo k i : Nat} {w : World} {v : Value} (h : k < lo) : Same lo w (w.setCell ⟨k, i, none⟩ v) :=
  ⟨by simp, fun g h1 _ => heap_setCell_other w ⟨k, i, none⟩ g v (by simp; omega)⟩
theorem Same.mono {lo lo' : Nat} {w w' : World} (h : Same lo w w') (hl : lo ≤ lo') : Same lo' w w' := ⟨h.size, fun g h1 h2 => h.block g (by omega) h2⟩

theorem ownsRow_same {w w' : World} {T base n k : Nat} {v : Value} {xs : List Value} (h : w.ownsRow base T k v n xs) (hs : Same base w w') : w'.ownsRow base T k v n xs := by
  refine ⟨h.1, ?_⟩
  rcases h.2 with hn | ⟨g, cap, cur, hv, hg, hh, r⟩
  · exact .inl hn
  · exact .inr ⟨g, cap, cur, hv, hg, by rw [hs.block g hg (Array.getElem?_eq_some_iff.1 hh).1]; exact hh, r⟩
theorem Own.same {w w' : World} {base n : Nat} {v : Value} {l : List Int} (h : Own w base v n l) (hs : Same base w w') : Own w' base v n l := ⟨ownsRow_same h.1 hs, h.2⟩
theorem Fd.Has.same {w w' : World} {base : Nat} {v : Value} {f : Fd} (h : f.Has w base v) (hs : Same base w w') : f.Has w' base v := by
  cases f with
  | b l => obtain ⟨a, c, e, ho⟩ := h; exact ⟨a, c, e, ho.same hs⟩
  | n x => exact h
theorem Hs.same {w w' : World} {base : Nat} {r : R3} {d : D3} (h : Hs w base r d) (hs : Same base w w') : Hs w' base r d := ⟨h.1.same hs, h.2.1.same hs, h.2.2.same hs⟩
theorem DOwn.same {w w' : World} {T base n : Nat} {v : Value} {l : List R3} {ds : List D3} (h : DOwn w T base v n l ds) (hs : Same base w w') : DOwn w' T base v n l ds :=
  ⟨ownsRow_same h.row hs, h.len, h.lend, fun i r d h1 h2 => (h.has i r d h1 h2).same hs⟩

/-- An object all of whose memory is its own. -/
structure OOwn (w : World) (base : Nat) (o : O5) (b : Ob) (lE lI : List R3) : Prop where
  nm : (Fd.b b.name).Has w base o.x
  ex : DOwn w 43 base o.e b.ex.length lE b.ex
  im : DOwn w 47 base o.i b.im.length lI b.im
  dt : o.d = .int .i64 b.data
  cd : (Fd.b b.code).Has w base o.c
  bk : Bk base w.heap.size ([o.x.ownBlock] ++ (o.e.ownBlock :: owners lE) ++ (o.i.ownBlock :: owners lI) ++ [o.c.ownBlock])

theorem DOwn.dv {w : World} {T base : Nat} {v : Value} {l : List R3} {ds : List D3} (h : DOwn w T base v ds.length l ds) : DV w v ds := by
  obtain ⟨a, c, e, h1, h2, h3, h4⟩ := h.shape
  exact ⟨a, c, e, h4, h1, h2, h3⟩

theorem OOwn.read {w : World} {base : Nat} {o : O5} {b : Ob} {lE lI : List R3} (h : OOwn w base o b lE lI) (he : ∀ d ∈ b.ex, isE d) (hi : ∀ d ∈ b.im, isM d) : ORead w o b :=
  ⟨h.nm.read, h.ex.dv, h.im.dv, h.dt, h.cd.read, he, hi⟩

theorem OOwn.same {w w' : World} {base : Nat} {o : O5} {b : Ob} {lE lI : List R3} (h : OOwn w base o b lE lI) (hs : Same base w w') : OOwn w' base o b lE lI :=
  ⟨h.nm.same hs, h.ex.same hs, h.im.same hs, h.dt, h.cd.same hs, h.bk.mono hs.size⟩

theorem OOwn.below {w w' : World} {base : Nat} {o : O5} {b : Ob} {lE lI : List R3} (h : OOwn w base o b lE lI) (hb : Below w.heap.size w w') : OOwn w' base o b lE lI := h.same (Same.of hb)
end Go.Proofs.Ytnhebknckgffoaa

/- Contracts of the laws' own helpers over slices of bytes: a copy, a comparison, marks laid and looked for. -/
namespace Go.Proofs.Ytnhebknckgffoaa
open Go.RowKit

/-- One round of a copy into a row of one's own. -/
theorem copy_round {w wr : World} {g n k : Nat} {l m : List Int} (hl : l.length = n) (hm : m.length = n) (hk : k < n) (hB : w.heap.size ≤ g)
    (hown : wr.ownsRow w.heap.size 5 1 (.slice (some ⟨g, 0, none⟩) n n) n ((l.take k ++ m.drop k).map (Value.int .u8))) (hb : Below w.heap.size w wr) :
    (wr.setCell ⟨g, k, none⟩ (.int .u8 (l[k]?.getD 0))).ownsRow w.heap.size 5 1 (.slice (some ⟨g, 0, none⟩) n n) n ((l.take (k + 1) ++ m.drop (k + 1)).map (Value.int .u8)) ∧ Below w.heap.size w (wr.setCell ⟨g, k, none⟩ (.int .u8 (l[k]?.getD 0))) := by
  refine ⟨?_, hb.setCell hB _⟩
  have := (hown.stored k (.int .u8 (l[k]?.getD 0))).1
  rwa [mapset _ _ _ _ (by omega) (by omega)] at this

theorem take_next {l1 l2 : List Int} {k : Nat} (h : l1.take k = l2.take k) (h1 : k < l1.length) (h2 : k < l2.length) (hx : l1[k]?.getD 0 = l2[k]?.getD 0) : l1.take (k + 1) = l2.take (k + 1) := by
  rw [List.take_succ_eq_append_getElem h1, List.take_succ_eq_append_getElem h2, h]
  rw [List.getElem?_eq_getElem h1, List.getElem?_eq_getElem h2] at hx
  simp only [Option.getD_some] at hx
  rw [hx]

/-! Marks laid, and looked for -/
/-- The marks that are laid from k on into n places. -/
def marks (k n : Nat) : List Int := (List.range n).map fun i => (((k + i) % 256 : Nat) : Int)

theorem marks_length (k n : Nat) : (marks k n).length = n := by simp [marks]
theorem marks_byte (k n : Nat) : ∀ x ∈ marks k n, 0 ≤ x ∧ x ≤ 255 := by
  intro x hx
  obtain ⟨i, _, rfl⟩ := List.mem_map.1 hx
  omega
theorem marks_at (k n i : Nat) (h : i < n) : (marks k n)[i]?.getD 0 = (((k + i) % 256 : Nat) : Int) := by simp [marks, h]

theorem mark_round {w wr : World} {base g n cap k i : Nat} {m : List Int} (hm : m.length = n) (hi : i < n) (x : Int) (hx : x = (marks k n)[i]?.getD 0)
    (hown : wr.ownsRow base 5 1 (.slice (some ⟨g, 0, none⟩) n cap) n (((marks k n).take i ++ m.drop i).map (Value.int .u8))) (hg : w.grownBy wr (some g)) :
    (wr.setCell ⟨g, i, none⟩ (.int .u8 x)).ownsRow base 5 1 (.slice (some ⟨g, 0, none⟩) n cap) n (((marks k n).take (i + 1) ++ m.drop (i + 1)).map (Value.int .u8)) ∧ w.grownBy (wr.setCell ⟨g, i, none⟩ (.int .u8 x)) (some g) := by
  subst hx
  obtain ⟨h1, h2⟩ := hown.stored i (.int .u8 ((marks k n)[i]?.getD 0))
  rw [mapset _ _ _ _ (by omega) (by rw [marks_length]; omega)] at h1
  exact ⟨h1, h2.os.trans hg.os, h2.tape.trans hg.tape, h2.output.trans hg.output, Nat.le_trans hg.size h2.size, fun b hb hne => (h2.block b (Nat.lt_of_lt_of_le hb hg.size) hne).trans (hg.block b hb hne)⟩

end Go.Proofs.Ytnhebknckgffoaa

/- Marks over records: as data, and who owns what behind them. No function is walked here. -/
namespace Go.Proofs.Ytnhebknckgffoaa
open Go.RowKit
set_option linter.unusedVariables false

def Fd.wt : Fd → Nat
  | .b l => l.length
  | .n _ => 1
def Fd.mk (k : Nat) : Fd → Fd
  | .b l => .b (marks k l.length)
  | .n _ => .n (k : Int)
def D3.wt (d : D3) : Nat := d.x.wt + d.y.wt + d.z.wt
def D3.mark (k : Nat) (d : D3) : D3 := ⟨d.x.mk k, d.y.mk (k + d.x.wt), d.z.mk (k + d.x.wt + d.y.wt)⟩
def wsum : List D3 → Nat
  | [] => 0
  | d :: l => d.wt + wsum l
def markL (k : Nat) : List D3 → List D3
  | [] => []
  | d :: l => d.mark k :: markL (k + d.wt) l

theorem markL_len (k : Nat) (ds : List D3) : (markL k ds).length = ds.length := by
  induction ds generalizing k with
  | nil => rfl
  | cons d l ih => simp [markL, ih]

theorem wsum_append (l m : List D3) : wsum (l ++ m) = wsum l + wsum m := by
  induction l with
  | nil => simp [wsum]
  | cons x l ih => simp [wsum, ih]; omega

theorem wsum_next {ds : List D3} {j : Nat} {d : D3} (h : ds[j]? = some d) : wsum (ds.take (j + 1)) = wsum (ds.take j) + d.wt := by
  obtain ⟨hk, rfl⟩ := List.getElem?_eq_some_iff.1 h
  rw [List.take_succ_eq_append_getElem hk, wsum_append]
  simp [wsum]

theorem wsum_take (ds : List D3) (k : Nat) : wsum (ds.take k) ≤ wsum ds := by
  have := wsum_append (ds.take k) (ds.drop k)
  rw [List.take_append_drop] at this
  omega

theorem markL_at {ds : List D3} {j : Nat} {d : D3} (k : Nat) (h : ds[j]? = some d) : (markL k ds)[j]? = some (d.mark (k + wsum (ds.take j))) := by
  induction ds generalizing j k with
  | nil => simp at h
  | cons x l ih =>
    cases j with
    | zero => simp only [List.getElem?_cons_zero, Option.some.injEq] at h; subst h; simp [markL, wsum]
    | succ j =>
      rw [List.getElem?_cons_succ] at h
      simp only [markL, List.getElem?_cons_succ, List.take_succ_cons, wsum]
      rw [ih (k + x.wt) h]
      congr 2
      omega

theorem marks_step (k : Nat) (ds : List D3) (j : Nat) (d : D3) (h : ds[j]? = some d) : ((markL k ds).take j ++ ds.drop j).set j (d.mark (k + wsum (ds.take j))) = (markL k ds).take (j + 1) ++ ds.drop (j + 1) := by
  obtain ⟨hj, rfl⟩ := List.getElem?_eq_some_iff.1 h
  have hm : j < (markL k ds).length := by rw [markL_len]; exact hj
  have e : ds.drop j = ds[j] :: ds.drop (j + 1) := by rw [List.drop_eq_getElem_cons hj]
  have e2 : (markL k ds).take (j + 1) = (markL k ds).take j ++ [ds[j].mark (k + wsum (ds.take j))] := by
    rw [List.take_succ_eq_append_getElem hm]
    have := markL_at k h
    rw [List.getElem?_eq_getElem hm] at this
    rw [Option.some.inj this]
  have hl : ((markL k ds).take j).length = j := by rw [List.length_take, markL_len, Nat.min_eq_left (Nat.le_of_lt hj)]
  rw [List.set_append_right _ _ (by omega), hl, Nat.sub_self, e, List.set_cons_zero, e2]
  simp

/-- One record turned, in memory of its own: the row's cells and what the record itself owns. -/
theorem DOwn.turn {w w' : World} {T base n g cap j : Nat} {l : List R3} {ds : List D3} {r : R3} {d : D3} (h : DOwn w T base (.slice (some ⟨g, 0, none⟩) n cap) n l ds) (hj : j < n)
    (hrow : w'.ownsRow base T 3 (.slice (some ⟨g, 0, none⟩) n cap) n (flat3 (l.set j r))) (hr : Hs w' base r d)
    (hkeep : ∀ (i : Nat) (r' : R3) (d' : D3), i ≠ j → l[i]? = some r' → ds[i]? = some d' → Hs w' base r' d') :
    DOwn w' T base (.slice (some ⟨g, 0, none⟩) n cap) n (l.set j r) (ds.set j d) := by
  refine ⟨hrow, by rw [List.length_set, h.len], by rw [List.length_set, h.lend], fun i r' d' h1 h2 => ?_⟩
  by_cases e : i = j
  · subst e
    rw [List.getElem?_set_self (by rw [h.len]; exact hj)] at h1
    rw [List.getElem?_set_self (by rw [h.lend]; exact hj)] at h2
    obtain rfl := Option.some.inj h1
    obtain rfl := Option.some.inj h2
    exact hr
  · rw [List.getElem?_set_ne (Ne.symm e)] at h1
    rw [List.getElem?_set_ne (Ne.symm e)] at h2
    exact hkeep i r' d' e h1 h2

/-- Blocks that are not among these stay. -/
structure KeepO (bs : List (Option Nat)) (w w' : World) : Prop where
  os : w'.os = w.os
  tape : w'.tape = w.tape
  output : w'.output = w.output
  size : w.heap.size ≤ w'.heap.size
  block : ∀ g, g < w.heap.size → some g ∉ bs → w'.heap[g]? = w.heap[g]?

theorem KeepO.refl (os : List (Option Nat)) (w : World) : KeepO os w w := ⟨rfl, rfl, rfl, Nat.le_refl _, fun _ _ _ => rfl⟩
theorem KeepO.trans {os : List (Option Nat)} {a b c : World} (h : KeepO os a b) (k : KeepO os b c) : KeepO os a c :=
  ⟨k.os.trans h.os, k.tape.trans h.tape, k.output.trans h.output, Nat.le_trans h.size k.size, fun g h1 h2 => (k.block g (Nat.lt_of_lt_of_le h1 h.size) h2).trans (h.block g h1 h2)⟩
theorem KeepO.of {os : List (Option Nat)} {w w' : World} {row : Option Nat} (h : w.grownBy w' row) (hr : row ∈ os) : KeepO os w w' :=
  ⟨h.os, h.tape, h.output, h.size, fun g h1 h2 => h.block g h1 (fun e => h2 (by rw [e]; exact hr))⟩
theorem KeepO.more {os os' : List (Option Nat)} {w w' : World} (h : KeepO os w w') (hs : ∀ o ∈ os, o ∈ os') : KeepO os' w w' :=
  ⟨h.os, h.tape, h.output, h.size, fun g h1 h2 => h.block g h1 (fun e => h2 (hs _ e))⟩
theorem KeepO.below {os : List (Option Nat)} {w w' : World} {B : Nat} (h : KeepO os w w') (hB : ∀ k, some k ∈ os → B ≤ k) (hs : B ≤ w.heap.size) : Below B w w' :=
  ⟨h.os, h.tape, h.output, h.size, fun k hk => h.block k (by omega) (fun e => by have := hB k e; omega)⟩

/-- What two records own is unlike. -/
theorem owners_apart {l : List R3} (h : (owners l).Pairwise (fun a b => a = none ∨ a ≠ b)) {i j : Nat} {r s : R3} (hi : l[i]? = some r) (hj : l[j]? = some s) (hne : i ≠ j) : ∀ o ∈ r.owns, ∀ q ∈ s.owns, o = none ∨ o ≠ q := by
  induction l generalizing i j with
  | nil => simp at hi
  | cons x l ih =>
    have hp := List.pairwise_append.1 (show (x.owns ++ owners l).Pairwise _ from h)
    cases i with
    | zero =>
      cases j with
      | zero => exact absurd rfl hne
      | succ j =>
        simp only [List.getElem?_cons_zero, Option.some.injEq] at hi
        rw [List.getElem?_cons_succ] at hj
        subst hi
        intro o ho q hq
        exact hp.2.2 o ho q (owners_mem hj hq)
    | succ i =>
      cases j with
      | zero =>
        simp only [List.getElem?_cons_zero, Option.some.injEq] at hj
        rw [List.getElem?_cons_succ] at hi
        subst hj
        intro o ho q hq
        rcases hp.2.2 q hq o (owners_mem hi ho) with h1 | h1
        · by_cases e : o = none
          · exact .inl e
          · exact .inr (by rw [h1]; exact e)
        · exact .inr (Ne.symm h1)
      | succ j =>
        rw [List.getElem?_cons_succ] at hi hj
        exact ih hp.2.1 hi hj (by omega)

/-- A record that is not the one turned stays, when a block of that one grows and its row is written. -/
theorem Hs.kept {w w' : World} {base : Nat} {r : R3} {d : D3} {row : Option Nat} (h : Hs w base r d) (hg : w.grownBy w' row) (hne : ∀ o ∈ r.owns, o = none ∨ o ≠ row) : Hs w' base r d :=
  ⟨h.1.kept hg (hne _ (by simp [R3.owns])), h.2.1.kept hg (hne _ (by simp [R3.owns])), h.2.2.kept hg (hne _ (by simp [R3.owns]))⟩
end Go.Proofs.Ytnhebknckgffoaa

/- Marks over exports, by the laws' helper. -/
namespace Go.Proofs.Ytnhebknckgffoaa
open Go.RowKit
set_option linter.unusedVariables false
set_option linter.unusedSimpArgs false
set_option maxRecDepth 100000

theorem owners_set {l : List R3} {j : Nat} {r s : R3} (h : l[j]? = some r) (e : s.owns = r.owns) : owners (l.set j s) = owners l := by
  induction l generalizing j with
  | nil => rfl
  | cons x l ih =>
    cases j with
    | zero => simp only [List.getElem?_cons_zero, Option.some.injEq] at h; subst h; simp [owners, e]
    | succ j => rw [List.getElem?_cons_succ] at h; simp [owners, ih h]

theorem flat3_same {l : List R3} {j : Nat} {r : R3} (h : l[j]? = some r) : (flat3 l).set (j * 3) r.x = flat3 l := by
  have := flat3_at l j 0 (by omega) r h
  rw [Nat.add_zero] at this
  obtain ⟨hlt, e⟩ := List.getElem?_eq_some_iff.1 (this.trans (show r.vals[0]? = some r.x from rfl))
  rw [← e]
  exact List.set_getElem_self hlt

/-- One export marked. -/
theorem mark1E {w w2 : World} {T base n g c j m cx : Nat} {ax : Option Addr} {l : List R3} {ds : List D3} {d0 : D3} {lm : List Int} {p0 q0 p q : Int}
    (h : DOwn w T base (.slice (some ⟨g, 0, none⟩) n c) n l ds) (hp : (some g :: owners l).Pairwise (fun a b => a = none ∨ a ≠ b)) (hj : j < n)
    (hl : l[j]? = some ⟨.slice ax m cx, .int .i64 p0, .int .i64 q0⟩) (hds : ds[j]? = some d0)
    (hg : w.grownBy w2 (Value.slice ax m cx).ownBlock) (ho : Own w2 base (.slice ax m cx) m lm) (hm : lm.length = m) :
    DOwn ((w2.setCell ⟨g, j * 3 + 1, none⟩ (.int .i64 p)).setCell ⟨g, j * 3 + 2, none⟩ (.int .i64 q)) T base (.slice (some ⟨g, 0, none⟩) n c) n (l.set j ⟨.slice ax m cx, .int .i64 p, .int .i64 q⟩) (ds.set j ⟨.b lm, .n p, .n q⟩) ∧
    owners (l.set j ⟨.slice ax m cx, .int .i64 p, .int .i64 q⟩) = owners l ∧
    KeepO (some g :: owners l) w ((w2.setCell ⟨g, j * 3 + 1, none⟩ (.int .i64 p)).setCell ⟨g, j * 3 + 2, none⟩ (.int .i64 q)) := by
  have hpc := List.pairwise_cons.1 hp
  have hmem : (Value.slice ax m cx).ownBlock ∈ owners l := owners_mem hl (by simp [R3.owns])
  have hgx : ∀ o ∈ owners l, o ≠ some g := fun o ho e => by
    have := hpc.1 o ho
    simp only [reduceCtorEq, false_or] at this
    exact this e.symm
  have row2 := h.row.kept hg (.inr (Ne.symm (hgx _ hmem)))
  have g2 := grown_set w2 g (j * 3 + 1) (.int .i64 p)
  have g3 := grown_set (w2.setCell ⟨g, j * 3 + 1, none⟩ (.int .i64 p)) g (j * 3 + 2) (.int .i64 q)
  have row4 := ((row2.stored (j * 3 + 1) (.int .i64 p)).1.stored (j * 3 + 2) (.int .i64 q)).1
  have eF := flat3_set l j ⟨.slice ax m cx, .int .i64 p, .int .i64 q⟩ (by rw [h.len]; exact hj)
  have eS := flat3_same hl
  simp only at eF eS
  rw [eS] at eF
  rw [eF] at row4
  refine ⟨h.turn hj row4 ⟨⟨ax, cx, by rw [hm], ?_⟩, rfl, rfl⟩ (fun i r' d' hne h1 h2 => ?_), owners_set hl rfl, ?_⟩
  · rw [hm]
    exact (ho.other (hgx _ hmem)).other (hgx _ hmem)
  · have k1 := (h.has i r' d' h1 h2).kept hg (fun o ho => owners_apart hpc.2 h1 hl hne o ho _ (by simp [R3.owns]))
    have hn : ∀ o ∈ r'.owns, o ≠ some g := fun o ho => hgx o (owners_mem h1 ho)
    exact (k1.other hn).other hn
  · exact ((KeepO.of hg (List.mem_cons_of_mem _ hmem)).trans (KeepO.of g2 (by simp))).trans (KeepO.of g3 (by simp))

end Go.Proofs.Ytnhebknckgffoaa

/- Marks over imports, by the laws' helper. -/
namespace Go.Proofs.Ytnhebknckgffoaa
open Go.RowKit
set_option linter.unusedVariables false
set_option linter.unusedSimpArgs false
set_option maxRecDepth 100000

theorem owners_own {l : List R3} (h : (owners l).Pairwise (fun a b => a = none ∨ a ≠ b)) {j : Nat} {r : R3} (hj : l[j]? = some r) : r.x.ownBlock = none ∨ r.x.ownBlock ≠ r.y.ownBlock := by
  induction l generalizing j with
  | nil => simp at hj
  | cons x l ih =>
    have hp := List.pairwise_append.1 (show (x.owns ++ owners l).Pairwise _ from h)
    cases j with
    | zero =>
      simp only [List.getElem?_cons_zero, Option.some.injEq] at hj
      subst hj
      have := hp.1
      simp only [R3.owns, List.pairwise_cons] at this
      exact this.1 _ (by simp)
    | succ j => rw [List.getElem?_cons_succ] at hj; exact ih hp.2.1 hj

theorem flat3_same1 {l : List R3} {j : Nat} {r : R3} (h : l[j]? = some r) : (flat3 l).set (j * 3 + 1) r.y = flat3 l := by
  have := flat3_at l j 1 (by omega) r h
  obtain ⟨hlt, e⟩ := List.getElem?_eq_some_iff.1 (this.trans (show r.vals[1]? = some r.y from rfl))
  rw [← e]
  exact List.set_getElem_self hlt

/-- One import marked. -/
theorem mark1M {w w2 w3 : World} {T base n g c j m cx m2 cy : Nat} {ax ay : Option Addr} {l : List R3} {ds : List D3} {d0 : D3} {lm lm2 : List Int} {p0 p : Int}
    (h : DOwn w T base (.slice (some ⟨g, 0, none⟩) n c) n l ds) (hp : (some g :: owners l).Pairwise (fun a b => a = none ∨ a ≠ b)) (hj : j < n)
    (hl : l[j]? = some ⟨.slice ax m cx, .slice ay m2 cy, .int .i64 p0⟩) (hds : ds[j]? = some d0)
    (hg : w.grownBy w2 (Value.slice ax m cx).ownBlock) (ho : Own w2 base (.slice ax m cx) m lm) (hm : lm.length = m)
    (hg2 : w2.grownBy w3 (Value.slice ay m2 cy).ownBlock) (ho2 : Own w3 base (.slice ay m2 cy) m2 lm2) (hm2 : lm2.length = m2) :
    DOwn (w3.setCell ⟨g, j * 3 + 2, none⟩ (.int .i64 p)) T base (.slice (some ⟨g, 0, none⟩) n c) n (l.set j ⟨.slice ax m cx, .slice ay m2 cy, .int .i64 p⟩) (ds.set j ⟨.b lm, .b lm2, .n p⟩) ∧
    owners (l.set j ⟨.slice ax m cx, .slice ay m2 cy, .int .i64 p⟩) = owners l ∧
    KeepO (some g :: owners l) w (w3.setCell ⟨g, j * 3 + 2, none⟩ (.int .i64 p)) := by
  have hpc := List.pairwise_cons.1 hp
  have hmem : (Value.slice ax m cx).ownBlock ∈ owners l := owners_mem hl (by simp [R3.owns])
  have hmem2 : (Value.slice ay m2 cy).ownBlock ∈ owners l := owners_mem hl (by simp [R3.owns])
  have hgx : ∀ o ∈ owners l, o ≠ some g := fun o ho e => by
    have := hpc.1 o ho
    simp only [reduceCtorEq, false_or] at this
    exact this e.symm
  have row2 := (h.row.kept hg (.inr (Ne.symm (hgx _ hmem)))).kept hg2 (.inr (Ne.symm (hgx _ hmem2)))
  have g2 := grown_set w3 g (j * 3 + 2) (.int .i64 p)
  have row4 := (row2.stored (j * 3 + 2) (.int .i64 p)).1
  have eF := flat3_set l j ⟨.slice ax m cx, .slice ay m2 cy, .int .i64 p⟩ (by rw [h.len]; exact hj)
  have eS := flat3_same hl
  have eT := flat3_same1 hl
  simp only at eF eS eT
  rw [eS, eT] at eF
  rw [eF] at row4
  refine ⟨h.turn hj row4 ⟨⟨ax, cx, by rw [hm], ?_⟩, ⟨ay, cy, by rw [hm2], ?_⟩, rfl⟩ (fun i r' d' hne h1 h2 => ?_), owners_set hl rfl, ?_⟩
  · rw [hm]
    exact (ho.kept hg2 (owners_own hpc.2 hl)).other (hgx _ hmem)
  · rw [hm2]
    exact ho2.other (hgx _ hmem2)
  · have k1 := ((h.has i r' d' h1 h2).kept hg (fun o ho => owners_apart hpc.2 h1 hl hne o ho _ (by simp [R3.owns]))).kept hg2 (fun o ho => owners_apart hpc.2 h1 hl hne o ho _ (by simp [R3.owns]))
    have hn : ∀ o ∈ r'.owns, o ≠ some g := fun o ho => hgx o (owners_mem h1 ho)
    exact k1.other hn
  · exact ((KeepO.of hg (List.mem_cons_of_mem _ hmem)).trans (KeepO.of hg2 (List.mem_cons_of_mem _ hmem2))).trans (KeepO.of g2 (by simp))

end Go.Proofs.Ytnhebknckgffoaa

/- Contracts of the laws' own helpers that copy exports and imports. -/
namespace Go.Proofs.Ytnhebknckgffoaa
open Go.RowKit
set_option linter.unusedVariables false
set_option maxRecDepth 100000

theorem bkE {lo hi g n : Nat} {p q : Int} (h1 : lo ≤ g) (h2 : g < hi) : Bk lo hi (R3.owns ⟨.slice (some ⟨g, 0, none⟩) n n, .int .i64 p, .int .i64 q⟩) := by
  refine ⟨fun k hk => ?_, ?_⟩
  · simp only [R3.owns, Value.ownBlock, List.mem_cons, List.not_mem_nil, or_false, Option.some.injEq, reduceCtorEq] at hk; omega
  · simp [R3.owns, Value.ownBlock]

theorem bkM {lo hi g g2 n m : Nat} {p : Int} (h1 : lo ≤ g) (h2 : g < g2) (h3 : g2 < hi) : Bk lo hi (R3.owns ⟨.slice (some ⟨g, 0, none⟩) n n, .slice (some ⟨g2, 0, none⟩) m m, .int .i64 p⟩) := by
  refine ⟨fun k hk => ?_, ?_⟩
  · simp only [R3.owns, Value.ownBlock, List.mem_cons, List.not_mem_nil, or_false, Option.some.injEq, reduceCtorEq] at hk; omega
  · simp [R3.owns, Value.ownBlock]; omega

end Go.Proofs.Ytnhebknckgffoaa

/- Contracts of the laws' own helpers that compare exports and imports: where both read alike, they say so. -/
namespace Go.Proofs.Ytnhebknckgffoaa
open Go.RowKit
set_option linter.unusedVariables false
set_option linter.unusedSimpArgs false
set_option maxRecDepth 100000

theorem two_boxes (w : World) (t : TypeId) (x y z x' y' z' : Value) :
    B3 ((w.alloc (.cells #[x, y, z] t (0, 0))).alloc (.cells #[x', y', z'] t (0, 0))) w.heap.size t x y z ∧ B3 ((w.alloc (.cells #[x, y, z] t (0, 0))).alloc (.cells #[x', y', z'] t (0, 0))) (w.heap.size + 1) t x' y' z' ∧ Below w.heap.size w ((w.alloc (.cells #[x, y, z] t (0, 0))).alloc (.cells #[x', y', z'] t (0, 0))) := by
  have h := B3.new (w.alloc (.cells #[x, y, z] t (0, 0))) t x' y' z'
  rw [show (w.alloc (.cells #[x, y, z] t (0, 0))).heap.size = w.heap.size + 1 by simp] at h
  exact ⟨(B3.new w t x y z).old, h, ((Below.refl _ _).alloc (Nat.le_refl _) _).alloc (by simp) _⟩

end Go.Proofs.Ytnhebknckgffoaa

/- Contracts of the laws' own helpers over objects: how large, a copy, a comparison. -/
namespace Go.Proofs.Ytnhebknckgffoaa
open Go.RowKit
set_option linter.unusedVariables false
set_option linter.unusedSimpArgs false
set_option maxRecDepth 100000

theorem Fd.Read.room {w : World} {v : Value} {l : List Int} (h : (Fd.b l).Read w v) : ∃ a c, v = .slice a l.length c ∧ BRow w a l.length l ∧ l.length ≤ 9223372036854775807 := by
  obtain ⟨a, c, e, hr, h1, h2, _⟩ := h
  unfold maxLen at h2
  exact ⟨a, c, e, hr, by omega⟩
theorem DV.room {w : World} {v : Value} {ds : List D3} (h : DV w v ds) : ∃ a c, v = .slice a ds.length c ∧ DRow w a ds.length ds ∧ ds.length ≤ 9223372036854775807 := by
  obtain ⟨a, c, e, hr, h1, h2, _⟩ := h
  unfold maxLen at h2
  exact ⟨a, c, e, hr, by omega⟩

end Go.Proofs.Ytnhebknckgffoaa

/- Marks over an object, by the laws' helper. -/
namespace Go.Proofs.Ytnhebknckgffoaa
open Go.RowKit
set_option linter.unusedVariables false
set_option linter.unusedSimpArgs false
set_option maxRecDepth 100000

theorem Fd.Has.keep {w w' : World} {base : Nat} {v : Value} {f : Fd} {os : List (Option Nat)} (h : f.Has w base v) (hk : KeepO os w w') (hd : v.ownBlock = none ∨ v.ownBlock ∉ os) : f.Has w' base v := by
  cases f with
  | n x => exact h
  | b l =>
    obtain ⟨a, c, e, ho⟩ := h
    refine ⟨a, c, e, ⟨ho.1.1, ?_⟩, ho.2⟩
    rcases ho.1.2 with hn | ⟨g, cap, cur, hv, hg, hh, r⟩
    · exact .inl hn
    · refine .inr ⟨g, cap, cur, hv, hg, ?_, r⟩
      rw [hk.block g (Array.getElem?_eq_some_iff.1 hh).1 (by rw [hv] at hd; simpa [Value.ownBlock] using hd)]
      exact hh

theorem Hs.keep {w w' : World} {base : Nat} {r : R3} {d : D3} {os : List (Option Nat)} (h : Hs w base r d) (hk : KeepO os w w') (hd : ∀ o ∈ r.owns, o = none ∨ o ∉ os) : Hs w' base r d :=
  ⟨h.1.keep hk (hd _ (by simp [R3.owns])), h.2.1.keep hk (hd _ (by simp [R3.owns])), h.2.2.keep hk (hd _ (by simp [R3.owns]))⟩

theorem DOwn.keep {w w' : World} {T base n : Nat} {v : Value} {l : List R3} {ds : List D3} {os : List (Option Nat)} (h : DOwn w T base v n l ds) (hk : KeepO os w w') (hd : ∀ o ∈ v.ownBlock :: owners l, o = none ∨ o ∉ os) : DOwn w' T base v n l ds := by
  refine ⟨⟨h.row.1, ?_⟩, h.len, h.lend, fun i r d h1 h2 => (h.has i r d h1 h2).keep hk (fun o ho => hd o (List.mem_cons_of_mem _ (owners_mem h1 ho)))⟩
  rcases h.row.2 with hn | ⟨g, cap, cur, hv, hg, hh, r⟩
  · exact .inl hn
  · refine .inr ⟨g, cap, cur, hv, hg, ?_, r⟩
    have := hd v.ownBlock (by simp)
    rw [hk.block g (Array.getElem?_eq_some_iff.1 hh).1 (by rw [hv] at this; simpa [Value.ownBlock] using this)]
    exact hh

theorem apart_left {A B : List (Option Nat)} (h : ∀ a ∈ A, ∀ b ∈ B, a = none ∨ a ≠ b) : ∀ b ∈ B, b = none ∨ b ∉ A := by
  intro b hb
  by_cases e : b = none
  · exact .inl e
  · refine .inr fun hm => ?_
    rcases h b hm b hb with h1 | h1
    · exact e h1
    · exact h1 rfl
theorem apart_right {A B : List (Option Nat)} (h : ∀ a ∈ A, ∀ b ∈ B, a = none ∨ a ≠ b) : ∀ a ∈ A, a = none ∨ a ∉ B := by
  intro a ha
  by_cases e : a = none
  · exact .inl e
  · refine .inr fun hm => ?_
    rcases h a ha a hm with h1 | h1
    · exact e h1
    · exact h1 rfl

theorem wt_le (d : D3) : d.wt ≤ d.len + 3 := by
  obtain ⟨x, y, z⟩ := d
  cases x <;> cases y <;> cases z <;> simp [D3.wt, D3.len, Fd.wt, Fd.len] <;> omega
theorem wsum_le (ds : List D3) : wsum ds ≤ dsum ds + 3 * ds.length := by
  induction ds with
  | nil => simp [wsum, dsum]
  | cons x l ih => have := wt_le x; simp [wsum, dsum]; omega

def ownsO (o : O5) (lE lI : List R3) : List (Option Nat) := [o.x.ownBlock] ++ (o.e.ownBlock :: owners lE) ++ (o.i.ownBlock :: owners lI) ++ [o.c.ownBlock]
def markOb (k : Nat) (b : Ob) : Ob := ⟨marks k b.name.length, markL (k + b.name.length) b.ex, markL (k + b.name.length + wsum b.ex) b.im, b.data, marks (k + b.name.length + wsum b.ex + wsum b.im) b.code.length⟩
def wtO (b : Ob) : Nat := b.name.length + wsum b.ex + wsum b.im + b.code.length

theorem wtO_le (b : Ob) : wtO b ≤ 4 * osz b := by
  have h1 := wsum_le b.ex
  have h2 := wsum_le b.im
  unfold wtO osz
  omega

theorem B5.keep {w w' : World} {g : Nat} {t : TypeId} {o : O5} {os : List (Option Nat)} (h : B5 w g t o) (hk : KeepO os w w') (hn : some g ∉ os) : B5 w' g t o := (hk.block g h.lt hn).trans h

end Go.Proofs.Ytnhebknckgffoaa

/- A list of records while it grows, record by record. No function is walked here. -/
namespace Go.Proofs.Ytnhebknckgffoaa
open Go.RowKit
set_option linter.unusedVariables false

/-- Records of one's own, none of whose blocks is another's. -/
structure AL (w : World) (T : TypeId) (base : Nat) (v : Value) (l : List R3) (ds : List D3) : Prop where
  own : DOwn w T base v ds.length l ds
  bk : Bk base w.heap.size (v.ownBlock :: owners l)

theorem AL.nil (w : World) (T : TypeId) (base : Nat) : AL w T base (.slice none 0 0) [] [] :=
  ⟨⟨World.ownsRow_nil _ _ _ _, rfl, rfl, by simp⟩, by
    refine ⟨by simp [Value.ownBlock, owners], ?_⟩
    simp [Value.ownBlock, owners]⟩

theorem AL.same {w w' : World} {T base : Nat} {v : Value} {l : List R3} {ds : List D3} (h : AL w T base v l ds) (hs : Same base w w') : AL w' T base v l ds :=
  ⟨h.own.same hs, h.bk.mono hs.size⟩
theorem AL.below {w w' : World} {T base : Nat} {v : Value} {l : List R3} {ds : List D3} (h : AL w T base v l ds) (hb : Below w.heap.size w w') : AL w' T base v l ds := h.same (Same.of hb)

/-- A store into a block that is none of its own. -/
theorem AL.other {w : World} {T base k i : Nat} {v u : Value} {l : List R3} {ds : List D3} (h : AL w T base v l ds) (hk : some k ∉ v.ownBlock :: owners l) : AL (w.setCell ⟨k, i, none⟩ u) T base v l ds := by
  refine ⟨h.own.keep (os := [some k]) (KeepO.of (grown_set w k i u) (by simp)) (fun o ho => .inr fun e => hk (by simp at e; rw [e] at ho; exact ho)), ?_⟩
  have := h.bk
  simpa using this

theorem AL.shape {w : World} {T base : Nat} {v : Value} {l : List R3} {ds : List D3} (h : AL w T base v l ds) : ∃ a c, v = .slice a ds.length c ∧ ds.length ≤ c ∧ c ≤ maxLen ∧ (a = none → c = 0) ∧ DRow w a ds.length ds := h.own.shape

/-- The block that a row owns has the row's type. -/
theorem ownsRow_type {w : World} {T base n k g : Nat} {v : Value} {xs : List Value} (h : w.ownsRow base T k v n xs) (hg : v.ownBlock = some g) : ∃ cur, w.heap[g]? = some (.cells cur T (0, 0)) := by
  rcases h.2 with ⟨e, _⟩ | ⟨g', cap, cur, hv, _, hh, _⟩
  · rw [e] at hg; cases hg
  · rw [hv] at hg
    simp only [Value.ownBlock, Option.some.injEq] at hg
    subst hg
    exact ⟨cur, hh⟩

theorem Fd.Has.type {w : World} {base g : Nat} {v : Value} {f : Fd} (h : f.Has w base v) (hg : v.ownBlock = some g) : ∃ cur, w.heap[g]? = some (.cells cur 5 (0, 0)) := by
  cases f with
  | b l => obtain ⟨a, c, e, ho⟩ := h; exact ownsRow_type ho.1 hg
  | n x => rw [show v = .int .i64 x from h] at hg; cases hg

theorem owners_type {w : World} {base g : Nat} {l : List R3} {ds : List D3} (hl : ds.length = l.length) (h : ∀ (i : Nat) (r : R3) (d : D3), l[i]? = some r → ds[i]? = some d → Hs w base r d) (hg : some g ∈ owners l) : ∃ cur, w.heap[g]? = some (.cells cur 5 (0, 0)) := by
  induction l generalizing ds with
  | nil => simp [owners] at hg
  | cons r l ih =>
    cases ds with
    | nil => simp at hl
    | cons d ds =>
      rcases List.mem_append.1 (show some g ∈ r.owns ++ owners l from hg) with hm | hm
      · have h0 := h 0 r d rfl rfl
        simp only [R3.owns, List.mem_cons, List.not_mem_nil, or_false] at hm
        rcases hm with e | e | e
        · exact h0.1.type e.symm
        · exact h0.2.1.type e.symm
        · exact h0.2.2.type e.symm
      · exact ih (ds := ds) (by simpa using hl) (fun i r' d' h1 h2 => h (i + 1) r' d' (by simpa using h1) (by simpa using h2)) hm

/-- One record more. -/
theorem AL.push {w w' : World} {T base : Nat} {v v' : Value} {l : List R3} {ds : List D3} {r : R3} {d : D3} (h : AL w T base v l ds) (hT : T ≠ 5)
    (hr : Hs w base r d) (hB : Bk base w.heap.size (owners l ++ r.owns)) (hne : v.ownBlock = none ∨ v.ownBlock ∉ r.owns)
    (ho : w'.ownsRow base T 3 v' (ds.length + 1) (flat3 l ++ r.vals)) (hg : w.grownBy w' v.ownBlock) : AL w' T base v' (l ++ [r]) (ds ++ [d]) := by
  have hlen := h.own.len
  have hflat : flat3 (l ++ [r]) = flat3 l ++ r.vals := by rw [flat3_append]; simp [flat3]
  have hkeep : ∀ (r' : R3) (d' : D3), Hs w base r' d' → (∀ o ∈ r'.owns, o = none ∨ o ≠ v.ownBlock) → Hs w' base r' d' := by
    intro r' d' hh hn
    refine hh.keep (os := [v.ownBlock]) (KeepO.of hg (by simp)) (fun o ho => ?_)
    rcases hn o ho with e | e
    · exact .inl e
    · exact .inr (by simpa using e)
  have hhas : ∀ (i : Nat) (r' : R3) (d' : D3), (l ++ [r])[i]? = some r' → (ds ++ [d])[i]? = some d' → Hs w' base r' d' := by
    intro i r' d' h1 h2
    by_cases hi : i < l.length
    · rw [List.getElem?_append_left hi] at h1
      rw [List.getElem?_append_left (by omega)] at h2
      refine hkeep r' d' (h.own.has i r' d' h1 h2) (fun o ho => ?_)
      have hm := owners_mem h1 ho
      rcases (List.pairwise_cons.1 h.bk.2).1 o hm with e | e
      · cases ho' : o with
        | none => exact .inl rfl
        | some g => right; rw [e]; simp
      · exact .inr (Ne.symm e)
    · have hlt : i < (l ++ [r]).length := (List.getElem?_eq_some_iff.1 h1).1
      have hi2 : i = l.length := by simp at hlt; omega
      subst hi2
      rw [List.getElem?_append_right (Nat.le_refl _), Nat.sub_self] at h1
      rw [List.getElem?_append_right (by omega), hlen, Nat.sub_self] at h2
      simp only [List.getElem?_cons_zero, Option.some.injEq] at h1 h2
      subst h1 h2
      refine hkeep r d hr (fun o ho => ?_)
      rcases hne with e | e
      · cases ho' : o with
        | none => exact .inl rfl
        | some g => right; rw [e]; simp
      · exact .inr (fun e' => e (by rw [← e']; exact ho))
  have hl2 : (ds ++ [d]).length = (l ++ [r]).length := by simp [hlen]
  have e1 : (ds ++ [d]).length = ds.length + 1 := by simp
  refine ⟨⟨by rw [e1, hflat]; exact ho, by rw [hl2], rfl, hhas⟩, ?_⟩
  have hown : owners (l ++ [r]) = owners l ++ r.owns := by rw [owners_append]; simp [owners]
  rw [hown]
  refine ⟨fun g hg' => ?_, List.pairwise_cons.2 ⟨fun o ho' => ?_, hB.2⟩⟩
  · rcases List.mem_cons.1 hg' with e | e
    · exact ho.lt g e.symm
    · have := hB.1 g e; have := hg.size; omega
  · cases hv : v'.ownBlock with
    | none => exact .inl rfl
    | some g =>
      right
      intro e
      rw [← e] at ho'
      obtain ⟨c1, q1⟩ := ownsRow_type ho hv
      obtain ⟨c2, q2⟩ := owners_type hl2 hhas (by rw [hown]; exact ho')
      rw [q1] at q2
      simp only [Option.some.injEq, Obj.cells.injEq] at q2
      exact hT q2.2.1

theorem Hs.oneE {w : World} {base : Nat} {r : R3} {d : D3} (h : Hs w base r d) : ∀ u ∈ r.vals, u.oneCell' = true := by
  have hf : ∀ (v : Value) (f : Fd), f.Has w base v → v.oneCell' = true := by
    intro v f hv
    cases f with
    | b l => obtain ⟨a, c, e, _⟩ := hv; rw [e]; rfl
    | n x => rw [show v = .int .i64 x from hv]; rfl
  intro u hu
  simp only [R3.vals, List.mem_cons, List.not_mem_nil, or_false] at hu
  rcases hu with e | e | e <;> subst e
  · exact hf _ _ h.1
  · exact hf _ _ h.2.1
  · exact hf _ _ h.2.2
end Go.Proofs.Ytnhebknckgffoaa

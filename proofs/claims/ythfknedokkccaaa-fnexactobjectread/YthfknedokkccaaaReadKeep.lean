/- What the specification's reader keeps while it goes through the bytes. No function is walked here. -/
import Derived.Test.YthfknedokkccaaaReadCur
namespace Go.Proofs.Ythfknedokkccaaa
open Go.RowKit
set_option linter.unusedVariables false
set_option linter.unusedSimpArgs false

theorem cnt_max {l : List Int} (hby : ∀ x ∈ l, 0 ≤ x ∧ x ≤ 255) (t : Int) : cnt l 2147483647 t = getL l t := by
  unfold cnt; rw [if_neg (by have := getL_num hby t; omega)]

/-- The cursor, the object that is being read, all else of the world Z. -/
structure RI (W Z w : World) (gc go : Nat) (o : O5) (a : Option Addr) (n c : Nat) (l : List Int) (t : Int) : Prop where
  sc : Sc W w gc a n c l t
  g : B5 w go 26 o
  k : KeepO [some gc, some go] Z w
  lt : gc < go ∧ go < Z.heap.size ∧ W.heap.size ≤ gc

theorem RI.size {W Z w : World} {gc go : Nat} {o : O5} {a : Option Addr} {n c : Nat} {l : List Int} {t : Int} (h : RI W Z w gc go o a n c l t) : Z.heap.size ≤ w.heap.size := h.k.size
theorem RI.call {W Z w w' : World} {gc go : Nat} {o : O5} {a : Option Addr} {n c : Nat} {l : List Int} {t t' : Int} (h : RI W Z w gc go o a n c l t) (s : Sc W w' gc a n c l t') (kk : KeepO [some gc] w w') : RI W Z w' gc go o a n c l t' :=
  ⟨s, B5.keep h.g kk (by have := h.lt; simp; omega), h.k.trans (kk.more (by simp)), h.lt⟩
theorem RI.below {W Z w w' : World} {gc go : Nat} {o : O5} {a : Option Addr} {n c : Nat} {l : List Int} {t : Int} (h : RI W Z w gc go o a n c l t) (hb : Below w.heap.size w w') : RI W Z w' gc go o a n c l t :=
  ⟨h.sc.below hb, h.g.below hb h.g.lt, h.k.trans (Below.keepO hb _), h.lt⟩
theorem RI.other {W Z w : World} {gc go k : Nat} {o : O5} {a : Option Addr} {n c : Nat} {l : List Int} {t : Int} (h : RI W Z w gc go o a n c l t) (hk : Z.heap.size ≤ k) (i : Nat) (v : Value) : RI W Z (w.setCell ⟨k, i, none⟩ v) gc go o a n c l t :=
  ⟨h.sc.other (by have := h.lt; omega) (by have := h.lt; omega) i v, h.g.other (by have := h.lt; omega), h.k.put hk i v, h.lt⟩
theorem RI.grown {W Z w w' : World} {gc go : Nat} {o : O5} {a : Option Addr} {n c : Nat} {l : List Int} {t : Int} {row : Option Nat} (h : RI W Z w gc go o a n c l t) (hg : w.grownBy w' row) (hr : ∀ g, row = some g → Z.heap.size ≤ g) : RI W Z w' gc go o a n c l t :=
  ⟨h.sc.grown hg hr (by have := h.lt; omega), (hg.block go h.g.lt (fun e => by have := hr _ e.symm; have := h.lt; omega)).trans h.g, h.k.grown hg hr, h.lt⟩
theorem RI.set {W Z w : World} {gc go i : Nat} {o o' : O5} {a : Option Addr} {n c : Nat} {l : List Int} {t : Int} {v : Value} (h : RI W Z w gc go o a n c l t) (hg : B5 (w.setCell ⟨go, i, none⟩ v) go 26 o') : RI W Z (w.setCell ⟨go, i, none⟩ v) gc go o' a n c l t :=
  ⟨h.sc.other (by have := h.lt; omega) (by have := h.lt; omega) i v, hg, h.k.trans ((keep_set w go i v).more (by simp)), h.lt⟩
/-- From here on. -/
theorem RI.restart {W Z w : World} {gc go : Nat} {o : O5} {a : Option Addr} {n c : Nat} {l : List Int} {t : Int} (h : RI W Z w gc go o a n c l t) : RI W w w gc go o a n c l t :=
  ⟨h.sc, h.g, KeepO.refl _ _, by have := h.lt; have := h.size; omega⟩

theorem AL.keep2 {w w' : World} {T B gc go : Nat} {v : Value} {l : List R3} {ds : List D3} (h : AL w T B v l ds) (hk : KeepO [some gc, some go] w w') (h1 : gc < B) (h2 : go < B) : AL w' T B v l ds := by
  refine ⟨h.own.keep hk (fun o ho => ?_), h.bk.mono hk.size⟩
  cases o with
  | none => exact .inl rfl
  | some g => right; have := h.bk.1 g ho; simp; omega
theorem Fd.Has.keep2 {w w' : World} {B gc go : Nat} {v : Value} {f : Fd} (h : f.Has w B v) (hk : KeepO [some gc, some go] w w') (h1 : gc < B) (h2 : ∀ g, v.ownBlock = some g → g ≠ go) : f.Has w' B v := by
  refine h.keep hk ?_
  cases hv : v.ownBlock with
  | none => exact .inl rfl
  | some g => right; have := h.lt g hv; have := h2 g hv; simp; omega
theorem KeepO.samec {w w' : World} {gc lo : Nat} (h : KeepO [some gc] w w') (hp : gc < lo) : Same lo w w' := h.same hp

/-- A record laid in a block of its own, field by field, while the cursor moves: what the first field owns. -/
theorem bk_one {lo hi : Nat} {v x y : Value} (hv : ∀ g, v.ownBlock = some g → lo ≤ g ∧ g < hi) (hx : x.ownBlock = none) (hy : y.ownBlock = none) : Bk lo hi (R3.owns ⟨v, x, y⟩) := by
  refine ⟨fun g hg => ?_, ?_⟩
  · simp only [R3.owns, hx, hy, List.mem_cons, List.not_mem_nil, or_false] at hg
    rcases hg with e | e | e
    · exact hv g e.symm
    · cases e
    · cases e
  · simp only [R3.owns, hx, hy]; exact pw1 _
theorem bk_two {lo mid hi : Nat} {v x y : Value} (hv : ∀ g, v.ownBlock = some g → lo ≤ g ∧ g < mid) (hx : ∀ g, x.ownBlock = some g → mid ≤ g ∧ g < hi) (hlm : lo ≤ mid) (hmh : mid ≤ hi) (hy : y.ownBlock = none) : Bk lo hi (R3.owns ⟨v, x, y⟩) := by
  refine ⟨fun g hg => ?_, ?_⟩
  · simp only [R3.owns, hy, List.mem_cons, List.not_mem_nil, or_false] at hg
    rcases hg with e | e | e
    · have := hv g e.symm; omega
    · have := hx g e.symm; omega
    · cases e
  · simp only [R3.owns, hy]
    refine pw2 ?_
    cases h1 : v.ownBlock with
    | none => exact .inl rfl
    | some g => right; intro e; have := hv g h1; have := hx g e.symm; omega
end Go.Proofs.Ythfknedokkccaaa

/- A range over a function that may itself range over others: the iterator's contract asks of the loop's invariant that it abides the turn of whatever is no cells from the call on; the law of the statement over it, at the wide fence. No function of the program is walked here. -/
import Derived.Test.YtpkbeeicffoaoaaTk
import Derived.RangeFuncNested
import Derived.RangeFuncBound
import Derived.RangeFuncCalls
import Derived.RangeFuncLeaves
import Derived.Shelf.Abstract
import Derived.Shelf.RegionOpen
import Derived.WalkKit
import Derived.OwnWalkIn
import Derived.TacticsInMore
import Derived.LoopNIn
import Derived.LoopIn
namespace Go.Proofs.Ytpkbeeicffoaoaa
open Go.RowKit Go.Shelf
set_option linter.unusedVariables false

theorem KeepsFrom.up {B B' : Nat} {X Y : World} (h : KeepsFrom B X Y) (hb : B ≤ B') : KeepsFrom B' X Y := ⟨h.size, fun k o hk h0 ho => h.same k o (Nat.le_trans hb hk) h0 ho⟩
theorem KeepsFrom.putObj {B l : Nat} {W : World} {o : Obj} (h : l < B) : KeepsFrom B W (W.putObj l o) := KeepsFrom.of_grownBy (grownBy_putObj' W l o) (fun j e => by cases e; exact h)
theorem KeepsFrom.below {B n : Nat} {X Y : World} (h : Below X.heap.size X Y) : KeepsFrom B X Y := ⟨h.size, fun k o _ h0 _ => (h.block k (Array.getElem?_eq_some_iff.1 h0).1).trans h0⟩
theorem OwnFrom.up {β : Type} {B B' : Nat} {I : β → World → Prop} (h : OwnFrom B I) (hb : B ≤ B') : OwnFrom B' I := fun s X Y row hs hg hr => h s X Y row hs hg (fun r e => ⟨Nat.le_trans hb (hr r e).1, (hr r e).2⟩)
theorem OwnFrom.grown {β : Type} {B : Nat} {I : β → World → Prop} (h : OwnFrom B I) {s : β} {X Y : World} (hs : I s X) (hg : X.grownBy Y none) : I s Y := h s X Y none hs hg (fun r e => by cases e)

/-- Whatever is made of each x by the rounds of loop l. Xp: what is known of what is handed over, since J held. -/
def SeqO {α : Type} (P : Program) (g : Nat) (lb : Array Value) (encs : α → Array Value) (Xp : α → World → World → Prop) (Kp : World → World → Prop) (S Sp : List α → Prop) (N : Nat) (w : World) : Prop :=
  ∀ (l : Nat) (J Jx : List α → World → Prop) (W : World), Below w.heap.size w W → OwnFrom W.heap.size J → OwnFrom W.heap.size Jx →
    (∀ pre x W0 W1, J pre W0 → Below W0.heap.size W0 W1 → Xp x W0 W1 → pre.length < N → YieldAt Fence.wide 0 P l (encs x) W1 fun e W' =>
      KeepsFrom W.heap.size W1 W' ∧ ((e = .returned (.bool true) ∧ J (pre ++ [x]) W' ∧ Kp W1 W') ∨ (e = .returned (.bool false) ∧ Jx (pre ++ [x]) W'))) →
    J [] W → Calls P g (#[.func (.yield l) #[] #[]] ++ lb) W fun e W' => (∃ v, e = .returned v) ∧ ((∃ xs, S xs ∧ J xs W') ∨ (∃ pre, Sp pre ∧ Jx pre W'))

theorem rangeO {α : Type} {P : Program} {g : Operand} {ps : Array Tmp} {assign body : Code} {Q : Exit → Act → World → Prop} {a : Act} {w : World}
    {gf : Nat} {lb : Array Value} (hg : a.eval g = .func (.func gf) #[] lb) (eg : ∀ args w, (callFunc gf args).run P w = .ok (.enter gf args) w)
    {encs : α → Array Value} {Xp : α → World → World → Prop} {Kp : World → World → Prop} {S Sp : List α → Prop} {N : Nat} {w0 : World} (hseq : SeqO P gf lb encs Xp Kp S Sp N w0) (hb0 : Below w0.heap.size w0 w)
    (hKt : ∀ {A B C : World}, Kp A B → Kp B C → Kp A C) (hKb : ∀ (W : World) (l : Nat) (o o' : Obj), w.heap.size ≤ l → W.heap[l]? = some o → o.isCells = false → Kp W (W.putObj l o')) (hps : ∀ x, (encs x).size = ps.size)
    (I : List α → World → Prop) (Ix : Code → List α → World → Prop) (hI : OwnFrom w.heap.size I) (hIx : ∀ c, OwnFrom w.heap.size (Ix c)) (h0 : I [] w)
    (Ax : List α → α → Act → World → Prop) (hAx : ∀ pre x a', OwnFrom w.heap.size (fun (_ : Unit) W => Ax pre x a' W))
    (hassign : ∀ (l : Nat) (pre : List α) (x : α) (W0 W : World) (K : Act → World → Prop), I pre W0 → Below W0.heap.size W0 W → Xp x W0 W → (∀ a' W', KeepsFrom w.heap.size W W' → Kp W W' → Ax pre x a' W' → K a' W') →
      assign.wpIn (Fence.wide.inRound l) 0 P (Exit.then K (fun _ _ _ => False)) { tmps := (ps.zip (encs x)).foldl (fun t (p, v) => t.setIfInBounds p v) a.tmps, defers := [] } W)
    (hbody : ∀ (l : Nat) (pre : List α) (x : α) (a' : Act) (W : World), w.heap.size ≤ l → Ax pre x a' W → pre.length < N → body.wpIn (Fence.wide.inRound l) 0 P (ownPostG w.heap.size Kp I Ix (pre ++ [x]) W) a' W)
    (hdone : ∀ (D : Nat) (xs : List α) (W : World), w.heap.size ≤ D → S xs → I xs W → W.heap[D]? = some (.deferred (some [])) → Q .normal { a with defers := { target := .collected D, args := #[] } :: a.defers } W)
    (hstop : ∀ (D : Nat) (c : Code) (pre : List α) (W : World), w.heap.size ≤ D → Sp pre → Ix c pre W → W.heap[D]? = some (.deferred (some [])) → c.wpIn Fence.wide 0 P Q { a with defers := { target := .collected D, args := #[] } :: a.defers } W) :
    (Code.rangeFunc g ps assign body).wpIn Fence.wide 0 P Q a w := by
  refine wpIn_rangeFunc fun fn hfn => ?_
  obtain ⟨r, hr⟩ : ∃ r : LoopState → Option Code → Loop, r = fun st pe => { state := st, pending := pe, fn, tmps := a.tmps, params := ps, assign, body, defers := w.heap.size } := ⟨_, rfl⟩
  have e1 := run_enterLoop_outer (P := P) (w := w) fn a.tmps ps assign body
  rw [show ({ state := .ready, pending := none, fn, tmps := a.tmps, params := ps, assign, body, defers := w.heap.size } : Loop) = r .ready none by rw [hr]] at e1
  generalize hC : w.alloc (.deferred (some [])) = C at e1
  have cD : C.heap[w.heap.size]? = some (.deferred (some [])) := by rw [← hC]; exact World.alloc_heap_new w _
  have cs : C.heap.size = w.heap.size + 1 := by rw [← hC]; simp
  have cI : I [] C := by rw [← hC]; exact hI.alloc _ h0
  have cb : Below w.heap.size w C := by rw [← hC]; exact (Below.refl _ w).alloc (Nat.le_refl _) _
  generalize hE : C.alloc (.loop (r .ready none)) = E at e1
  have eL : E.heap[w.heap.size + 1]? = some (.loop (r .ready none)) := by rw [← hE, ← cs]; exact World.alloc_heap_new C _
  have eD : E.heap[w.heap.size]? = some (.deferred (some [])) := by rw [← hE]; exact (Below.heap_alloc C _ _ (by omega)).trans cD
  have es : E.heap.size = w.heap.size + 2 := by rw [← hE]; simp; omega
  have eI : I [] E := by rw [← hE]; exact hI.alloc _ cI
  have eb : Below w.heap.size w E := by rw [← hE]; exact cb.alloc (by omega) _
  clear hC hE cD cs cI cb
  have bk : ∀ {A B : World} {row : Option Nat} {k : Nat} {o : Obj}, A.grownBy B row → (∀ i, row = some i → E.heap.size ≤ i ∧ ∃ o : Obj, A.heap[i]? = some o ∧ o.isCells = false) → k < w.heap.size + 2 → A.heap[k]? = some o → B.heap[k]? = some o := by
    intro A B row k o hg' hi hk ho
    refine (hg'.block k (Array.getElem?_eq_some_iff.1 ho).1 (fun e => ?_)).trans ho
    have := (hi k e.symm).1
    omega
  refine ⟨w.heap.size + 1, _, E, { target := .fn (.func gf) lb, args := #[.func (.yield (w.heap.size + 1)) #[] #[]] }, E, gf, #[.func (.yield (w.heap.size + 1)) #[] #[]] ++ lb, E, e1, ?_, fun _ _ => trivial, ?_, (fun h => (by cases h)), ?_⟩
  · simp only [resolve, hg]
    simp [go_sem]
  · simp [invoke, go_sem, eg]
  refine callsIn_wide.2 ((hseq (w.heap.size + 1)
    (fun pre W => I pre W ∧ W.heap[w.heap.size + 1]? = some (.loop (r .ready none)) ∧ W.heap[w.heap.size]? = some (.deferred (some [])))
    (fun pre W => ∃ c, Ix c pre W ∧ W.heap[w.heap.size + 1]? = some (.loop (r .done (some c))) ∧ W.heap[w.heap.size]? = some (.deferred (some [])))
    E (hb0.trans (eb.mono hb0.size)) ?_ ?_ ?_ ⟨eI, eL, eD⟩).mono ?_)
  · intro s A B row hs hg' hi
    exact ⟨OwnFrom.up hI (by omega) s A B row hs.1 hg' hi, bk hg' hi (by omega) hs.2.1, bk hg' hi (by omega) hs.2.2⟩
  · rintro s A B row ⟨c, h1, h2, h3⟩ hg' hi
    exact ⟨c, OwnFrom.up (hIx c) (by omega) s A B row h1 hg' hi, bk hg' hi (by omega) h2, bk hg' hi (by omega) h3⟩
  · rintro pre x W0 W1 ⟨i0, l0, d0⟩ b01 hX hlen
    have l1 := (b01.block _ (Array.getElem?_eq_some_iff.1 l0).1).trans l0
    have d1 := (b01.block _ (Array.getElem?_eq_some_iff.1 d0).1).trans d0
    have hy := run_yield (P := P) (args := encs x) l1 (by rw [hr]; exact hps x)
    rw [hr] at hy
    refine ⟨fn, _, assign, body, hy, roundIn_of_wpIn hfn (hassign _ pre x W0 W1 _ i0 b01 hX fun a' W2 k12 p12 ax => ?_)⟩
    clear hy
    have l2 := k12.same _ _ (by omega) l1 rfl
    have d2 := k12.same _ _ (Nat.le_refl _) d1 rfl
    have lt2 := (Array.getElem?_eq_some_iff.1 l2).1
    refine ⟨_, run_beginRound l2 (by rw [hr]), ?_⟩
    generalize hB : (Obj.loop { r .ready none with state := .busy }) = ob
    have l3 : (W2.putObj (w.heap.size + 1) ob).heap[w.heap.size + 1]? = some ob := World.putObj_heap_same lt2
    have d3 : (W2.putObj (w.heap.size + 1) ob).heap[w.heap.size]? = some (.deferred (some [])) := (World.putObj_heap_other (by omega)).trans d2
    have p23 : Kp W2 (W2.putObj (w.heap.size + 1) ob) := hKb _ _ _ _ (by omega) l2 rfl
    have ax3 := (hAx pre x a').putObj (s := ()) ob ax (by omega) l2 rfl
    have k13 : KeepsFrom E.heap.size W1 (W2.putObj (w.heap.size + 1) ob) := (KeepsFrom.up k12 (by omega)).trans (KeepsFrom.putObj (by omega))
    refine wpIn_mono (hbody _ pre x a' _ (by omega) ax3 hlen) ?_
    have fin : ∀ (jump : Option Code) (W3 : World), KeepsFrom w.heap.size (W2.putObj (w.heap.size + 1) ob) W3 → ∃ o4, o4 = Obj.loop (r (if jump.isNone then .ready else .done) jump) ∧
        (Instr.endRound (w.heap.size + 1) jump).run P W3 = .ok (.bool jump.isNone) (W3.putObj (w.heap.size + 1) o4) ∧ W3.heap[w.heap.size + 1]? = some ob ∧
        (W3.putObj (w.heap.size + 1) o4).heap[w.heap.size + 1]? = some o4 ∧ (W3.putObj (w.heap.size + 1) o4).heap[w.heap.size]? = some (.deferred (some [])) ∧ KeepsFrom E.heap.size W1 (W3.putObj (w.heap.size + 1) o4) := by
      intro jump W3 k3
      have l4 := k3.same _ _ (by omega) l3 (by rw [← hB]; rfl)
      have l4' := l4
      rw [← hB] at l4'
      have := run_endRound (P := P) jump l4'
      rw [hr] at this
      refine ⟨_, rfl, by rw [hr]; exact this, l4, World.putObj_heap_same (Array.getElem?_eq_some_iff.1 l4).1, (World.putObj_heap_other (by omega)).trans (k3.same _ _ (Nat.le_refl _) d3 rfl), (k13.trans (KeepsFrom.up k3 (by omega))).trans (KeepsFrom.putObj (by omega))⟩
    have hnc : ob.isCells = false := by rw [← hB]; rfl
    rintro e a3 W3 hp
    cases e with
    | normal =>
      obtain ⟨k3, p3, i3⟩ := hp
      obtain ⟨o4, h4, q1, q2, q3, q4, q5⟩ := fin none W3 k3
      subst h4
      exact ⟨_, _, q1, q5, .inl ⟨rfl, ⟨hI.putObj _ i3 (by omega) q2 hnc, q3, q4⟩, hKt p12 (hKt (hKt p23 p3) (hKb _ _ _ _ (by omega) q2 hnc))⟩⟩
    | ret =>
      obtain ⟨k3, i3⟩ := hp
      obtain ⟨o4, h4, q1, q2, q3, q4, q5⟩ := fin (some .ret) W3 k3
      subst h4
      exact ⟨_, _, q1, q5, .inr ⟨rfl, .ret, (hIx _).putObj _ i3 (by omega) q2 hnc, q3, q4⟩⟩
    | exit id =>
      obtain ⟨k3, i3⟩ := hp
      obtain ⟨o4, h4, q1, q2, q3, q4, q5⟩ := fin (some (.exit id)) W3 k3
      subst h4
      exact ⟨_, _, q1, q5, .inr ⟨rfl, .exit id, (hIx _).putObj _ i3 (by omega) q2 hnc, q3, q4⟩⟩
    | goto t =>
      obtain ⟨k3, i3⟩ := hp
      obtain ⟨o4, h4, q1, q2, q3, q4, q5⟩ := fin (some (.goto t)) W3 k3
      subst h4
      exact ⟨_, _, q1, q5, .inr ⟨rfl, .goto t, (hIx _).putObj _ i3 (by omega) q2 hnc, q3, q4⟩⟩
    | panic ch => exact hp.elim
    | outgrown => exact hp.elim
  · rintro e W2 ⟨⟨v, rfl⟩, (⟨xs, hS, i2, l2, d2⟩ | ⟨pre, hSp, c, i2, l2, d2⟩)⟩
    · exact ⟨none, _, by have := run_endLoop (P := P) l2 (by rw [hr]; simp); rw [hr] at this; exact this, hdone _ xs _ (Nat.le_refl _) hS (hI.putObj _ i2 (by omega) l2 rfl) ((World.putObj_heap_other (by omega)).trans d2)⟩
    · exact ⟨some c, _, by have := run_endLoop (P := P) l2 (by rw [hr]; simp); rw [hr] at this; exact this, hstop _ c pre _ (Nat.le_refl _) hSp ((hIx c).putObj _ i2 (by omega) l2 rfl) ((World.putObj_heap_other (by omega)).trans d2)⟩
end Go.Proofs.Ytpkbeeicffoaoaa

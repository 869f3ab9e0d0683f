/- Encode, the model: whole bytes just where every instruction may be one, and there are no more than MaxWords. -/
import Derived.Test.YtcidckmocmdijaaDoorEncBytes
namespace Go.Proofs.YtcidckmocmdijaaDoor
open Go.RowKit
set_option linter.unusedVariables false
set_option linter.unusedSimpArgs false
set_option maxRecDepth 100000

def okI (x : In6) : Bool := insB x.o x.a x.b x.c x.n x.m
def encOk (l : List In6) (n : Nat) : Bool := decide (n ≤ 4000) && l.all okI
def encR (l : List In6) (n : Nat) : List Int := bif encOk l n then encL l else []

theorem bytes0 (a : Option Addr) (c : Nat) (w : World) :
    Calls Tryd.prog 21 #[.slice a 0 c] w fun e w' => e = .returned (.slice none 0 0) ∧ w' = w := by
  go_enter Tryd.func21, Tryd.ntmps21
  go_wp2_with fail
  refine wp_loop_rounds 1 ?_
  rw [rounds_succ]
  go_wp2_with fail
  go_ret
  exact ⟨rfl, rfl⟩

theorem bytesAll (a : Option Addr) (n c : Nat) (l : List In6) (w : World) (h : IRow w a n l) (hn : n ≤ 4000) :
    Calls Tryd.prog 21 #[.slice a n c] w fun e w' => ∃ v, e = .returned v ∧ Own w' w.heap.size v (12 * n) (encL l) ∧ Below w.heap.size w w' := by
  rcases Nat.eq_zero_or_pos n with h0 | hp
  · subst h0
    have : l = [] := List.length_eq_zero_iff.1 h.1
    subst this
    refine (bytes0 a c w).mono ?_
    rintro e w' ⟨rfl, rfl⟩
    exact ⟨_, rfl, own_nil _ _, Below.refl _ _⟩
  · obtain ⟨b, off, rfl, _⟩ := h.2 hp
    exact bytesM b off n c l w h hp hn

theorem all_take {l : List In6} {k : Nat} {x : In6} (h : (l.take k).all okI = true) (hx : l[k]? = some x) (ho : okI x = true) : (l.take (k + 1)).all okI = true := by
  obtain ⟨hk, rfl⟩ := List.getElem?_eq_some_iff.1 hx
  rw [List.take_succ_eq_append_getElem hk, List.all_append, h]
  simp [ho]

theorem ok_of_all {l : List In6} {k : Nat} {x : In6} (h : l.all okI = true) (hx : l[k]? = some x) : okI x = true :=
  List.all_eq_true.1 h x (List.mem_of_getElem? hx)

end Go.Proofs.YtcidckmocmdijaaDoor

/- The table of ops as the program lays it: what the rows' condition gives a walk. -/
import Derived.Test.YtcidckmocmdijaaDoorRows
import Derived.Test.YtcidckmocmdijaaDoorIns
import Derived.ProofKit
import Derived.LaidMore
import Derived.OpenShut
import Derived.OpenVars
import Derived.ChangeVars
import Derived.LaidLaws
namespace Go.Proofs.YtcidckmocmdijaaDoor
open Go.ChangeShapes Go.WideShapes Go.ChangeAt Go.RowKit
set_option linter.unusedVariables false
set_option maxRecDepth 100000

def laid1 : List (String × DataW Unit) := [("loop.example/g00335/impl.opRows", Rows.laid_loop_example_g00335_impl_opRows)]

theorem gO : Tryd.prog.globalNamed "loop.example/g00335/impl.opRows" = some 0 := by kernel_rfl
theorem tO : (Tryd.prog.globals[0]?).map (·.type) = some 58 := by kernel_rfl

theorem door_met (os : Os) (args : Array Value) : laidMetH Tryd.prog laid1 ((World.doorLaid Tryd.prog 4000 os).forCall (fun _ _ => 0) ⟨#[], args, []⟩).memory :=
  laidMetH_of_parts3 (fuel := 8) (laidMet_of_run' 8 (by kernel_rfl) (by kernel_rfl)) (by kernel_rfl) (by kernel_rfl)

def opsRows : List (DataW Unit) := match (Rows.laid_loop_example_g00335_impl_opRows : DataW Unit) with | .agg l => l | _ => []

def firstIs (d : DataW Unit) (b : Bool) : Prop := ∃ r, d = .agg (.lit (.bool b) :: r)

theorem ops_first (i : Nat) (hi : i < 23) : ∃ d, opsRows[i]? = some d ∧ firstIs d (decide (1 ≤ i)) := by
  have h : i = 0 ∨ i = 1 ∨ i = 2 ∨ i = 3 ∨ i = 4 ∨ i = 5 ∨ i = 6 ∨ i = 7 ∨ i = 8 ∨ i = 9 ∨ i = 10 ∨ i = 11 ∨ i = 12 ∨ i = 13 ∨ i = 14 ∨ i = 15 ∨ i = 16 ∨ i = 17 ∨ i = 18 ∨ i = 19 ∨ i = 20 ∨ i = 21 ∨ i = 22 := by omega
  rcases h with rfl | rfl | rfl | rfl | rfl | rfl | rfl | rfl | rfl | rfl | rfl | rfl | rfl | rfl | rfl | rfl | rfl | rfl | rfl | rfl | rfl | rfl | rfl
  all_goals exact ⟨_, rfl, _, rfl⟩

theorem trod_bool {P : Program} {w : World} {t : TypeId} {fuel : Nat} {cs : List Value} {b : Bool} {p : List MemPlace} (ht : P.underlying t = some .bool) (h : DataW.trod (fun _ => ()) P w 0 (fun _ => true) false fuel t cs = some (.lit (.bool b), p)) : cs = [.bool b] := by
  cases fuel with
  | zero => simp [DataW.trod] at h
  | succ m =>
    unfold DataW.trod at h
    rw [ht] at h
    split at h <;> simp_all

theorem ops_of_laid {W : World} (h : laidMetH Tryd.prog laid1 W) : Ops W := by
  rw [MakeChecks.laidMetH_plain _ _ _ (by kernel_rfl)] at h
  obtain ⟨ps, ⟨g, t, cs, f, p, q, hg, ht, hv, hd, hq, e⟩, hnd, hrows⟩ := h
  obtain rfl := Option.some.inj (gO.symm.trans hg)
  obtain rfl := Option.some.inj (tO.symm.trans ht)
  clear ht hnd hrows e hq
  obtain ⟨xs, m, rfl, hx, hl, hn, hxs⟩ := DataW.trod_array Tryd.underlying58 hd
  have hc : Tryd.prog.cellsOf 57 = 4 := by kernel_rfl
  have hb : Tryd.prog.cellsOf 4 = 1 := by kernel_rfl
  have hrows : opsRows = xs.map (·.1) := by
    have h1 : (Rows.laid_loop_example_g00335_impl_opRows : DataW Unit) = .agg (xs.map (·.1)) := congrArg Prod.fst hx
    unfold opsRows
    rw [h1]
  intro i hi
  obtain ⟨d, hdi, r, hr⟩ := ops_first i (by omega)
  rw [hrows, List.getElem?_map] at hdi
  have hi' := hxs i (by omega)
  cases hy : xs[i]? with
  | none => rw [hy] at hdi; cases hdi
  | some y =>
    rw [hy] at hdi hi'
    have hyd : y.1 = d := by simpa using hdi
    obtain ⟨zs, k, rfl, hz, hzl, hzn, hzs⟩ := DataW.trod_struct Tryd.underlying57 hi'
    have h0 := hzs 0 _ rfl
    have hz1 : zs.map (·.1) = .lit (.bool (decide (1 ≤ i))) :: r := by
      have := hyd.symm.trans (congrArg Prod.fst hz)
      rw [hr] at this
      injection this with this
      exact this.symm
    obtain ⟨⟨z1, z2⟩, zr, rfl⟩ : ∃ z zr, zs = z :: zr := by
      cases zs with
      | nil => simp at hz1
      | cons z zr => exact ⟨z, zr, rfl⟩
    have hz2 : z1 = .lit (.bool (decide (1 ≤ i))) := by simpa using (List.cons.inj hz1).1
    subst hz2
    have h1 : List.take (Tryd.prog.cellsOf 4) (List.drop 0 (List.take (Tryd.prog.cellsOf 57) (List.drop (i * Tryd.prog.cellsOf 57) cs.toList))) = [.bool (decide (1 ≤ i))] := trod_bool Tryd.underlying4 h0
    rw [hb, hc] at h1
    have hcell : cs.toList[i * 4]? = some (.bool (decide (1 ≤ i))) := by
      have := congrArg (fun (l : List Value) => l[0]?) h1
      simpa using this
    rw [World.var?_cell gO hv]
    simpa using hcell
end Go.Proofs.YtcidckmocmdijaaDoor

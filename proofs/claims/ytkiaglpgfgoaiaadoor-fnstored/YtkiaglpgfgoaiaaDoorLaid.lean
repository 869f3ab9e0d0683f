/- The sentinels as the program lays them: what the rows' condition gives a walk; the variables read again behind it. -/
import Derived.Test.YtkiaglpgfgoaiaaDoorRows
import Derived.Test.YtkiaglpgfgoaiaaDoorErrs
import Derived.ProofKit
import Derived.LaidMore
import Derived.OpenShut
import Derived.Stop.Joined
import Derived.ChangeVars
import Derived.RowKitTokens
import Derived.LaidLaws
namespace Go.Proofs.YtkiaglpgfgoaiaaDoor
open Go.ChangeShapes Go.WideShapes Go.ChangeAt Go.RowKit
set_option linter.unusedVariables false
set_option maxRecDepth 100000

def laid3 : List (String × DataW Unit) := [("loop.example/g00335/impl.errTag", Rows.laid_loop_example_g00335_impl_errTag), ("loop.example/g00335/impl.errBound", Rows.laid_loop_example_g00335_impl_errBound), ("loop.example/g00335/impl.errPerm", Rows.laid_loop_example_g00335_impl_errPerm)]

theorem gP : Tryd.prog.globalNamed "loop.example/g00335/impl.errPerm" = some 0 := by kernel_rfl
theorem gT : Tryd.prog.globalNamed "loop.example/g00335/impl.errTag" = some 1 := by kernel_rfl
theorem gB : Tryd.prog.globalNamed "loop.example/g00335/impl.errBound" = some 2 := by kernel_rfl
theorem tP : (Tryd.prog.globals[0]?).map (·.type) = some 40 := by kernel_rfl
theorem tT : (Tryd.prog.globals[1]?).map (·.type) = some 40 := by kernel_rfl
theorem tB : (Tryd.prog.globals[2]?).map (·.type) = some 40 := by kernel_rfl
theorem cellsE : Tryd.prog.cellsOf 108 = 1 := by kernel_rfl
theorem cellsS : Tryd.prog.cellsOf 9 = 1 := by kernel_rfl
theorem starE : "*" ++ "errors.errorString" = "*errors.errorString" := by decide
theorem rowE (u : TypeId) (h : Tryd.prog.typeName? 3 u = some "*errors.errorString") : u = 83 :=
  typeName_ptr_named (nm := "errors.errorString") (by rw [starE]; kernel_rfl) (by kernel_rfl) (by decide) u (by rw [starE]; exact h)

theorem door_met (os : Os) (args : Array Value) : laidMetH Tryd.prog laid3 ((World.doorLaid Tryd.prog 400 os).forCall (fun _ _ => 0) ⟨#[], args, []⟩).memory :=
  laidMetH_of_parts3 (fuel := 8) (laidMet_of_run' 8 (by kernel_rfl) (by kernel_rfl)) (by kernel_rfl) (by kernel_rfl)

theorem sents_of_laid {W : World} (h : laidMetH Tryd.prog laid3 W) :
    ∃ (p t b : Addr), Sents W p t b ∧ W.var? Tryd.prog "loop.example/g00335/impl.errPerm" = some #[.iface 83 (.pointer (some p))] ∧ W.var? Tryd.prog "loop.example/g00335/impl.errTag" = some #[.iface 83 (.pointer (some t))] ∧ W.var? Tryd.prog "loop.example/g00335/impl.errBound" = some #[.iface 83 (.pointer (some b))] := by
  rw [MakeChecks.laidMetH_plain _ _ _ (by kernel_rfl)] at h
  obtain ⟨ps, ⟨g0, t0, cs0, f0, p0, q0, hg0, ht0, hv0, hd0, ⟨g1, t1, cs1, f1, p1, q1, hg1, ht1, hv1, hd1, ⟨g2, t2, cs2, f2, p2, q2, hg2, ht2, hv2, hd2, hq2, e2⟩, e1⟩, e0⟩, hnd, hrows⟩ := h
  obtain rfl := Option.some.inj (gT.symm.trans hg0)
  obtain rfl := Option.some.inj (gB.symm.trans hg1)
  obtain rfl := Option.some.inj (gP.symm.trans hg2)
  obtain rfl := Option.some.inj (tT.symm.trans ht0)
  obtain rfl := Option.some.inj (tB.symm.trans ht1)
  obtain rfl := Option.some.inj (tP.symm.trans ht2)
  have hq2' : q2 = [] := hq2
  subst hq2'
  subst e2
  subst e1
  subst e0
  obtain ⟨l0⟩ := cs0
  obtain ⟨l1⟩ := cs1
  obtain ⟨l2⟩ := cs2
  have ok0 : ∀ u v, l0 = [.iface u v] → Value.okWide Tryd.prog W .any 0 u v := fun u v e => by
    subst e
    exact (hrows 1 0 (by simp [MemPlace.row])).2 u v (by simpa using World.var?_cell hg0 hv0 0)
  have ok1 : ∀ u v, l1 = [.iface u v] → Value.okWide Tryd.prog W .any 0 u v := fun u v e => by
    subst e
    exact (hrows 2 0 (by simp [MemPlace.row])).2 u v (by simpa using World.var?_cell hg1 hv1 0)
  have ok2 : ∀ u v, l2 = [.iface u v] → Value.okWide Tryd.prog W .any 0 u v := fun u v e => by
    subst e
    exact (hrows 0 0 (by simp [MemPlace.row])).2 u v (by simpa using World.var?_cell hg2 hv2 0)
  obtain ⟨a0, s0, rfl, hc0, hs0, hz0, rfl⟩ := errorString_of_trod Tryd.underlying40 rowE Tryd.underlying83 Tryd.underlying108 rfl rfl Tryd.underlying9 cellsE cellsS hd0 ok0
  obtain ⟨a1, s1, rfl, hc1, hs1, hz1, rfl⟩ := errorString_of_trod Tryd.underlying40 rowE Tryd.underlying83 Tryd.underlying108 rfl rfl Tryd.underlying9 cellsE cellsS hd1 ok1
  obtain ⟨a2, s2, rfl, hc2, hs2, hz2, rfl⟩ := errorString_of_trod Tryd.underlying40 rowE Tryd.underlying83 Tryd.underlying108 rfl rfl Tryd.underlying9 cellsE cellsS hd2 ok2
  have hb0 := (hrows a0.block a0.off (by simp [MemPlace.row])).1
  have hb1 := (hrows a1.block a1.off (by simp [MemPlace.row])).1
  have hb2 := (hrows a2.block a2.off (by simp [MemPlace.row])).1
  refine ⟨a2, a0, a1, ⟨by simpa using World.var?_cell gP hv2 0, by simpa using World.var?_cell gT hv0 0, by simpa using World.var?_cell gB hv1 0, hb2, hb0, hb1, ?_, ?_, ?_⟩, hv2, hv0, hv1⟩
  · rintro rfl; simp [MemPlace.row] at hnd
  · rintro rfl; simp [MemPlace.row] at hnd
  · rintro rfl; simp [MemPlace.row] at hnd

theorem var_below {W W' : World} {n : String} {cs : Array Value} (h : W.var? Tryd.prog n = some cs) (hb : Below W.heap.size W W') : W'.var? Tryd.prog n = some cs := by
  unfold World.var? at h ⊢
  cases hg : Tryd.prog.globalNamed n with
  | none => simp [hg] at h
  | some g =>
    simp only [hg, Option.bind_some] at h ⊢
    have hlt : g < W.heap.size := by
      rcases Nat.lt_or_ge g W.heap.size with h' | h'
      · exact h'
      · simp [Array.getElem?_eq_none h'] at h
    rw [hb.block g hlt]
    exact h

theorem vars_read {H : Type} (enc : TypeId × Value → H) {W : World} {x0 x1 x2 : Value} (h0 : W.var? Tryd.prog "loop.example/g00335/impl.errPerm" = some #[x0]) (h1 : W.var? Tryd.prog "loop.example/g00335/impl.errTag" = some #[x1]) (h2 : W.var? Tryd.prog "loop.example/g00335/impl.errBound" = some #[x2]) (i0 : IsIface x0) (i1 : IsIface x1) (i2 : IsIface x2) (sp : Nat → Bool) :
    DataW.TrodVars enc Tryd.prog W sp ["loop.example/g00335/impl.errPerm", "loop.example/g00335/impl.errTag", "loop.example/g00335/impl.errBound"] [tok enc x0, tok enc x1, tok enc x2] [.cell 0 0, .cell 1 0, .cell 2 0] :=
  ⟨0, 40, #[x0], 1, [], [.cell 1 0, .cell 2 0], gP, tP, h0, trod_held Tryd.underlying40 i0 0,
   ⟨1, 40, #[x1], 1, [], [.cell 2 0], gT, tT, h1, trod_held Tryd.underlying40 i1 0,
    ⟨2, 40, #[x2], 1, [], [], gB, tB, h2, trod_held Tryd.underlying40 i2 0, rfl, rfl⟩, rfl⟩, rfl⟩
end Go.Proofs.YtkiaglpgfgoaiaaDoor

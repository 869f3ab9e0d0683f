/- Expressions and statements by themselves: what the program tells of their own fields. -/
import Derived.Test.YtajnfknldofjlaaGreatDoorForms
namespace Go.Proofs.YtajnfknldofjlaaGreatDoor
open Go.RowKit
set_option linter.unusedVariables false
set_option linter.unusedSimpArgs false
set_option maxRecDepth 100000

def e0 : Ex := .mk 0 0 [] [] []

theorem hasKindOne (k : Int) (x : Ex) (vs : List Value) (g : Nat) (w : World) (h : RdVals w x.fl vs) (hg : w.cell? ⟨g, 0, none⟩ = some (.int .i64 k)) :
    Calls Tryz.prog 193 (#[agg vs] ++ #[.pointer (some ⟨g, 0, none⟩)]) w fun e w' => e = .returned (.bool (decide (x.kind = k))) ∧ w.grownBy w' none := by
  obtain ⟨x0, x1, x2, x3, x4⟩ := x
  unfold Ex.fl at h
  obtain ⟨y0, _, rfl, rfl, y1, _, rfl, rfl, y2, _, rfl, _, y3, _, rfl, _, y4, _, rfl, _, rfl⟩ := h
  have g0 := grown_alloc w (.cells #[.int .i64 x0, .int .i64 x1, y2, y3, y4] 122 (0, 0)) none
  have q0 := cell_new w 122 #[.int .i64 x0, .int .i64 x1, y2, y3, y4] 0 _ rfl
  replace hg := cell_on hg (below_grown g0)
  show Calls Tryz.prog 193 #[.agg #[.int .i64 x0, .int .i64 x1, y2, y3, y4], .pointer (some ⟨g, 0, none⟩)] w _
  have he : Hid ((x0 == k) = decide (Ex.kind (.mk x0 x1 x2 x3 x4) = k)) := by show _ = _; unfold Ex.kind; by_cases h : x0 = k <;> simp [h]
  go_enter Tryz.func193, Tryz.ntmps193
  go_upto_region 1 with fail
  generalize w.alloc (.cells #[.int .i64 x0, .int .i64 x1, y2, y3, y4] 122 (0, 0)) = w1 at *
  go_wp2_with fail
  go_ret
  exact ⟨ret_bool he.out, g0⟩

theorem exs_len (x : Ex) : x.fl.length = 5 := by cases x; simp [Ex.fl]
theorem sts_len (x : St) : x.fl.length = 6 := by cases x; simp [St.fl]

theorem hasKindC (k : Int) (l : List Ex) (a : Option Addr) (c : Nat) (w : World) (h : LRow w a c 5 (exs l)) :
    Calls Tryz.prog 177 #[.slice a l.length c, .int .i64 k] w fun e w' => e = .returned (.bool (l.any fun x => decide (x.kind = k))) ∧ w.grownBy w' none := by
  have y0 := grown_alloc w (.cells #[.int .i64 k] 3 (0, 0)) none
  have x0 := cell_new w 3 #[.int .i64 k] 0 _ rfl
  replace h := h.below (below_grown y0)
  have HC : Calls Tryz.prog 181 #[.slice a l.length c, .func (.func 193) #[] #[.pointer (some ⟨w.heap.size, 0, none⟩)]] (w.alloc (.cells #[.int .i64 k] 3 (0, 0))) fun e w' => e = .returned (.bool (l.any fun x => decide (x.kind = k))) ∧ w.grownBy w' none := by
    generalize w.alloc (.cells #[.int .i64 k] 3 (0, 0)) = W at *
    refine (containsExpr 193 _ none a l.length c (exs l) (fun j => decide ((l[j]?.getD e0).kind = k)) (fun _ wr => W.grownBy wr none) (fun _ _ => True) W ⟨ent_of Tryz.func193 rfl rfl, fun j wr hi => h.below (below_grown hi), ?_, ?_⟩ (by simp [exs_map]) (grown_refl _ _)).mono ?_
    · intro r hr
      rw [exs_map] at hr
      obtain ⟨x, _, rfl⟩ := List.mem_map.1 hr
      exact exs_len x
    · intro j r wr vs hr hi hvs _
      rw [exs_map, List.getElem?_map] at hr
      obtain ⟨x, hx, rfl⟩ := Option.map_eq_some_iff.1 hr
      rw [hx]
      refine (hasKindOne k x vs w.heap.size wr hvs (cell_on x0 (below_grown hi))).mono ?_
      rintro e w' ⟨rfl, hg⟩
      exact ⟨rfl, hg, fun _ => grown_trans hi hg, fun _ => trivial⟩
    · rintro e w' ⟨r, rfl, hg, ht⟩
      refine ⟨ret_bool ?_, grown_trans y0 hg⟩
      rw [told_any ht]
      exact range_any l e0 fun x => decide (x.kind = k)
  clear h
  go_enter Tryz.func177, Tryz.ntmps177
  go_upto_region 1 with fail
  generalize w.alloc (.cells #[.int .i64 k] 3 (0, 0)) = W at *
  go_wp2_with fail
  refine HC.mono ?_
  rintro e w3 ⟨rfl, hg⟩
  go_wp2_with fail
  go_ret
  exact ⟨rfl, hg⟩
end Go.Proofs.YtajnfknldofjlaaGreatDoor

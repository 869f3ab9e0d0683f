/- The traps as errors: errors.Is over the three sentinels, and the code of a trap. -/
import Derived.Test.YtkiaglpgfgoaiaaDoorBase
import Derived.LaidEql
import Derived.Stop.Asserts
import Derived.RowKitTokens
namespace Go.Proofs.YtkiaglpgfgoaiaaDoor
open Go.RowKit Go.Extern.Stop Go.Stop Go.Extern
set_option linter.unusedVariables false

theorem isTypeOf (v : Value) (w : World) : (Extern.ReflectliteType.typeOf #[.iface 83 v]).run Tryd.prog w = .ok (.iface 73 (.agg #[.pointer (some ⟨3, 83, none⟩)])) w := by kernel_rfl
theorem cmpThere : (Extern.find Tryd.f61).isSome = true := by kernel_rfl
theorem isComparable (w : World) : ((Extern.find Tryd.f61).get cmpThere #[.agg #[.pointer (some ⟨3, 83, none⟩)]]).run Tryd.prog w = .ok (.bool true) w := by kernel_rfl
theorem isMethodComparable (v : Value) (w : World) : (Go.method 220 73 v "Comparable").run Tryd.prog w = .ok (61, v) w := by kernel_rfl
theorem isComp : (Tryd.prog.info? 83).map (·.comparable) = some true := by kernel_rfl
theorem isSize : (Tryd.prog.info? 108).map (·.size) = some 1 := by kernel_rfl
theorem noIsE (v : Value) (xT : TypeId) (w : World) : (Instr.typeAssert (.iface 83 v) xT 75 true).run Tryd.prog w = .ok (.tuple #[.nilIface, .bool false]) w := run_typeAssert_lacksB Tryd.underlying75 (by kernel_rfl) (by kernel_rfl) v xT w
theorem noUnwrapE (v : Value) (xT : TypeId) (w : World) : (Instr.typeAssert (.iface 83 v) xT 78 true).run Tryd.prog w = .ok (.tuple #[.nilIface, .bool false]) w := run_typeAssert_lacksB Tryd.underlying78 (by kernel_rfl) (by kernel_rfl) v xT w
theorem noUnwrapsE (v : Value) (xT : TypeId) (w : World) : (Instr.typeAssert (.iface 83 v) xT 80 true).run Tryd.prog w = .ok (.tuple #[.nilIface, .bool false]) w := run_typeAssert_lacksB Tryd.underlying80 (by kernel_rfl) (by kernel_rfl) v xT w

theorem is_same (a : Addr) (w : World) :
    Calls Tryd.prog 30 #[.iface 83 (.pointer (some a)), .iface 83 (.pointer (some a))] w fun e w' => e = .returned (.bool true) ∧ w' = w := by
  obtain ⟨i, hi, hcmp⟩ := Option.map_eq_some_iff.1 isComp
  obtain ⟨j, hj, hjs⟩ := Option.map_eq_some_iff.1 isSize
  have h8 := @run_callFunc_extern Tryd.prog 38 _ Extern.ReflectliteType.typeOf Tryd.func38 (by kernel_rfl) (by kernel_rfl) (by kernel_rfl) (by kernel_rfl)
  have h32 := @run_callFunc_extern Tryd.prog 61 _ ((Extern.find Tryd.f61).get cmpThere) Tryd.func61 (by kernel_rfl) (by kernel_rfl) (by kernel_rfl) (Option.some_get cmpThere).symm
  have tT := isTypeOf
  have cT := isComparable
  have mR := isMethodComparable
  have heq := run_eql_iface_ptr_same (P := Tryd.prog) w a Tryd.underlying40 Tryd.underlying83 hi hcmp hj
  go_enter Tryd.func30, Tryd.ntmps30
  go_wp2
  refine wp_loop_rounds 1 ?_
  rw [rounds_succ]
  go_wp2
  go_ret
  exact ⟨rfl, rfl⟩

theorem is_nil (b : Addr) (w : World) :
    Calls Tryd.prog 30 #[.nilIface, .iface 83 (.pointer (some b))] w fun e w' => e = .returned (.bool false) ∧ w' = w := by
  have hn := run_eql_iface_nil_left (P := Tryd.prog) w 83 (.pointer (some b)) Tryd.underlying40
  go_enter Tryd.func30, Tryd.ntmps30
  go_wp2
  go_ret
  exact ⟨rfl, rfl⟩

theorem is_other (a b : Addr) (ca cb : Array Value) (ta tb : TypeId) (w : World) (hne : a ≠ b) (ha : w.heap[a.block]? = some (.cells ca ta (0, 0))) (hb : w.heap[b.block]? = some (.cells cb tb (0, 0))) :
    Calls Tryd.prog 30 #[.iface 83 (.pointer (some a)), .iface 83 (.pointer (some b))] w fun e w' => e = .returned (.bool false) ∧ w' = w := by
  obtain ⟨i, hi, hcmp⟩ := Option.map_eq_some_iff.1 isComp
  obtain ⟨j, hj, hjs⟩ := Option.map_eq_some_iff.1 isSize
  have h8 := @run_callFunc_extern Tryd.prog 38 _ Extern.ReflectliteType.typeOf Tryd.func38 (by kernel_rfl) (by kernel_rfl) (by kernel_rfl) (by kernel_rfl)
  have h32 := @run_callFunc_extern Tryd.prog 61 _ ((Extern.find Tryd.f61).get cmpThere) Tryd.func61 (by kernel_rfl) (by kernel_rfl) (by kernel_rfl) (Option.some_get cmpThere).symm
  have tT := isTypeOf
  have cT := isComparable
  have mR := isMethodComparable
  have nE := noIsE
  have uE := noUnwrapE
  have vE := noUnwrapsE
  have heq := run_eql_iface_ptr_other (P := Tryd.prog) w Tryd.underlying40 Tryd.underlying83 hi hcmp hj (by rw [hjs]; decide) hne ha hb
  go_enter Tryd.func30, Tryd.ntmps30
  go_wp2
  refine wp_loop_rounds 1 ?_
  rw [rounds_succ]
  go_wp2
  go_ret
  exact ⟨rfl, rfl⟩

/-- The three sentinels lie apart, each in a block of its own: p: errPerm, t: errTag, b: errBound. -/
structure Sents (w : World) (p t b : Addr) : Prop where
  cp : w.cell? ⟨0, 0, none⟩ = some (.iface 83 (.pointer (some p)))
  ct : w.cell? ⟨1, 0, none⟩ = some (.iface 83 (.pointer (some t)))
  cb : w.cell? ⟨2, 0, none⟩ = some (.iface 83 (.pointer (some b)))
  bp : ∃ c u, w.heap[p.block]? = some (.cells c u (0, 0))
  bt : ∃ c u, w.heap[t.block]? = some (.cells c u (0, 0))
  bb : ∃ c u, w.heap[b.block]? = some (.cells c u (0, 0))
  pt : p ≠ t
  pb : p ≠ b
  tb : t ≠ b

theorem Sents.below {w w' : World} {p t b : Addr} (h : Sents w p t b) (hb : Below w.heap.size w w') : Sents w' p t b := by
  have hk : ∀ {x : Addr}, (∃ c u, w.heap[x.block]? = some (.cells c u (0, 0))) → ∃ c u, w'.heap[x.block]? = some (.cells c u (0, 0)) := by
    rintro x ⟨c, u, e⟩
    exact ⟨c, u, (hb.block _ (Array.getElem?_eq_some_iff.1 e).1).trans e⟩
  exact ⟨(hb.cell (World.block_lt_of_cell? w _ h.cp)).trans h.cp, (hb.cell (World.block_lt_of_cell? w _ h.ct)).trans h.ct, (hb.cell (World.block_lt_of_cell? w _ h.cb)).trans h.cb, hk h.bp, hk h.bt, hk h.bb, h.pt, h.pb, h.tb⟩

theorem Sents.drew {w : World} {p t b : Addr} (h : Sents w p t b) : Sents w.drew p t b := ⟨h.cp, h.ct, h.cb, h.bp, h.bt, h.bb, h.pt, h.pb, h.tb⟩

/-- A trap as an error. -/
def errV (p t b : Addr) (k : Int) : Value :=
  if k = 1 then .iface 83 (.pointer (some t)) else if k = 2 then .iface 83 (.pointer (some b)) else if k = 3 then .iface 83 (.pointer (some p)) else .nilIface

set_option maxHeartbeats 2000000 in
theorem trapM (p t b : Addr) (k : Int) (w : World) (hs : Sents w p t b) (hk : k = 0 ∨ k = 1 ∨ k = 2 ∨ k = 3) :
    Calls Tryd.prog 14 #[errV p t b k] w fun e w' => e = .returned (.int .i64 k) ∧ w' = w := by
  obtain ⟨cp, ct, cb, ⟨c1, u1, bp⟩, ⟨c2, u2, bt⟩, ⟨c3, u3, bb⟩, pt, pb, tb⟩ := hs
  have N1 := is_nil t w
  have N2 := is_nil b w
  have N3 := is_nil p w
  have S1 := is_same t w
  have S2 := is_same b w
  have S3 := is_same p w
  have O21 := is_other b t _ _ _ _ w (Ne.symm tb) bb bt
  have O31 := is_other p t _ _ _ _ w pt bp bt
  have O32 := is_other p b _ _ _ _ w pb bp bb
  clear bp bt bb pt pb tb
  rcases hk with rfl | rfl | rfl | rfl
  · show Calls Tryd.prog 14 #[.nilIface] w _
    go_enter Tryd.func14, Tryd.ntmps14
    go_wp2_with fail
    refine N1.mono ?_
    rintro e w' ⟨rfl, rfl⟩
    go_wp2_with fail
    refine N2.mono ?_
    rintro e w' ⟨rfl, rfl⟩
    go_wp2_with fail
    refine N3.mono ?_
    rintro e w' ⟨rfl, rfl⟩
    go_wp2_with fail
    go_ret
    exact ⟨rfl, rfl⟩
  · show Calls Tryd.prog 14 #[.iface 83 (.pointer (some t))] w _
    go_enter Tryd.func14, Tryd.ntmps14
    go_wp2_with fail
    refine S1.mono ?_
    rintro e w' ⟨rfl, rfl⟩
    go_wp2_with fail
    go_ret
    exact ⟨rfl, rfl⟩
  · show Calls Tryd.prog 14 #[.iface 83 (.pointer (some b))] w _
    go_enter Tryd.func14, Tryd.ntmps14
    go_wp2_with fail
    refine O21.mono ?_
    rintro e w' ⟨rfl, rfl⟩
    go_wp2_with fail
    refine S2.mono ?_
    rintro e w' ⟨rfl, rfl⟩
    go_wp2_with fail
    go_ret
    exact ⟨rfl, rfl⟩
  · show Calls Tryd.prog 14 #[.iface 83 (.pointer (some p))] w _
    go_enter Tryd.func14, Tryd.ntmps14
    go_wp2_with fail
    refine O31.mono ?_
    rintro e w' ⟨rfl, rfl⟩
    go_wp2_with fail
    refine O32.mono ?_
    rintro e w' ⟨rfl, rfl⟩
    go_wp2_with fail
    refine S3.mono ?_
    rintro e w' ⟨rfl, rfl⟩
    go_wp2_with fail
    go_ret
    exact ⟨rfl, rfl⟩
end Go.Proofs.YtkiaglpgfgoaiaaDoor

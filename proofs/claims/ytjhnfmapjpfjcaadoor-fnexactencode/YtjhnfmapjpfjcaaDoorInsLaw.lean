/- The law of InsOk returns true at every instruction, and writes nothing that was there. -/
import Derived.Test.YtjhnfmapjpfjcaaDoorInsOk
import Derived.WideShapes
namespace Go.Proofs.YtjhnfmapjpfjcaaDoor
open Go.RowKit Go.WideShapes
set_option linter.unusedVariables false
set_option linter.unusedSimpArgs false
set_option maxRecDepth 100000

/-- The six ints of an instruction are ints. -/
def Fits6 (xo xa xb xc xn xm : Int) : Prop := (Lit.int .i64 xo).wf = true ∧ (Lit.int .i64 xa).wf = true ∧ (Lit.int .i64 xb).wf = true ∧ (Lit.int .i64 xc).wf = true ∧ (Lit.int .i64 xn).wf = true ∧ (Lit.int .i64 xm).wf = true

theorem cell_int {w : World} {b : Nat} {v : Value} (h : Cell.okWide Tryd.prog w .any b 3 v) : ∃ x, v = .int .i64 x ∧ (Lit.int .i64 x).wf = true := by
  have h3 : Tryd.prog.underlying 3 = some (.int .i64) := by kernel_rfl
  simp only [Cell.okWide, h3] at h
  cases v <;> simp_all [Cell.ok, Lit.wf, IntKind.has]

theorem open_ins {w : World} {b : Nat} {v : Value} (h : Value.okWide Tryd.prog w .any b 23 v) : ∃ (xo xa xb xc xn xm : Int), v = .agg #[.int .i64 xo, .int .i64 xa, .int .i64 xb, .int .i64 xc, .int .i64 xn, .int .i64 xm] ∧ Fits6 xo xa xb xc xn xm := by
  have ht : Tryd.prog.underlying 23 = some (.struct (Tryd.prog.fieldsOf 23)) := by kernel_rfl
  have hc : Tryd.prog.cellsOf 23 = 6 := by kernel_rfl
  have hts : Tryd.prog.cellTypes Tryd.prog.depth 23 = some [3, 3, 3, 3, 3, 3] := by kernel_rfl
  simp only [Value.okWide, ht] at h
  obtain ⟨cs, rfl, hsz, ts, hts', _, hcell⟩ := h
  rw [hts] at hts'
  obtain rfl := Option.some.inj hts'
  rw [hc] at hsz
  obtain ⟨l⟩ := cs
  match l, hsz, hcell with
  | [v1, v2, v3, v4, v5, v6], _, hcell =>
    obtain ⟨u1, e1, k1⟩ := hcell 0 v1 rfl
    obtain ⟨u2, e2, k2⟩ := hcell 1 v2 rfl
    obtain ⟨u3, e3, k3⟩ := hcell 2 v3 rfl
    obtain ⟨u4, e4, k4⟩ := hcell 3 v4 rfl
    obtain ⟨u5, e5, k5⟩ := hcell 4 v5 rfl
    obtain ⟨u6, e6, k6⟩ := hcell 5 v6 rfl
    obtain rfl := Option.some.inj e1
    obtain rfl := Option.some.inj e2
    obtain rfl := Option.some.inj e3
    obtain rfl := Option.some.inj e4
    obtain rfl := Option.some.inj e5
    obtain rfl := Option.some.inj e6
    obtain ⟨xo, rfl, f1⟩ := cell_int k1
    obtain ⟨xa, rfl, f2⟩ := cell_int k2
    obtain ⟨xb, rfl, f3⟩ := cell_int k3
    obtain ⟨xc, rfl, f4⟩ := cell_int k4
    obtain ⟨xn, rfl, f5⟩ := cell_int k5
    obtain ⟨xm, rfl, f6⟩ := cell_int k6
    exact ⟨xo, xa, xb, xc, xn, xm, rfl, f1, f2, f3, f4, f5, f6⟩

theorem toInsM (xo xa xb xc xn xm : Int) (w : World) :
    Calls Tryd.prog 7 #[.agg #[.int .i64 xo, .int .i64 xa, .int .i64 xb, .int .i64 xc, .int .i64 xn, .int .i64 xm]] w fun e w' => e = .returned (.agg #[.int .i64 xo, .int .i64 xa, .int .i64 xb, .int .i64 xc, .int .i64 xn, .int .i64 xm]) ∧ Below w.heap.size w w' := by
  go_enter Tryd.func7, Tryd.ntmps7
  go_wp2
  refine bodyPost_ret (v := .agg #[.int .i64 xo, .int .i64 xa, .int .i64 xb, .int .i64 xc, .int .i64 xn, .int .i64 xm]) (by simp [results, Tryd.results7, go_sem]) rfl ⟨rfl, (by repeat (first | exact Below.refl _ _ | assumption | (refine below_drewN ?_ _) | apply Below.drew | (refine Below.alloc ?_ ?_ _) | (refine Below.setCell ?_ ?_ _) | omega | (simp; omega) | simp))⟩

set_option maxHeartbeats 2000000 in
theorem insok_walk (w : World) (hO : Ops w) (xo xa xb xc xn xm : Int) (hf : Fits6 xo xa xb xc xn xm) :
    Calls Tryd.prog 3 #[.agg #[.int .i64 xo, .int .i64 xa, .int .i64 xb, .int .i64 xc, .int .i64 xn, .int .i64 xm]] w fun e w' => e = .returned (.bool true) ∧ Below w.heap.size w w' := by
  have H1 := specInsOkM xo xa xb xc xn xm
  have H2 := implInsOkM xo xa xb xc xn xm
  generalize insB xo xa xb xc xn xm = b at *
  have HO : Hid (Ops w) := hO
  have hx := heap_new w #[.int .i64 xo, .int .i64 xa, .int .i64 xb, .int .i64 xc, .int .i64 xn, .int .i64 xm] 23
  have hB : Below w.heap.size w (w.alloc (.cells #[.int .i64 xo, .int .i64 xa, .int .i64 xb, .int .i64 xc, .int .i64 xn, .int .i64 xm] 23)) := (Below.refl _ _).alloc (Nat.le_refl _) _
  clear hf hO
  go_enter Tryd.func3, Tryd.ntmps3
  go_upto_region 1 with fail
  generalize w.alloc (.cells #[.int .i64 xo, .int .i64 xa, .int .i64 xb, .int .i64 xc, .int .i64 xn, .int .i64 xm] 23) = w1 at *
  obtain ⟨f0, f1, f2, f3, f4, f5⟩ := ins_facts xo xa xb xc xn xm hx
  have HX : Hid _ := hx
  have HB : Hid _ := hB
  clear hx hB
  go_wp2_with fail
  refine (toInsM _ _ _ _ _ _ _).mono ?_
  rintro e w2 ⟨rfl, hb2⟩
  have HB2 : Hid _ := hb2
  clear hb2
  go_wp2_with fail
  refine (H1 _).mono ?_
  rintro e w3 ⟨rfl, o, d, rfl⟩
  have hb3 : Below w1.heap.size w1 ((w2.alloc o).drewN d) := below_drewN (HB2.out.alloc HB2.out.size _) _
  have hx3 := (hb3.block _ (Array.getElem?_eq_some_iff.1 HX.out).1).trans HX.out
  have hB3 := HB.out.trans (hb3.mono HB.out.size)
  clear hb3 HX HB HB2 f0 f1 f2 f3 f4 f5
  generalize (w2.alloc o).drewN d = w3 at *
  obtain ⟨f0, f1, f2, f3, f4, f5⟩ := ins_facts xo xa xb xc xn xm hx3
  have HB : Hid _ := hB3
  clear hx3 hB3
  go_wp2_with fail
  refine (toInsM _ _ _ _ _ _ _).mono ?_
  rintro e w4 ⟨rfl, hb4⟩
  have hB4 := HB.out.trans (hb4.mono HB.out.size)
  have HB4 : Hid _ := hB4
  clear hb4 hB4
  go_wp2_with fail
  refine (H2 _ (HO.out.below HB4.out)).mono ?_
  rintro e w5 ⟨rfl, hb5⟩
  have hB5 := HB4.out.trans (hb5.mono HB4.out.size)
  clear hb5
  go_wp2_with fail
  go_ret
  exact ⟨rfl, hB5⟩
end Go.Proofs.YtjhnfmapjpfjcaaDoor

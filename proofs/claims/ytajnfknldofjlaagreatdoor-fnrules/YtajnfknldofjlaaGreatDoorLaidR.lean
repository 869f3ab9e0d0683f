/- The tables and the errors of strconv as the program lays them: what the row's condition gives a walk. -/
import Derived.Test.YtajnfknldofjlaaGreatDoorPackE
import Derived.Stop.Joined
import Derived.RowKitTokens
import Derived.HandedShaped
import Derived.Shelf.Vars
import Derived.ProofKit
import Derived.LaidMore
import Derived.OpenShut
import Derived.OpenVars
import Derived.ChangeVars
import Derived.LaidLaws
namespace Go.Proofs.YtajnfknldofjlaaGreatDoor
open Go.ChangeShapes Go.WideShapes Go.ChangeAt Go.RowKit
set_option linter.unusedVariables false
set_option maxRecDepth 100000

def laid7 : List (String × DataW Unit) := Rows.fnRulesRow.laid

theorem gEx : Tryz.prog.globalNamed "loop.example/g00335/impl.exForms" = some 7 := by kernel_rfl
theorem gSt : Tryz.prog.globalNamed "loop.example/g00335/impl.stForms" = some 0 := by kernel_rfl
theorem tEx : (Tryz.prog.globals[7]?).map (·.type) = some 154 := by kernel_rfl
theorem tSt : (Tryz.prog.globals[0]?).map (·.type) = some 154 := by kernel_rfl
theorem tSp : (Tryz.prog.globals[6]?).map (·.type) = some 197 := by kernel_rfl
theorem tP10 : (Tryz.prog.globals[9]?).map (·.type) = some 228 := by kernel_rfl

def fmData (f : Fm) : DataW Unit := .agg [.lit (.string f.txt), .lit (.int .i64 f.lo), .lit (.int .i64 f.hi), .lit (.int .i64 f.le), .lit (.int .i64 f.mo)]
theorem ex_data : (Rows.laid_loop_example_g00335_impl_exForms : DataW Unit) = .agg ((List.range 8).map fun i => fmData (exF i)) := rfl
theorem st_data : (Rows.laid_loop_example_g00335_impl_stForms : DataW Unit) = .agg ((List.range 8).map fun i => fmData (stF i)) := rfl
theorem sp_data : (Rows.laid_strings_asciiSpace : DataW Unit) = Lib.tabData .u8 Lib.asciiSpaceTab := by kernel_rfl
theorem p10_data : (Rows.laid_internal_strconv_uint64pow10 : DataW Unit) = Lib.tabData .u64 Lib.pow10Tab := by kernel_rfl

theorem five_list {α : Type} {l : List α} (h : l.length = 5) : ∃ a b c d e, l = [a, b, c, d, e] := by
  match l, h with
  | [a, b, c, d, e], _ => exact ⟨a, b, c, d, e, rfl⟩

theorem fm_cells {w : World} {fuel : Nat} {cs : List Value} {f : Fm} {p : List MemPlace} (h : DataW.trod (fun _ => ()) Tryz.prog w 0 (fun _ => true) false fuel 153 cs = some (fmData f, p)) : cs = [.string ⟨f.txt.toArray⟩, .int .i64 f.lo, .int .i64 f.hi, .int .i64 f.le, .int .i64 f.mo] := by
  obtain ⟨zs, m, rfl, hz, hl, hn, hzs⟩ := DataW.trod_struct Tryz.underlying153 h
  have hc : Tryz.prog.cellsOf 153 = 5 := by kernel_rfl
  have hi : Tryz.prog.cellsOf 3 = 1 := by kernel_rfl
  have hs : Tryz.prog.cellsOf 9 = 1 := by kernel_rfl
  rw [hc] at hl
  obtain ⟨c0, c1, c2, c3, c4, rfl⟩ := five_list hl
  obtain ⟨⟨d0, p0⟩, ⟨d1, p1⟩, ⟨d2, p2⟩, ⟨d3, p3⟩, ⟨d4, p4⟩, rfl⟩ := five_list hn
  have hz1 := congrArg Prod.fst hz
  unfold fmData at hz1
  simp only [List.map_cons, List.map_nil, DataW.agg.injEq, List.cons.injEq, and_true] at hz1
  obtain ⟨e0, e1, e2, e3, e4⟩ := hz1
  have h0 : DataW.trod (fun _ => ()) Tryz.prog w 0 (fun _ => true) false m 9 [c0] = some (d0, p0) := by have := hzs 0 _ rfl; simpa [hs] using this
  have h1 : DataW.trod (fun _ => ()) Tryz.prog w 0 (fun _ => true) false m 3 [c1] = some (d1, p1) := by have := hzs 1 _ rfl; simpa [hi] using this
  have h2 : DataW.trod (fun _ => ()) Tryz.prog w 0 (fun _ => true) false m 3 [c2] = some (d2, p2) := by have := hzs 2 _ rfl; simpa [hi] using this
  have h3 : DataW.trod (fun _ => ()) Tryz.prog w 0 (fun _ => true) false m 3 [c3] = some (d3, p3) := by have := hzs 3 _ rfl; simpa [hi] using this
  have h4 : DataW.trod (fun _ => ()) Tryz.prog w 0 (fun _ => true) false m 3 [c4] = some (d4, p4) := by have := hzs 4 _ rfl; simpa [hi] using this
  obtain ⟨s, k0, x0, _⟩ := DataW.trod_string Tryz.underlying9 h0
  obtain ⟨n1, k1, x1, _⟩ := DataW.trod_int Tryz.underlying3 h1
  obtain ⟨n2, k2, x2, _⟩ := DataW.trod_int Tryz.underlying3 h2
  obtain ⟨n3, k3, x3, _⟩ := DataW.trod_int Tryz.underlying3 h3
  obtain ⟨n4, k4, x4, _⟩ := DataW.trod_int Tryz.underlying3 h4
  simp only [List.cons.injEq, and_true, Prod.mk.injEq] at k0 k1 k2 k3 k4 x0 x1 x2 x3 x4
  subst k0 k1 k2 k3 k4
  rw [x0.1] at e0
  rw [x1.1] at e1
  rw [x2.1] at e2
  rw [x3.1] at e3
  rw [x4.1] at e4
  simp only [DataW.lit.injEq, Lit.string.injEq, Lit.int.injEq, true_and] at e0 e1 e2 e3 e4
  subst e1 e2 e3 e4
  rw [e0]

theorem forms_of {W : World} {n : String} {g fuel : Nat} {cs : Array Value} {F : Nat → Fm} {p : List MemPlace} (hg : Tryz.prog.globalNamed n = some g) (hv : W.var? Tryz.prog n = some cs) (hd : DataW.trod (fun _ => ()) Tryz.prog W 0 (fun _ => true) false fuel 154 cs.toList = some (.agg ((List.range 8).map fun i => fmData (F i)), p)) : ∀ i, i < 8 → FmAt W g (i * 5) (F i) := by
  obtain ⟨xs, m, rfl, hx, hl, hn, hxs⟩ := DataW.trod_array Tryz.underlying154 hd
  have hc : Tryz.prog.cellsOf 153 = 5 := by kernel_rfl
  have hx1 : (List.range 8).map (fun i => fmData (F i)) = xs.map (·.1) := by
    have := congrArg Prod.fst hx
    simpa using this
  intro i hi
  have h1 := hxs i hi
  rw [hc] at h1
  have h2 := congrArg (fun (l : List (DataW Unit)) => l[i]?) hx1
  simp only [List.getElem?_map, List.getElem?_range hi, Option.map_some] at h2
  cases hy : xs[i]? with
  | none => rw [hy] at h2; cases h2
  | some y =>
    rw [hy] at h1 h2
    simp only [Option.map_some, Option.some.injEq] at h2
    have h3 := fm_cells (f := F i) (p := y.2) (by rw [h1, h2])
    have hcell : ∀ k u, k < 5 → ([.string ⟨(F i).txt.toArray⟩, .int .i64 (F i).lo, .int .i64 (F i).hi, .int .i64 (F i).le, .int .i64 (F i).mo] : List Value)[k]? = some u → W.cell? ⟨g, i * 5 + k, none⟩ = some u := by
      intro k u hk hu
      rw [World.var?_cell hg hv]
      rw [← h3, List.getElem?_take_of_lt hk, List.getElem?_drop] at hu
      simpa using hu
    exact ⟨hcell 0 _ (by omega) rfl, hcell 1 _ (by omega) rfl, hcell 2 _ (by omega) rfl, hcell 3 _ (by omega) rfl, hcell 4 _ (by omega) rfl⟩

theorem tab_of {W : World} {n : String} {g fuel k9 : Nat} {t e : TypeId} {k : IntKind} {zs : List Int} {cs : Array Value} {p : List MemPlace} (hg : Tryz.prog.globalNamed n = some g) (ht : Tryz.prog.underlying t = some (.array k9 e)) (he : Tryz.prog.underlying e = some (.int k)) (hce : Tryz.prog.cellsOf e = 1) (hct : Tryz.prog.cellsOf t = k9) (hv : W.var? Tryz.prog n = some cs) (hd : DataW.trod (fun _ => ()) Tryz.prog W 0 (fun _ => true) false fuel t cs.toList = some (Lib.tabData k zs, p)) : Lib.TabIs Tryz.prog W n k zs := by
  unfold Lib.TabIs
  rw [hv, ← Lib.cells_of_tab ht he hce hct hd]

theorem gXs : Tryz.prog.globalNamed "loop.example/g00335/impl.exSorts" = some 2 := by kernel_rfl
theorem gSs : Tryz.prog.globalNamed "loop.example/g00335/impl.stSorts" = some 1 := by kernel_rfl
theorem tXs : (Tryz.prog.globals[2]?).map (·.type) = some 169 := by kernel_rfl
theorem tSs : (Tryz.prog.globals[1]?).map (·.type) = some 169 := by kernel_rfl
theorem xs_data : (Rows.laid_loop_example_g00335_impl_exSorts : DataW Unit) = Lib.tabData .i64 [0, 1, 2, 0, 0, 2, 3, 2] := by kernel_rfl
theorem ss_data : (Rows.laid_loop_example_g00335_impl_stSorts : DataW Unit) = Lib.tabData .i64 [1, 2, 0, 0, 0, 0, 0, 0] := by kernel_rfl

theorem gRg : Tryz.prog.globalNamed "strconv.ErrRange" = some 5 := by kernel_rfl
theorem gSy : Tryz.prog.globalNamed "strconv.ErrSyntax" = some 4 := by kernel_rfl
theorem tRg : (Tryz.prog.globals[5]?).map (·.type) = some 128 := by kernel_rfl
theorem tSy : (Tryz.prog.globals[4]?).map (·.type) = some 128 := by kernel_rfl
theorem cellsE : Tryz.prog.cellsOf 218 = 1 := by kernel_rfl
theorem cellsS : Tryz.prog.cellsOf 9 = 1 := by kernel_rfl
theorem starE : "*" ++ "errors.errorString" = "*errors.errorString" := by decide
theorem rowE (u : TypeId) (h : Tryz.prog.typeName? 3 u = some "*errors.errorString") : u = 216 :=
  typeName_ptr_named (nm := "errors.errorString") (by rw [starE]; kernel_rfl) (by kernel_rfl) (by decide) u (by rw [starE]; exact h)

theorem tabs_of_laid {W : World} (h : laidMetH Tryz.prog laid7 W) (hs : W.ShapedOpen Tryz.prog) : TabsS W := by
  have hm := cell_of_shapedOpen_int (g := 3) (t := 3) (zero := #[.int .i64 0]) (k := .i64) hs (of_decide_eq_true (by kernel_rfl)) (by kernel_rfl) rfl (by kernel_rfl) (by kernel_rfl) Tryz.underlying3
  rw [MakeChecks.laidMetH_plain _ _ _ (by kernel_rfl)] at h
  obtain ⟨ps, h1, hnd, hrows⟩ := h
  obtain ⟨_, _, _, _, _, qa, _, _, _, _, h2, ea⟩ := h1
  obtain ⟨_, _, _, _, _, qb, _, _, _, _, h3, eb⟩ := h2
  obtain ⟨g3, t3, cs3, f3, p3, q3, hg3, ht3, hv3, hd3, h4, e3⟩ := h3
  obtain ⟨gr, tr, csr, fr', pr, qr, hgr, htr, hvr, hdr, h5, er⟩ := h4
  obtain ⟨gy, ty, csy, fy, py, qy, hgy, hty, hvy, hdy, h6, ey⟩ := h5
  obtain ⟨_, _, _, _, _, _, _, _, _, _, h7, _⟩ := h6
  obtain ⟨g5, t5, cs5, f5, p5, q5, hg5, ht5, hv5, hd5, h8, _⟩ := h7
  obtain ⟨g6, t6, cs6, f6, p6, q6, hg6, ht6, hv6, hd6, h9, _⟩ := h8
  obtain ⟨g7, t7, cs7, f7, p7, q7, hg7, ht7, hv7, hd7, h10, _⟩ := h9
  obtain ⟨g8, t8, cs8, f8, p8, q8, hg8, ht8, hv8, hd8, h11, _⟩ := h10
  obtain ⟨g9, t9, cs9, f9, p9, q9, hg9, ht9, hv9, hd9, _, _⟩ := h11
  obtain rfl := Option.some.inj (gP10.symm.trans hg3)
  obtain rfl := Option.some.inj (tP10.symm.trans ht3)
  obtain rfl := Option.some.inj (gRg.symm.trans hgr)
  obtain rfl := Option.some.inj (tRg.symm.trans htr)
  obtain rfl := Option.some.inj (gSy.symm.trans hgy)
  obtain rfl := Option.some.inj (tSy.symm.trans hty)
  obtain rfl := Option.some.inj (gSp.symm.trans hg5)
  obtain rfl := Option.some.inj (tSp.symm.trans ht5)
  obtain rfl := Option.some.inj (gEx.symm.trans hg6)
  obtain rfl := Option.some.inj (tEx.symm.trans ht6)
  obtain rfl := Option.some.inj (gSt.symm.trans hg7)
  obtain rfl := Option.some.inj (tSt.symm.trans ht7)
  obtain rfl := Option.some.inj (gXs.symm.trans hg8)
  obtain rfl := Option.some.inj (tXs.symm.trans ht8)
  obtain rfl := Option.some.inj (gSs.symm.trans hg9)
  obtain rfl := Option.some.inj (tSs.symm.trans ht9)
  subst er
  obtain ⟨lr⟩ := csr
  obtain ⟨ly⟩ := csy
  have okr : ∀ u v, lr = [.iface u v] → Value.okWide Tryz.prog W .any 0 u v := fun u v e => by
    subst e
    exact (hrows 5 0 (by subst ea eb e3; simp [MemPlace.row])).2 u v (by simpa using World.var?_cell hgr hvr 0)
  have oky : ∀ u v, ly = [.iface u v] → Value.okWide Tryz.prog W .any 0 u v := fun u v e => by
    subst e
    exact (hrows 4 0 (by subst ea eb e3 ey; simp [MemPlace.row])).2 u v (by simpa using World.var?_cell hgy hvy 0)
  obtain ⟨ar, sr, rfl, _⟩ := errorString_of_trod Tryz.underlying128 rowE Tryz.underlying216 Tryz.underlying218 rfl rfl Tryz.underlying9 cellsE cellsS hdr okr
  obtain ⟨ay, sy, rfl, _⟩ := errorString_of_trod Tryz.underlying128 rowE Tryz.underlying216 Tryz.underlying218 rfl rfl Tryz.underlying9 cellsE cellsS hdy oky
  have e8 := tab_of gXs Tryz.underlying169 Tryz.underlying3 (by kernel_rfl) (by kernel_rfl) hv8 (by rw [← xs_data]; exact hd8)
  have e9 := tab_of gSs Tryz.underlying169 Tryz.underlying3 (by kernel_rfl) (by kernel_rfl) hv9 (by rw [← ss_data]; exact hd9)
  unfold Lib.TabIs at e8 e9
  have hT : Tabs W := ⟨forms_of gEx hv6 (by rw [← ex_data]; exact hd6), forms_of gSt hv7 (by rw [← st_data]; exact hd7), tab_of gSp Tryz.underlying197 Tryz.underlying5 (by kernel_rfl) (by kernel_rfl) hv5 (by rw [← sp_data]; exact hd5), tab_of gP10 Tryz.underlying228 Tryz.underlying190 (by kernel_rfl) (by kernel_rfl) hv3 (by rw [← p10_data]; exact hd3)⟩
  refine ⟨⟨hT, ⟨_, by simpa using World.var?_cell gSy hvy 0, .inr ⟨_, _, rfl⟩⟩, ⟨_, by simpa using World.var?_cell gRg hvr 0, .inr ⟨_, _, rfl⟩⟩, hm⟩, fun i hi => ?_, fun i hi => ?_⟩
  · rw [World.var?_cell gXs e8]
    rcases (by omega : i = 0 ∨ i = 1 ∨ i = 2 ∨ i = 3 ∨ i = 4 ∨ i = 5 ∨ i = 6 ∨ i = 7) with rfl | rfl | rfl | rfl | rfl | rfl | rfl | rfl <;> rfl
  · rw [World.var?_cell gSs e9]
    rcases (by omega : i = 0 ∨ i = 1 ∨ i = 2 ∨ i = 3 ∨ i = 4 ∨ i = 5 ∨ i = 6 ∨ i = 7) with rfl | rfl | rfl | rfl | rfl | rfl | rfl | rfl <;> rfl

theorem door_met (os : Os) (args : Array Value) : laidMetH Tryz.prog laid7 ((World.doorLaid Tryz.prog 4000 os).forCall (fun _ _ => 0) ⟨#[], args, []⟩).memory :=
  laidMetH_of_parts3 (fuel := 8) (laidMet_of_run' 8 (by kernel_rfl) (by kernel_rfl)) (by kernel_rfl) (by kernel_rfl)

section
variable {H : Type} {enc : TypeId × Value → H}
/-- The wrap of a law with what is laid, and the worlds' shape kept. -/
theorem handed_both {a : Assume} {C : Checked} {os : Os} {f : FuncId} {fn : Func} {s : ChangeSpec} {conds : List PathCond} {apart fresh handsOn again : Bool} {X : World → Array Value → Prop}
    (hX : ∀ (w w' : World) (args : Array Value), w.heap = w'.heap → X w args → X w' args)
    (own : ownKnob C.prog.godebug = none) (started : os.Started) (noInit : C.prog.inits.idxOf? f = none) (hfn : C.prog.funcs[f]? = some fn)
    (witness : ∃ (w : World) (tape : Tape) (i : Input), w.os = os ∧ (w.forCall tape i).Shaped C.prog ∧ i.vars = [] ∧ Input.okWide C.prog (w.forCall tape i) .any w.heap.size f i ∧
      ((s.pre enc C.prog fn conds apart (w.forCall tape i).memory i.args ∧ X (w.forCall tape i).memory i.args) ∧ sizedMet enc C.prog fn (OpenSpec.ofChange s) apart (w.forCall tape i).memory i.args) ∧ a.holds C.prog (lone (Frame.enter C.prog f i.args .normal) [] (w.forCall tape i)))
    (contract : ∀ (W : World) (base : Nat) (args : Array Value) (ds gs : List (DataW H)) (before : List MemPlace),
      (∀ (j : Nat) t v, fn.params[j]? = some t → args[j]? = some v → Value.okWide C.prog W .any base t v) →
      DataW.Whole enc C.prog fn.params.toList s.vars apart W args.toList ds gs before → W.ShapedOpen C.prog → X W args →
      Calls C.prog f args W fun e W' => ∃ v, e = .returned v ∧ s.post enc C.prog fn apart fresh handsOn again W args v W') :
    ReturnsInHanded a C os f .any (fun w args => (s.pre enc C.prog fn conds apart w args ∧ X w args) ∧ sizedMet enc C.prog fn (OpenSpec.ofChange s) apart w args) (s.post enc C.prog fn apart fresh handsOn again) := by
  refine returnsInHanded_of_calls own started noInit witness ?_
  intro w tape i _ hsh _ hok hpre hholds
  obtain ⟨_, _, _, fn', hfn', _, _, _, _, hval⟩ := hok
  have e : fn' = fn := Option.some.inj (hfn'.symm.trans hfn)
  subst e
  obtain ⟨⟨⟨ds, gs, before, hw, hc⟩, hx⟩, hz⟩ := hpre
  have hw' := DataW.Whole.of_heap (w' := w.forCall tape i) (by rfl) hw
  refine (contract (w.forCall tape i) w.heap.size i.args ds gs before hval hw' hsh (hX _ _ _ (by rfl) hx)).mono fun e W' ⟨v, he, hp⟩ => ?_
  subst he
  exact ChangeSpec.post_blind hp
end
end Go.Proofs.YtajnfknldofjlaaGreatDoor

import Derived.Defers
import Derived.Recover
import Derived.Test.YtajnfknldofjlaaGreatDoorPackB
import Derived.Deep.Cut
import Derived.Test.YtajnfknldofjlaaGreatDoorPsMo
import Derived.Test.YtajnfknldofjlaaGreatDoorPackE
namespace Go.Proofs.YtajnfknldofjlaaGreatDoor
open Go.RowKit Go.Shelf
set_option linter.unusedVariables false
set_option linter.unusedSimpArgs false
set_option maxRecDepth 100000

theorem idleC (p0 p1 p2 : Addr) (w : World) : CallsD Tryz.prog 8 #[.pointer (some p0), .pointer (some p1), .pointer (some p2)] .returning w fun e u' w' => e = .returned (.tuple #[]) ∧ u' = .returning ∧ w' = w := by
  have hnil : ∀ w : World, (binOp BinOp.eql 20 .nilIface .nilIface).run Tryz.prog w = .ok (.bool true) w := fun _ => by kernel_rfl
  refine callsD_of_wpS Tryz.func8 rfl fun c₀ cs hu => ?_
  apply wpS_seq
  apply wpS_region
  simp [wpOpsS, go_sem, recoverD, hu, Tryz.ntmps8, Exit.thenS]
  refine wpS_of_wp ?_
  cases c₀
  simp only at hu
  subst hu
  go_wp2_with fail
  simp [bodyPostS, results, Tryz.results8, go_sem]
end Go.Proofs.YtajnfknldofjlaaGreatDoor
namespace Go.Proofs.YtajnfknldofjlaaGreatDoor
open Go.RowKit Go.Shelf
set_option linter.unusedVariables false
set_option linter.unusedSimpArgs false
set_option maxRecDepth 100000
attribute [local go_sem] Oper.semAt_some

theorem At.start {W : World} {base n : Nat} {v : Value} {ts : List Tok} (h : W.ownsRow base 53 3 v n (flatT ts)) (hn : n = ts.length) (hp : 0 < n) : ∃ g c, v = .slice (some ⟨g, 0, none⟩) n c ∧ ∀ W' pb, Below W.heap.size W W' → Blk W' pb 38 [.slice (some ⟨g, 0, none⟩) n c] → At W' pb ts := by
  obtain ⟨a, c, rfl, h1, h2, _, h3⟩ := owns_shape h
  obtain ⟨g, rfl⟩ := h3 hp
  obtain ⟨cur, hc⟩ := owns_type h rfl
  refine ⟨g, c, rfl, fun W' pb hB hb => ?_⟩
  subst hn
  refine ⟨g, 0, c, hb, h1, h2, ⟨cur, _, (hB.block g (Array.getElem?_eq_some_iff.1 hc).1).trans hc⟩, fun i u hu => ?_⟩
  rw [Nat.zero_add]
  exact cell_on (owns_cells h i u hu) hB

theorem rdMo {w : World} {x : Mo} {vs : List Value} (h : RdVals w x.fl vs) : ∃ a0 n0 c0 a1 n1 c1 a2 n2 c2 a3 n3 c3, vs = [.slice a0 n0 c0, .slice a1 n1 c1, .slice a2 n2 c2, .slice a3 n3 c3] := by
  unfold Mo.fl at h
  obtain ⟨y0, _, rfl, ⟨a2, c2, rfl, _⟩, y2, _, rfl, ⟨a3, c3, rfl, _⟩, y3, _, rfl, ⟨a4, c4, rfl, _⟩, y4, _, rfl, ⟨a5, c5, rfl, _⟩, rfl⟩ := h
  exact ⟨_, _, _, _, _, _, _, _, _, _, _, _, rfl⟩
set_option maxHeartbeats 16000000 in
theorem parseC (l : List Int) (m : Mo) (a : Option Addr) (n c : Nat) (w : World) (hR : BRow w a n l) (hn2 : n ≤ 3000) (hnc : n ≤ c) (hcm : c ≤ 9223372036854775807) (ht : TabsR w)
    (hk : ∀ x ∈ lexAll l, x.kind ≠ 0) (hM : PsMo (lexAll l ++ [⟨1, [], n⟩]) m) (hok : moOk m = true) (hlen : recLen m.fl ≤ 1048576) :
    Calls Tryz.prog 5 #[.slice a n c] w fun e w' => ∃ vs, e = .returned (.tuple #[agg vs, .int .i64 0, .int .i64 0]) ∧ RdVals w' m.fl vs ∧ Below w.heap.size w w' := by
  have hmf : ∀ (fn : Fn) (first cap : Array Value) (w : World), (Instr.makeFunc fn first cap).run Tryz.prog w = .ok (.func fn first cap) w := fun _ _ _ _ => rfl
  have g0 := below_grown (grown_alloc w (.cells #[.slice none 0 0, .slice none 0 0, .slice none 0 0, .slice none 0 0] 29 (0, 0)) none)
  have b0 := ((Blk.new w 29 [.slice none 0 0, .slice none 0 0, .slice none 0 0, .slice none 0 0]).old (o := .cells #[.int .i64 0] 3 (0, 0))).old (o := .cells #[.int .i64 0] 3 (0, 0))
  have b1 := (Blk.new (w.alloc (.cells #[.slice none 0 0, .slice none 0 0, .slice none 0 0, .slice none 0 0] 29 (0, 0))) 3 [.int .i64 0]).old (o := .cells #[.int .i64 0] 3 (0, 0))
  have b2 := Blk.new ((w.alloc (.cells #[.slice none 0 0, .slice none 0 0, .slice none 0 0, .slice none 0 0] 29 (0, 0))).alloc (.cells #[.int .i64 0] 3 (0, 0))) 3 [.int .i64 0]
  have hB : Below w.heap.size w (((w.alloc (.cells #[.slice none 0 0, .slice none 0 0, .slice none 0 0, .slice none 0 0] 29 (0, 0))).alloc (.cells #[.int .i64 0] 3 (0, 0))).alloc (.cells #[.int .i64 0] 3 (0, 0))) := (((Below.refl _ w).alloc (Nat.le_refl _) _).alloc (by simp) _).alloc (by simp; omega) _
  simp only [List.toArray, World.size_alloc] at b0 b1 b2
  have HS := scanC l a n c _ (hR.below hB) hn2 hnc hcm (ht.below hB)
  rw [wrong_none hk] at HS
  clear g0
  go_enter_defers Tryz.func5, Tryz.ntmps5
  go_wp2_with fail
  refine HS.mono ?_
  generalize ((w.alloc (.cells #[.slice none 0 0, .slice none 0 0, .slice none 0 0, .slice none 0 0] 29 (0, 0))).alloc (.cells #[.int .i64 0] 3 (0, 0))).alloc (.cells #[.int .i64 0] 3 (0, 0)) = w1 at *
  rintro e w2 ⟨v, rfl, ho, hB2⟩
  replace ho := ho hk
  obtain ⟨g, cp, rfl, hAt⟩ := At.start ho (by simp) (by omega)
  replace b0 := b0.below hB2 b0.lt
  replace b1 := b1.below hB2 b1.lt
  replace b2 := b2.below hB2 b2.lt
  replace hB := hB.trans (hB2.mono hB.size)
  clear HS ho hB2
  generalize (lexAll l).length + 1 = nt at *
  have hs2 : w.heap.size + 1 + 1 < w2.heap.size := b2.lt
  have gA := below_grown (grown_alloc w2 (.cells #[.slice (some ⟨g, 0, none⟩) nt cp] 38 (0, 0)) none)
  have pB := Blk.new w2 38 [.slice (some ⟨g, 0, none⟩) nt cp]
  have hA := hAt _ _ gA pB
  have HM := hM w2 _ w2.heap.size (ht.below hB).toTabs gA (Nat.le_refl _) hA
  have hsA : (w2.alloc (.cells #[.slice (some ⟨g, 0, none⟩) nt cp] 38 (0, 0))).heap.size = w2.heap.size + 1 := by simp
  rw [hsA] at HM
  replace b0 := b0.below gA b0.lt
  replace b1 := b1.below gA b1.lt
  replace b2 := b2.below gA b2.lt
  have hBA := hB.trans (gA.mono hB.size)
  clear hAt pB hA hsA
  go_wp2_with fail
  refine HM.mono ?_
  clear gA HM
  rintro e w4 ⟨vs, rfl, hR4, hK4⟩
  replace b0 := hK4.blk b0 (by omega)
  replace b1 := hK4.blk b1 (by omega)
  replace b2 := hK4.blk b2 (by omega)
  replace hBA : Below w.heap.size w w4 := hK4.bel hBA (by omega)
  obtain ⟨a0, n0, c0, a1, n1, c1, a2, n2, c2, a3, n3, c3, rfl⟩ := rdMo hR4
  clear hK4
  generalize w2.heap.size = pb at *
  have y0 := b0.cell (i := 0) rfl
  have y1 := b0.cell (i := 1) rfl
  have y2 := b0.cell (i := 2) rfl
  have y3 := b0.cell (i := 3) rfl
  have f0 := b0.free 0
  have f1 := b0.free 1
  have f2 := b0.free 2
  have f3 := b0.free 3
  have q1 := b0.set (i := 0) (.slice a0 n0 c0)
  have q2 := q1.set (i := 1) (.slice a1 n1 c1)
  have q3 := q2.set (i := 2) (.slice a2 n2 c2)
  have Q4 : Hid (Blk ((((w4.setCell ⟨w.heap.size, 0, none⟩ (.slice a0 n0 c0)).setCell ⟨w.heap.size, 1, none⟩ (.slice a1 n1 c1)).setCell ⟨w.heap.size, 2, none⟩ (.slice a2 n2 c2)).setCell ⟨w.heap.size, 3, none⟩ (.slice a3 n3 c3)) w.heap.size 29 [.slice a0 n0 c0, .slice a1 n1 c1, .slice a2 n2 c2, .slice a3 n3 c3]) := q3.set (i := 3) (.slice a3 n3 c3)
  have o1 : Hid (Blk ((((w4.setCell ⟨w.heap.size, 0, none⟩ (.slice a0 n0 c0)).setCell ⟨w.heap.size, 1, none⟩ (.slice a1 n1 c1)).setCell ⟨w.heap.size, 2, none⟩ (.slice a2 n2 c2)).setCell ⟨w.heap.size, 3, none⟩ (.slice a3 n3 c3)) (w.heap.size + 1) 3 [.int .i64 0]) := (((b1.other (by omega)).other (by omega)).other (by omega)).other (by omega)
  have o2 : Hid (Blk ((((w4.setCell ⟨w.heap.size, 0, none⟩ (.slice a0 n0 c0)).setCell ⟨w.heap.size, 1, none⟩ (.slice a1 n1 c1)).setCell ⟨w.heap.size, 2, none⟩ (.slice a2 n2 c2)).setCell ⟨w.heap.size, 3, none⟩ (.slice a3 n3 c3)) (w.heap.size + 1 + 1) 3 [.int .i64 0]) := (((b2.other (by omega)).other (by omega)).other (by omega)).other (by omega)
  have l : w.heap.size < pb + 1 := by omega
  have R5 : Hid (RdVals (fr (pb + 1) ((((w4.setCell ⟨w.heap.size, 0, none⟩ (.slice a0 n0 c0)).setCell ⟨w.heap.size, 1, none⟩ (.slice a1 n1 c1)).setCell ⟨w.heap.size, 2, none⟩ (.slice a2 n2 c2)).setCell ⟨w.heap.size, 3, none⟩ (.slice a3 n3 c3))) m.fl [.slice a0 n0 c0, .slice a1 n1 c1, .slice a2 n2 c2, .slice a3 n3 c3]) := RdVals.cm (cm_set l) (RdVals.cm (cm_set l) (RdVals.cm (cm_set l) (RdVals.cm (cm_set l) hR4)))
  have hB5 : Hid (Below w.heap.size w ((((w4.setCell ⟨w.heap.size, 0, none⟩ (.slice a0 n0 c0)).setCell ⟨w.heap.size, 1, none⟩ (.slice a1 n1 c1)).setCell ⟨w.heap.size, 2, none⟩ (.slice a2 n2 c2)).setCell ⟨w.heap.size, 3, none⟩ (.slice a3 n3 c3))) := (((hBA.setCell (p := ⟨w.heap.size, 0, none⟩) (Nat.le_refl _) _).setCell (p := ⟨w.heap.size, 1, none⟩) (Nat.le_refl _) _).setCell (p := ⟨w.heap.size, 2, none⟩) (Nat.le_refl _) _).setCell (p := ⟨w.heap.size, 3, none⟩) (Nat.le_refl _) _
  clear b0 b1 b2 q1 q2 q3 hR4 hBA hB
  simp only [agg]
  go_upto_region 9 with fail
  generalize (((w4.setCell ⟨w.heap.size, 0, none⟩ (.slice a0 n0 c0)).setCell ⟨w.heap.size, 1, none⟩ (.slice a1 n1 c1)).setCell ⟨w.heap.size, 2, none⟩ (.slice a2 n2 c2)).setCell ⟨w.heap.size, 3, none⟩ (.slice a3 n3 c3) = w5 at *
  replace Q4 := Q4.out
  replace o1 := o1.out
  replace o2 := o2.out
  replace R5 := R5.out
  replace hB5 := hB5.out
  have HK := implModB m w5 [.slice a0 n0 c0, .slice a1 n1 c1, .slice a2 n2 c2, .slice a3 n3 c3] (ht.below hB5).toTabs (RdVals.cm (cm_out _ _) R5) hlen
  rw [hok] at HK
  clear y0 y1 y2 y3 f0 f1 f2 f3
  have y0 := Q4.cell (i := 0) rfl
  have y1 := Q4.cell (i := 1) rfl
  have y2 := Q4.cell (i := 2) rfl
  have y3 := Q4.cell (i := 3) rfl
  go_wp2_with fail
  refine HK.mono ?_
  rintro e w6 ⟨rfl, hg6⟩
  have B6 := below_grown hg6
  replace Q4 := Q4.below B6 Q4.lt
  replace o1 := o1.below B6 o1.lt
  replace o2 := o2.below B6 o2.lt
  replace R5 := RdVals.cm ((Kp.below (pb := pb) B6).cm (N := pb + 1) (Nat.lt_succ_self _)) R5
  replace hB5 := hB5.trans (B6.mono hB5.size)
  clear HK hg6 B6 y0 y1 y2 y3
  have y0 := Q4.cell (i := 0) rfl
  have y1 := Q4.cell (i := 1) rfl
  have y2 := Q4.cell (i := 2) rfl
  have y3 := Q4.cell (i := 3) rfl
  have f0 := Q4.free 0
  have f1 := Q4.free 1
  have f2 := Q4.free 2
  have f3 := Q4.free 3
  have z1 := o1.cell (i := 0) rfl
  have z2 := o2.cell (i := 0) rfl
  have zf1 := o1.free 0
  have zf2 := o2.free 0
  have q1 := Q4.set (i := 0) (.slice a0 n0 c0)
  have q2 := q1.set (i := 1) (.slice a1 n1 c1)
  have q3 := q2.set (i := 2) (.slice a2 n2 c2)
  have q4 := q3.set (i := 3) (.slice a3 n3 c3)
  have QZ : Hid (Blk ((((((w6.setCell ⟨w.heap.size, 0, none⟩ (.slice a0 n0 c0)).setCell ⟨w.heap.size, 1, none⟩ (.slice a1 n1 c1)).setCell ⟨w.heap.size, 2, none⟩ (.slice a2 n2 c2)).setCell ⟨w.heap.size, 3, none⟩ (.slice a3 n3 c3)).setCell ⟨w.heap.size + 1, 0, none⟩ (.int .i64 0)).setCell ⟨w.heap.size + 1 + 1, 0, none⟩ (.int .i64 0)) w.heap.size 29 [.slice a0 n0 c0, .slice a1 n1 c1, .slice a2 n2 c2, .slice a3 n3 c3]) := (q4.other (k := w.heap.size + 1) (by omega)).other (by omega)
  have oZ1 : Hid (Blk ((((((w6.setCell ⟨w.heap.size, 0, none⟩ (.slice a0 n0 c0)).setCell ⟨w.heap.size, 1, none⟩ (.slice a1 n1 c1)).setCell ⟨w.heap.size, 2, none⟩ (.slice a2 n2 c2)).setCell ⟨w.heap.size, 3, none⟩ (.slice a3 n3 c3)).setCell ⟨w.heap.size + 1, 0, none⟩ (.int .i64 0)).setCell ⟨w.heap.size + 1 + 1, 0, none⟩ (.int .i64 0)) (w.heap.size + 1) 3 [.int .i64 0]) := (((((o1.other (by omega)).other (by omega)).other (by omega)).other (by omega)).set (i := 0) (.int .i64 0)).other (by omega)
  have oZ2 : Hid (Blk ((((((w6.setCell ⟨w.heap.size, 0, none⟩ (.slice a0 n0 c0)).setCell ⟨w.heap.size, 1, none⟩ (.slice a1 n1 c1)).setCell ⟨w.heap.size, 2, none⟩ (.slice a2 n2 c2)).setCell ⟨w.heap.size, 3, none⟩ (.slice a3 n3 c3)).setCell ⟨w.heap.size + 1, 0, none⟩ (.int .i64 0)).setCell ⟨w.heap.size + 1 + 1, 0, none⟩ (.int .i64 0)) (w.heap.size + 1 + 1) 3 [.int .i64 0]) := (((((o2.other (by omega)).other (by omega)).other (by omega)).other (by omega)).other (by omega)).set (i := 0) (.int .i64 0)
  have l1 : w.heap.size + 1 < pb + 1 := by omega
  have l2 : w.heap.size + 1 + 1 < pb + 1 := by omega
  have RZ : Hid (RdVals (fr (pb + 1) ((((((w6.setCell ⟨w.heap.size, 0, none⟩ (.slice a0 n0 c0)).setCell ⟨w.heap.size, 1, none⟩ (.slice a1 n1 c1)).setCell ⟨w.heap.size, 2, none⟩ (.slice a2 n2 c2)).setCell ⟨w.heap.size, 3, none⟩ (.slice a3 n3 c3)).setCell ⟨w.heap.size + 1, 0, none⟩ (.int .i64 0)).setCell ⟨w.heap.size + 1 + 1, 0, none⟩ (.int .i64 0))) m.fl [.slice a0 n0 c0, .slice a1 n1 c1, .slice a2 n2 c2, .slice a3 n3 c3]) := RdVals.cm (cm_set l2) (RdVals.cm (cm_set l1) (RdVals.cm (cm_set l) (RdVals.cm (cm_set l) (RdVals.cm (cm_set l) (RdVals.cm (cm_set l) R5)))))
  have BZ : Hid (Below w.heap.size w ((((((w6.setCell ⟨w.heap.size, 0, none⟩ (.slice a0 n0 c0)).setCell ⟨w.heap.size, 1, none⟩ (.slice a1 n1 c1)).setCell ⟨w.heap.size, 2, none⟩ (.slice a2 n2 c2)).setCell ⟨w.heap.size, 3, none⟩ (.slice a3 n3 c3)).setCell ⟨w.heap.size + 1, 0, none⟩ (.int .i64 0)).setCell ⟨w.heap.size + 1 + 1, 0, none⟩ (.int .i64 0))) := (((((hB5.setCell (p := ⟨w.heap.size, 0, none⟩) (Nat.le_refl _) _).setCell (p := ⟨w.heap.size, 1, none⟩) (Nat.le_refl _) _).setCell (p := ⟨w.heap.size, 2, none⟩) (Nat.le_refl _) _).setCell (p := ⟨w.heap.size, 3, none⟩) (Nat.le_refl _) _).setCell (p := ⟨w.heap.size + 1, 0, none⟩) (Nat.le_succ _) _).setCell (p := ⟨w.heap.size + 1 + 1, 0, none⟩) (by show w.heap.size ≤ w.heap.size + 1 + 1; omega) _
  clear Q4 o1 o2 R5 hB5 q1 q2 q3 q4
  go_wp2_with fail
  generalize (((((w6.setCell ⟨w.heap.size, 0, none⟩ (.slice a0 n0 c0)).setCell ⟨w.heap.size, 1, none⟩ (.slice a1 n1 c1)).setCell ⟨w.heap.size, 2, none⟩ (.slice a2 n2 c2)).setCell ⟨w.heap.size, 3, none⟩ (.slice a3 n3 c3)).setCell ⟨w.heap.size + 1, 0, none⟩ (.int .i64 0)).setCell ⟨w.heap.size + 1 + 1, 0, none⟩ (.int .i64 0) = wz at *
  refine leaves_cons (f := 8) (args := #[.pointer (some ⟨w.heap.size, 0, none⟩), .pointer (some ⟨w.heap.size + 1, 0, none⟩), .pointer (some ⟨w.heap.size + 1 + 1, 0, none⟩)]) (by simp) (by simp [go_sem]) ?_
  refine (idleC _ _ _ _).mono ?_
  rintro e u' w'' ⟨rfl, rfl, hw⟩
  rw [hw]
  have e0 := QZ.out.cell (i := 0) rfl
  have e1 := QZ.out.cell (i := 1) rfl
  have e2 := QZ.out.cell (i := 2) rfl
  have e3 := QZ.out.cell (i := 3) rfl
  have e4 := oZ1.out.cell (i := 0) rfl
  have e5 := oZ2.out.cell (i := 0) rfl
  have HF : Hid (RdVals wz m.fl [.slice a0 n0 c0, .slice a1 n1 c1, .slice a2 n2 c2, .slice a3 n3 c3] ∧ Below w.heap.size w wz) := ⟨RdVals.cm (cm_out _ _) RZ.out, BZ.out⟩
  clear QZ oZ1 oZ2 RZ BZ
  simp [Leaves, settle, results, Tryz.results5, go_sem, e0, e1, e2, e3, e4, e5, agg]
  exact HF.out
end Go.Proofs.YtajnfknldofjlaaGreatDoor
namespace Go.Proofs.YtajnfknldofjlaaGreatDoor
open Go.RowKit Go.Shelf
set_option linter.unusedVariables false
set_option linter.unusedSimpArgs false
set_option maxRecDepth 100000

theorem sT_eq (t : List Int) (s : List UInt8) : sT t s = ((strOfNums t).data.toList == s) := by simp [sT, ByteArray.toList_eq]
theorem decB_eq (l : List Int) : decB l = (match Lib.atoiAll (tB l) with | .ok n => fitB n && (Lib.itoa n == (strOfNums l).data.toList) | _ => false) := by cases h : Lib.atoiAll (tB l) <;> simp [decB, h, ByteArray.toList_eq]
theorem tk_40 : tokKind [40] = 2 := by
  unfold tokKind
  rw [decB_eq]
  decide +kernel
theorem tk_41 : tokKind [41] = 2 := by
  unfold tokKind
  rw [decB_eq]
  decide +kernel
theorem tk_46 : tokKind [46] = 2 := by
  unfold tokKind
  rw [decB_eq]
  decide +kernel
theorem tk_49 : tokKind [49] = 5 := by
  unfold tokKind
  rw [decB_eq]
  decide +kernel
theorem tk_50 : tokKind [50] = 5 := by
  unfold tokKind
  rw [decB_eq]
  decide +kernel
theorem tk_59 : tokKind [59] = 2 := by
  unfold tokKind
  rw [decB_eq]
  decide +kernel
theorem tk_64 : tokKind [64] = 2 := by
  unfold tokKind
  rw [decB_eq]
  decide +kernel
theorem tk_65 : tokKind [65] = 4 := by
  unfold tokKind
  rw [decB_eq]
  decide +kernel
theorem tk_66 : tokKind [66] = 4 := by
  unfold tokKind
  rw [decB_eq]
  decide +kernel
theorem tk_91 : tokKind [91] = 2 := by
  unfold tokKind
  rw [decB_eq]
  decide +kernel
theorem tk_93 : tokKind [93] = 2 := by
  unfold tokKind
  rw [decB_eq]
  decide +kernel
theorem tk_97 : tokKind [97] = 3 := by
  unfold tokKind
  rw [decB_eq]
  decide +kernel
theorem tk_112 : tokKind [112] = 3 := by
  unfold tokKind
  rw [decB_eq]
  decide +kernel
theorem tk_120 : tokKind [120] = 3 := by
  unfold tokKind
  rw [decB_eq]
  decide +kernel
theorem tk_121 : tokKind [121] = 3 := by
  unfold tokKind
  rw [decB_eq]
  decide +kernel
theorem tk_69_78_68 : tokKind [69, 78, 68] = 2 := by
  unfold tokKind
  rw [decB_eq]
  decide +kernel
theorem tk_79_85_84 : tokKind [79, 85, 84] = 2 := by
  unfold tokKind
  rw [decB_eq]
  decide +kernel
theorem tk_86_65_82 : tokKind [86, 65, 82] = 2 := by
  unfold tokKind
  rw [decB_eq]
  decide +kernel
theorem tk_67_65_76_76 : tokKind [67, 65, 76, 76] = 2 := by
  unfold tokKind
  rw [decB_eq]
  decide +kernel
theorem tk_80_82_79_67 : tokKind [80, 82, 79, 67] = 2 := by
  unfold tokKind
  rw [decB_eq]
  decide +kernel
theorem tk_66_69_71_73_78 : tokKind [66, 69, 71, 73, 78] = 2 := by
  unfold tokKind
  rw [decB_eq]
  decide +kernel
theorem tk_73_77_80_79_82_84 : tokKind [73, 77, 80, 79, 82, 84] = 2 := by
  unfold tokKind
  rw [decB_eq]
  decide +kernel
theorem tk_77_79_68_85_76_69 : tokKind [77, 79, 68, 85, 76, 69] = 2 := by
  unfold tokKind
  rw [decB_eq]
  decide +kernel
def tx0 : List Int := [77, 79, 68, 85, 76, 69, 32, 65, 32, 59, 32, 69, 78, 68, 32, 46]
def md0 : Mo := ⟨[65], [], [], []⟩
theorem lex0 : lexAll tx0 = [⟨2, [77, 79, 68, 85, 76, 69], 0⟩, ⟨4, [65], 7⟩, ⟨2, [59], 9⟩, ⟨2, [69, 78, 68], 11⟩, ⟨2, [46], 15⟩] := by
  have h : lexAll tx0 = [⟨tokKind [77, 79, 68, 85, 76, 69], [77, 79, 68, 85, 76, 69], 0⟩, ⟨tokKind [65], [65], 7⟩, ⟨tokKind [59], [59], 9⟩, ⟨tokKind [69, 78, 68], [69, 78, 68], 11⟩, ⟨tokKind [46], [46], 15⟩] := by kernel_rfl
  rw [h]
  simp only [tk_40, tk_41, tk_46, tk_49, tk_50, tk_59, tk_64, tk_65, tk_66, tk_91, tk_93, tk_97, tk_112, tk_120, tk_121, tk_69_78_68, tk_79_85_84, tk_86_65_82, tk_67_65_76_76, tk_80_82_79_67, tk_66_69_71_73_78, tk_73_77_80_79_82_84, tk_77_79_68_85_76_69]
set_option maxHeartbeats 4000000 in
theorem psmo0 : PsMo ((⟨2, [77, 79, 68, 85, 76, 69], 0⟩ : Tok) :: (⟨4, [65], 7⟩ : Tok) :: (⟨2, [59], 9⟩ : Tok) :: (⟨2, [69, 78, 68], 11⟩ : Tok) :: (⟨2, [46], 15⟩ : Tok) :: [⟨1, [], 16⟩]) md0 :=
  mo000 _ _ _ _ _ _ (by rw [sT_eq]; decide +kernel) rfl (by decide) (by decide) (by rw [sT_eq]; decide +kernel) (by rw [sT_eq]; decide +kernel) (by rw [sT_eq]; decide +kernel) (by rw [sT_eq]; decide +kernel) (by rw [sT_eq]; decide +kernel) (by rw [sT_eq]; decide +kernel) rfl
def tx1 : List Int := [77, 79, 68, 85, 76, 69, 32, 65, 32, 59, 32, 86, 65, 82, 32, 120, 32, 59, 32, 86, 65, 82, 32, 120, 32, 59, 32, 69, 78, 68, 32, 46]
def md1 : Mo := ⟨[65], [], [⟨[120], 0⟩, ⟨[120], 0⟩], []⟩
theorem lex1 : lexAll tx1 = [⟨2, [77, 79, 68, 85, 76, 69], 0⟩, ⟨4, [65], 7⟩, ⟨2, [59], 9⟩, ⟨2, [86, 65, 82], 11⟩, ⟨3, [120], 15⟩, ⟨2, [59], 17⟩, ⟨2, [86, 65, 82], 19⟩, ⟨3, [120], 23⟩, ⟨2, [59], 25⟩, ⟨2, [69, 78, 68], 27⟩, ⟨2, [46], 31⟩] := by
  have h : lexAll tx1 = [⟨tokKind [77, 79, 68, 85, 76, 69], [77, 79, 68, 85, 76, 69], 0⟩, ⟨tokKind [65], [65], 7⟩, ⟨tokKind [59], [59], 9⟩, ⟨tokKind [86, 65, 82], [86, 65, 82], 11⟩, ⟨tokKind [120], [120], 15⟩, ⟨tokKind [59], [59], 17⟩, ⟨tokKind [86, 65, 82], [86, 65, 82], 19⟩, ⟨tokKind [120], [120], 23⟩, ⟨tokKind [59], [59], 25⟩, ⟨tokKind [69, 78, 68], [69, 78, 68], 27⟩, ⟨tokKind [46], [46], 31⟩] := by kernel_rfl
  rw [h]
  simp only [tk_40, tk_41, tk_46, tk_49, tk_50, tk_59, tk_64, tk_65, tk_66, tk_91, tk_93, tk_97, tk_112, tk_120, tk_121, tk_69_78_68, tk_79_85_84, tk_86_65_82, tk_67_65_76_76, tk_80_82_79_67, tk_66_69_71_73_78, tk_73_77_80_79_82_84, tk_77_79_68_85_76_69]
set_option maxHeartbeats 4000000 in
theorem psmo1 : PsMo ((⟨2, [77, 79, 68, 85, 76, 69], 0⟩ : Tok) :: (⟨4, [65], 7⟩ : Tok) :: (⟨2, [59], 9⟩ : Tok) :: (⟨2, [86, 65, 82], 11⟩ : Tok) :: (⟨3, [120], 15⟩ : Tok) :: (⟨2, [59], 17⟩ : Tok) :: (⟨2, [86, 65, 82], 19⟩ : Tok) :: (⟨3, [120], 23⟩ : Tok) :: (⟨2, [59], 25⟩ : Tok) :: (⟨2, [69, 78, 68], 27⟩ : Tok) :: (⟨2, [46], 31⟩ : Tok) :: [⟨1, [], 32⟩]) md1 :=
  mo020 _ _ _ _ _ _ _ _ _ _ _ _ _ _ _ _ (by rw [sT_eq]; decide +kernel) rfl (by decide) (by decide) (by rw [sT_eq]; decide +kernel) (by rw [sT_eq]; decide +kernel) (psV0 _ _ _ rfl (by decide) (by decide) (by rw [sT_eq]; decide +kernel)) (by rw [sT_eq]; decide +kernel) (by rw [sT_eq]; decide +kernel) (psV0 _ _ _ rfl (by decide) (by decide) (by rw [sT_eq]; decide +kernel)) (by rw [sT_eq]; decide +kernel) (by rw [sT_eq]; decide +kernel) (by rw [sT_eq]; decide +kernel) (by rw [sT_eq]; decide +kernel) (by rw [sT_eq]; decide +kernel) (by rw [sT_eq]; decide +kernel) rfl
def tx2 : List Int := [77, 79, 68, 85, 76, 69, 32, 65, 32, 59, 32, 73, 77, 80, 79, 82, 84, 32, 66, 32, 59, 32, 69, 78, 68, 32, 46]
def md2 : Mo := ⟨[65], [[66]], [], []⟩
theorem lex2 : lexAll tx2 = [⟨2, [77, 79, 68, 85, 76, 69], 0⟩, ⟨4, [65], 7⟩, ⟨2, [59], 9⟩, ⟨2, [73, 77, 80, 79, 82, 84], 11⟩, ⟨4, [66], 18⟩, ⟨2, [59], 20⟩, ⟨2, [69, 78, 68], 22⟩, ⟨2, [46], 26⟩] := by
  have h : lexAll tx2 = [⟨tokKind [77, 79, 68, 85, 76, 69], [77, 79, 68, 85, 76, 69], 0⟩, ⟨tokKind [65], [65], 7⟩, ⟨tokKind [59], [59], 9⟩, ⟨tokKind [73, 77, 80, 79, 82, 84], [73, 77, 80, 79, 82, 84], 11⟩, ⟨tokKind [66], [66], 18⟩, ⟨tokKind [59], [59], 20⟩, ⟨tokKind [69, 78, 68], [69, 78, 68], 22⟩, ⟨tokKind [46], [46], 26⟩] := by kernel_rfl
  rw [h]
  simp only [tk_40, tk_41, tk_46, tk_49, tk_50, tk_59, tk_64, tk_65, tk_66, tk_91, tk_93, tk_97, tk_112, tk_120, tk_121, tk_69_78_68, tk_79_85_84, tk_86_65_82, tk_67_65_76_76, tk_80_82_79_67, tk_66_69_71_73_78, tk_73_77_80_79_82_84, tk_77_79_68_85_76_69]
set_option maxHeartbeats 4000000 in
theorem psmo2 : PsMo ((⟨2, [77, 79, 68, 85, 76, 69], 0⟩ : Tok) :: (⟨4, [65], 7⟩ : Tok) :: (⟨2, [59], 9⟩ : Tok) :: (⟨2, [73, 77, 80, 79, 82, 84], 11⟩ : Tok) :: (⟨4, [66], 18⟩ : Tok) :: (⟨2, [59], 20⟩ : Tok) :: (⟨2, [69, 78, 68], 22⟩ : Tok) :: (⟨2, [46], 26⟩ : Tok) :: [⟨1, [], 27⟩]) md2 :=
  mo100 _ _ _ _ _ _ _ _ _ (by rw [sT_eq]; decide +kernel) rfl (by decide) (by decide) (by rw [sT_eq]; decide +kernel) (by rw [sT_eq]; decide +kernel) rfl (by decide) (by decide) (by rw [sT_eq]; decide +kernel) (by rw [sT_eq]; decide +kernel) (by rw [sT_eq]; decide +kernel) (by rw [sT_eq]; decide +kernel) (by rw [sT_eq]; decide +kernel) (by rw [sT_eq]; decide +kernel) rfl
def tx3 : List Int := [77, 79, 68, 85, 76, 69, 32, 65, 32, 59, 32, 80, 82, 79, 67, 32, 112, 32, 40, 32, 120, 32, 41, 32, 59, 32, 66, 69, 71, 73, 78, 32, 79, 85, 84, 32, 121, 32, 59, 32, 69, 78, 68, 32, 59, 32, 69, 78, 68, 32, 46]
def md3 : Mo := ⟨[65], [], [], [⟨[112], false, [⟨[120], false⟩], [], [.mk 5 0 [] [.mk 1 0 [] [121] []] [] []]⟩]⟩
theorem lex3 : lexAll tx3 = [⟨2, [77, 79, 68, 85, 76, 69], 0⟩, ⟨4, [65], 7⟩, ⟨2, [59], 9⟩, ⟨2, [80, 82, 79, 67], 11⟩, ⟨3, [112], 16⟩, ⟨2, [40], 18⟩, ⟨3, [120], 20⟩, ⟨2, [41], 22⟩, ⟨2, [59], 24⟩, ⟨2, [66, 69, 71, 73, 78], 26⟩, ⟨2, [79, 85, 84], 32⟩, ⟨3, [121], 36⟩, ⟨2, [59], 38⟩, ⟨2, [69, 78, 68], 40⟩, ⟨2, [59], 44⟩, ⟨2, [69, 78, 68], 46⟩, ⟨2, [46], 50⟩] := by
  have h : lexAll tx3 = [⟨tokKind [77, 79, 68, 85, 76, 69], [77, 79, 68, 85, 76, 69], 0⟩, ⟨tokKind [65], [65], 7⟩, ⟨tokKind [59], [59], 9⟩, ⟨tokKind [80, 82, 79, 67], [80, 82, 79, 67], 11⟩, ⟨tokKind [112], [112], 16⟩, ⟨tokKind [40], [40], 18⟩, ⟨tokKind [120], [120], 20⟩, ⟨tokKind [41], [41], 22⟩, ⟨tokKind [59], [59], 24⟩, ⟨tokKind [66, 69, 71, 73, 78], [66, 69, 71, 73, 78], 26⟩, ⟨tokKind [79, 85, 84], [79, 85, 84], 32⟩, ⟨tokKind [121], [121], 36⟩, ⟨tokKind [59], [59], 38⟩, ⟨tokKind [69, 78, 68], [69, 78, 68], 40⟩, ⟨tokKind [59], [59], 44⟩, ⟨tokKind [69, 78, 68], [69, 78, 68], 46⟩, ⟨tokKind [46], [46], 50⟩] := by kernel_rfl
  rw [h]
  simp only [tk_40, tk_41, tk_46, tk_49, tk_50, tk_59, tk_64, tk_65, tk_66, tk_91, tk_93, tk_97, tk_112, tk_120, tk_121, tk_69_78_68, tk_79_85_84, tk_86_65_82, tk_67_65_76_76, tk_80_82_79_67, tk_66_69_71_73_78, tk_73_77_80_79_82_84, tk_77_79_68_85_76_69]
set_option maxHeartbeats 4000000 in
theorem psmo3 : PsMo ((⟨2, [77, 79, 68, 85, 76, 69], 0⟩ : Tok) :: (⟨4, [65], 7⟩ : Tok) :: (⟨2, [59], 9⟩ : Tok) :: (⟨2, [80, 82, 79, 67], 11⟩ : Tok) :: (⟨3, [112], 16⟩ : Tok) :: (⟨2, [40], 18⟩ : Tok) :: (⟨3, [120], 20⟩ : Tok) :: (⟨2, [41], 22⟩ : Tok) :: (⟨2, [59], 24⟩ : Tok) :: (⟨2, [66, 69, 71, 73, 78], 26⟩ : Tok) :: (⟨2, [79, 85, 84], 32⟩ : Tok) :: (⟨3, [121], 36⟩ : Tok) :: (⟨2, [59], 38⟩ : Tok) :: (⟨2, [69, 78, 68], 40⟩ : Tok) :: (⟨2, [59], 44⟩ : Tok) :: (⟨2, [69, 78, 68], 46⟩ : Tok) :: (⟨2, [46], 50⟩ : Tok) :: [⟨1, [], 51⟩]) md3 :=
  mo001 _ _ _ _ _ _ _ _ _ _ (by rw [sT_eq]; decide +kernel) rfl (by decide) (by decide) (by rw [sT_eq]; decide +kernel) (by rw [sT_eq]; decide +kernel) (psP _ _ _ _ _ _ _ _ _ _ _ _ _ rfl (by decide) (by decide) (by rw [sT_eq]; decide +kernel) (tbP1 _ _ _ _ _ _ _ (by rw [sT_eq]; decide +kernel) (by rw [sT_eq]; decide +kernel) (psM0 _ _ _ (by rw [sT_eq]; decide +kernel) rfl (by decide) (by decide)) (by rw [sT_eq]; decide +kernel)) (by rw [sT_eq]; decide +kernel) (by rw [sT_eq]; decide +kernel) (by rw [sT_eq]; decide +kernel) (ss1 _ _ _ _ _ (psS5 _ _ _ _ _ _ _ (by unfold stK; simp only [sT_eq]; decide +kernel) (by rw [sT_eq]; decide +kernel) (psX (psA1 _ _ _ (by unfold exK kbOf; simp only [sT_eq]; decide +kernel) rfl (by decide) (by decide)) (by rw [sT_eq]; decide +kernel)) (by rw [sT_eq]; decide +kernel)) (by rw [sT_eq]; decide +kernel) (by rw [sT_eq]; decide +kernel) (by rw [sT_eq]; decide +kernel)) (by rw [sT_eq]; decide +kernel) (by rw [sT_eq]; decide +kernel)) (by rw [sT_eq]; decide +kernel) (by rw [sT_eq]; decide +kernel) (by rw [sT_eq]; decide +kernel) (by rw [sT_eq]; decide +kernel) (by rw [sT_eq]; decide +kernel) rfl
def tx4 : List Int := [77, 79, 68, 85, 76, 69, 32, 65, 32, 59, 32, 86, 65, 82, 32, 97, 32, 91, 32, 50, 32, 93, 32, 59, 32, 80, 82, 79, 67, 32, 112, 32, 40, 32, 120, 32, 41, 32, 59, 32, 66, 69, 71, 73, 78, 32, 79, 85, 84, 32, 97, 32, 59, 32, 69, 78, 68, 32, 59, 32, 69, 78, 68, 32, 46]
def md4 : Mo := ⟨[65], [], [⟨[97], 2⟩], [⟨[112], false, [⟨[120], false⟩], [], [.mk 5 0 [] [.mk 1 0 [] [97] []] [] []]⟩]⟩
theorem lex4 : lexAll tx4 = [⟨2, [77, 79, 68, 85, 76, 69], 0⟩, ⟨4, [65], 7⟩, ⟨2, [59], 9⟩, ⟨2, [86, 65, 82], 11⟩, ⟨3, [97], 15⟩, ⟨2, [91], 17⟩, ⟨5, [50], 19⟩, ⟨2, [93], 21⟩, ⟨2, [59], 23⟩, ⟨2, [80, 82, 79, 67], 25⟩, ⟨3, [112], 30⟩, ⟨2, [40], 32⟩, ⟨3, [120], 34⟩, ⟨2, [41], 36⟩, ⟨2, [59], 38⟩, ⟨2, [66, 69, 71, 73, 78], 40⟩, ⟨2, [79, 85, 84], 46⟩, ⟨3, [97], 50⟩, ⟨2, [59], 52⟩, ⟨2, [69, 78, 68], 54⟩, ⟨2, [59], 58⟩, ⟨2, [69, 78, 68], 60⟩, ⟨2, [46], 64⟩] := by
  have h : lexAll tx4 = [⟨tokKind [77, 79, 68, 85, 76, 69], [77, 79, 68, 85, 76, 69], 0⟩, ⟨tokKind [65], [65], 7⟩, ⟨tokKind [59], [59], 9⟩, ⟨tokKind [86, 65, 82], [86, 65, 82], 11⟩, ⟨tokKind [97], [97], 15⟩, ⟨tokKind [91], [91], 17⟩, ⟨tokKind [50], [50], 19⟩, ⟨tokKind [93], [93], 21⟩, ⟨tokKind [59], [59], 23⟩, ⟨tokKind [80, 82, 79, 67], [80, 82, 79, 67], 25⟩, ⟨tokKind [112], [112], 30⟩, ⟨tokKind [40], [40], 32⟩, ⟨tokKind [120], [120], 34⟩, ⟨tokKind [41], [41], 36⟩, ⟨tokKind [59], [59], 38⟩, ⟨tokKind [66, 69, 71, 73, 78], [66, 69, 71, 73, 78], 40⟩, ⟨tokKind [79, 85, 84], [79, 85, 84], 46⟩, ⟨tokKind [97], [97], 50⟩, ⟨tokKind [59], [59], 52⟩, ⟨tokKind [69, 78, 68], [69, 78, 68], 54⟩, ⟨tokKind [59], [59], 58⟩, ⟨tokKind [69, 78, 68], [69, 78, 68], 60⟩, ⟨tokKind [46], [46], 64⟩] := by kernel_rfl
  rw [h]
  simp only [tk_40, tk_41, tk_46, tk_49, tk_50, tk_59, tk_64, tk_65, tk_66, tk_91, tk_93, tk_97, tk_112, tk_120, tk_121, tk_69_78_68, tk_79_85_84, tk_86_65_82, tk_67_65_76_76, tk_80_82_79_67, tk_66_69_71_73_78, tk_73_77_80_79_82_84, tk_77_79_68_85_76_69]
set_option maxHeartbeats 4000000 in
theorem psmo4 : PsMo ((⟨2, [77, 79, 68, 85, 76, 69], 0⟩ : Tok) :: (⟨4, [65], 7⟩ : Tok) :: (⟨2, [59], 9⟩ : Tok) :: (⟨2, [86, 65, 82], 11⟩ : Tok) :: (⟨3, [97], 15⟩ : Tok) :: (⟨2, [91], 17⟩ : Tok) :: (⟨5, [50], 19⟩ : Tok) :: (⟨2, [93], 21⟩ : Tok) :: (⟨2, [59], 23⟩ : Tok) :: (⟨2, [80, 82, 79, 67], 25⟩ : Tok) :: (⟨3, [112], 30⟩ : Tok) :: (⟨2, [40], 32⟩ : Tok) :: (⟨3, [120], 34⟩ : Tok) :: (⟨2, [41], 36⟩ : Tok) :: (⟨2, [59], 38⟩ : Tok) :: (⟨2, [66, 69, 71, 73, 78], 40⟩ : Tok) :: (⟨2, [79, 85, 84], 46⟩ : Tok) :: (⟨3, [97], 50⟩ : Tok) :: (⟨2, [59], 52⟩ : Tok) :: (⟨2, [69, 78, 68], 54⟩ : Tok) :: (⟨2, [59], 58⟩ : Tok) :: (⟨2, [69, 78, 68], 60⟩ : Tok) :: (⟨2, [46], 64⟩ : Tok) :: [⟨1, [], 65⟩]) md4 :=
  mo011 _ _ _ _ _ _ _ _ _ _ _ _ _ _ _ (by rw [sT_eq]; decide +kernel) rfl (by decide) (by decide) (by rw [sT_eq]; decide +kernel) (by rw [sT_eq]; decide +kernel) (psV1 _ _ _ _ _ 2 _ rfl (by decide) (by decide) (by rw [sT_eq]; decide +kernel) rfl (by decide) (by decide +kernel) (by decide) (by decide) (by rw [sT_eq]; decide +kernel)) (by rw [sT_eq]; decide +kernel) (by rw [sT_eq]; decide +kernel) (psP _ _ _ _ _ _ _ _ _ _ _ _ _ rfl (by decide) (by decide) (by rw [sT_eq]; decide +kernel) (tbP1 _ _ _ _ _ _ _ (by rw [sT_eq]; decide +kernel) (by rw [sT_eq]; decide +kernel) (psM0 _ _ _ (by rw [sT_eq]; decide +kernel) rfl (by decide) (by decide)) (by rw [sT_eq]; decide +kernel)) (by rw [sT_eq]; decide +kernel) (by rw [sT_eq]; decide +kernel) (by rw [sT_eq]; decide +kernel) (ss1 _ _ _ _ _ (psS5 _ _ _ _ _ _ _ (by unfold stK; simp only [sT_eq]; decide +kernel) (by rw [sT_eq]; decide +kernel) (psX (psA1 _ _ _ (by unfold exK kbOf; simp only [sT_eq]; decide +kernel) rfl (by decide) (by decide)) (by rw [sT_eq]; decide +kernel)) (by rw [sT_eq]; decide +kernel)) (by rw [sT_eq]; decide +kernel) (by rw [sT_eq]; decide +kernel) (by rw [sT_eq]; decide +kernel)) (by rw [sT_eq]; decide +kernel) (by rw [sT_eq]; decide +kernel)) (by rw [sT_eq]; decide +kernel) (by rw [sT_eq]; decide +kernel) (by rw [sT_eq]; decide +kernel) (by rw [sT_eq]; decide +kernel) (by rw [sT_eq]; decide +kernel) rfl
def tx5 : List Int := [77, 79, 68, 85, 76, 69, 32, 65, 32, 59, 32, 86, 65, 82, 32, 97, 32, 91, 32, 50, 32, 93, 32, 59, 32, 80, 82, 79, 67, 32, 112, 32, 40, 32, 64, 32, 120, 32, 41, 32, 59, 32, 66, 69, 71, 73, 78, 32, 67, 65, 76, 76, 32, 112, 32, 40, 32, 64, 32, 97, 32, 41, 32, 59, 32, 67, 65, 76, 76, 32, 112, 32, 40, 32, 64, 32, 120, 32, 41, 32, 59, 32, 69, 78, 68, 32, 59, 32, 69, 78, 68, 32, 46]
def md5 : Mo := ⟨[65], [], [⟨[97], 2⟩], [⟨[112], false, [⟨[120], true⟩], [], [.mk 7 0 [] [.mk 6 0 [] [112] [.mk 7 0 [] [97] []]] [] [], .mk 7 0 [] [.mk 6 0 [] [112] [.mk 7 0 [] [120] []]] [] []]⟩]⟩
theorem lex5 : lexAll tx5 = [⟨2, [77, 79, 68, 85, 76, 69], 0⟩, ⟨4, [65], 7⟩, ⟨2, [59], 9⟩, ⟨2, [86, 65, 82], 11⟩, ⟨3, [97], 15⟩, ⟨2, [91], 17⟩, ⟨5, [50], 19⟩, ⟨2, [93], 21⟩, ⟨2, [59], 23⟩, ⟨2, [80, 82, 79, 67], 25⟩, ⟨3, [112], 30⟩, ⟨2, [40], 32⟩, ⟨2, [64], 34⟩, ⟨3, [120], 36⟩, ⟨2, [41], 38⟩, ⟨2, [59], 40⟩, ⟨2, [66, 69, 71, 73, 78], 42⟩, ⟨2, [67, 65, 76, 76], 48⟩, ⟨3, [112], 53⟩, ⟨2, [40], 55⟩, ⟨2, [64], 57⟩, ⟨3, [97], 59⟩, ⟨2, [41], 61⟩, ⟨2, [59], 63⟩, ⟨2, [67, 65, 76, 76], 65⟩, ⟨3, [112], 70⟩, ⟨2, [40], 72⟩, ⟨2, [64], 74⟩, ⟨3, [120], 76⟩, ⟨2, [41], 78⟩, ⟨2, [59], 80⟩, ⟨2, [69, 78, 68], 82⟩, ⟨2, [59], 86⟩, ⟨2, [69, 78, 68], 88⟩, ⟨2, [46], 92⟩] := by
  have h : lexAll tx5 = [⟨tokKind [77, 79, 68, 85, 76, 69], [77, 79, 68, 85, 76, 69], 0⟩, ⟨tokKind [65], [65], 7⟩, ⟨tokKind [59], [59], 9⟩, ⟨tokKind [86, 65, 82], [86, 65, 82], 11⟩, ⟨tokKind [97], [97], 15⟩, ⟨tokKind [91], [91], 17⟩, ⟨tokKind [50], [50], 19⟩, ⟨tokKind [93], [93], 21⟩, ⟨tokKind [59], [59], 23⟩, ⟨tokKind [80, 82, 79, 67], [80, 82, 79, 67], 25⟩, ⟨tokKind [112], [112], 30⟩, ⟨tokKind [40], [40], 32⟩, ⟨tokKind [64], [64], 34⟩, ⟨tokKind [120], [120], 36⟩, ⟨tokKind [41], [41], 38⟩, ⟨tokKind [59], [59], 40⟩, ⟨tokKind [66, 69, 71, 73, 78], [66, 69, 71, 73, 78], 42⟩, ⟨tokKind [67, 65, 76, 76], [67, 65, 76, 76], 48⟩, ⟨tokKind [112], [112], 53⟩, ⟨tokKind [40], [40], 55⟩, ⟨tokKind [64], [64], 57⟩, ⟨tokKind [97], [97], 59⟩, ⟨tokKind [41], [41], 61⟩, ⟨tokKind [59], [59], 63⟩, ⟨tokKind [67, 65, 76, 76], [67, 65, 76, 76], 65⟩, ⟨tokKind [112], [112], 70⟩, ⟨tokKind [40], [40], 72⟩, ⟨tokKind [64], [64], 74⟩, ⟨tokKind [120], [120], 76⟩, ⟨tokKind [41], [41], 78⟩, ⟨tokKind [59], [59], 80⟩, ⟨tokKind [69, 78, 68], [69, 78, 68], 82⟩, ⟨tokKind [59], [59], 86⟩, ⟨tokKind [69, 78, 68], [69, 78, 68], 88⟩, ⟨tokKind [46], [46], 92⟩] := by kernel_rfl
  rw [h]
  simp only [tk_40, tk_41, tk_46, tk_49, tk_50, tk_59, tk_64, tk_65, tk_66, tk_91, tk_93, tk_97, tk_112, tk_120, tk_121, tk_69_78_68, tk_79_85_84, tk_86_65_82, tk_67_65_76_76, tk_80_82_79_67, tk_66_69_71_73_78, tk_73_77_80_79_82_84, tk_77_79_68_85_76_69]
set_option maxHeartbeats 4000000 in
theorem psmo5 : PsMo ((⟨2, [77, 79, 68, 85, 76, 69], 0⟩ : Tok) :: (⟨4, [65], 7⟩ : Tok) :: (⟨2, [59], 9⟩ : Tok) :: (⟨2, [86, 65, 82], 11⟩ : Tok) :: (⟨3, [97], 15⟩ : Tok) :: (⟨2, [91], 17⟩ : Tok) :: (⟨5, [50], 19⟩ : Tok) :: (⟨2, [93], 21⟩ : Tok) :: (⟨2, [59], 23⟩ : Tok) :: (⟨2, [80, 82, 79, 67], 25⟩ : Tok) :: (⟨3, [112], 30⟩ : Tok) :: (⟨2, [40], 32⟩ : Tok) :: (⟨2, [64], 34⟩ : Tok) :: (⟨3, [120], 36⟩ : Tok) :: (⟨2, [41], 38⟩ : Tok) :: (⟨2, [59], 40⟩ : Tok) :: (⟨2, [66, 69, 71, 73, 78], 42⟩ : Tok) :: (⟨2, [67, 65, 76, 76], 48⟩ : Tok) :: (⟨3, [112], 53⟩ : Tok) :: (⟨2, [40], 55⟩ : Tok) :: (⟨2, [64], 57⟩ : Tok) :: (⟨3, [97], 59⟩ : Tok) :: (⟨2, [41], 61⟩ : Tok) :: (⟨2, [59], 63⟩ : Tok) :: (⟨2, [67, 65, 76, 76], 65⟩ : Tok) :: (⟨3, [112], 70⟩ : Tok) :: (⟨2, [40], 72⟩ : Tok) :: (⟨2, [64], 74⟩ : Tok) :: (⟨3, [120], 76⟩ : Tok) :: (⟨2, [41], 78⟩ : Tok) :: (⟨2, [59], 80⟩ : Tok) :: (⟨2, [69, 78, 68], 82⟩ : Tok) :: (⟨2, [59], 86⟩ : Tok) :: (⟨2, [69, 78, 68], 88⟩ : Tok) :: (⟨2, [46], 92⟩ : Tok) :: [⟨1, [], 93⟩]) md5 :=
  mo011 _ _ _ _ _ _ _ _ _ _ _ _ _ _ _ (by rw [sT_eq]; decide +kernel) rfl (by decide) (by decide) (by rw [sT_eq]; decide +kernel) (by rw [sT_eq]; decide +kernel) (psV1 _ _ _ _ _ 2 _ rfl (by decide) (by decide) (by rw [sT_eq]; decide +kernel) rfl (by decide) (by decide +kernel) (by decide) (by decide) (by rw [sT_eq]; decide +kernel)) (by rw [sT_eq]; decide +kernel) (by rw [sT_eq]; decide +kernel) (psP _ _ _ _ _ _ _ _ _ _ _ _ _ rfl (by decide) (by decide) (by rw [sT_eq]; decide +kernel) (tbP1 _ _ _ _ _ _ _ (by rw [sT_eq]; decide +kernel) (by rw [sT_eq]; decide +kernel) (psM1 _ _ _ _ (by rw [sT_eq]; decide +kernel) rfl (by decide) (by decide)) (by rw [sT_eq]; decide +kernel)) (by rw [sT_eq]; decide +kernel) (by rw [sT_eq]; decide +kernel) (by rw [sT_eq]; decide +kernel) (ss2 _ _ _ _ _ _ _ _ (psS7 _ _ _ _ _ _ _ (by unfold stK; simp only [sT_eq]; decide +kernel) (by rw [sT_eq]; decide +kernel) (psC (psX (psA6 _ _ _ _ _ _ (by unfold exK kbOf; simp only [sT_eq]; decide +kernel) rfl (by decide) (by decide) (tbE1 _ _ _ _ _ _ _ (by rw [sT_eq]; decide +kernel) (by rw [sT_eq]; decide +kernel) (psA7 _ _ _ _ (by unfold exK kbOf; simp only [sT_eq]; decide +kernel) (by rw [sT_eq]; decide +kernel) rfl (by decide) (by decide)) (by rw [sT_eq]; decide +kernel))) (by rw [sT_eq]; decide +kernel)) (by unfold exK kbOf; simp only [sT_eq]; decide +kernel)) (by rw [sT_eq]; decide +kernel)) (by rw [sT_eq]; decide +kernel) (by rw [sT_eq]; decide +kernel) (psS7 _ _ _ _ _ _ _ (by unfold stK; simp only [sT_eq]; decide +kernel) (by rw [sT_eq]; decide +kernel) (psC (psX (psA6 _ _ _ _ _ _ (by unfold exK kbOf; simp only [sT_eq]; decide +kernel) rfl (by decide) (by decide) (tbE1 _ _ _ _ _ _ _ (by rw [sT_eq]; decide +kernel) (by rw [sT_eq]; decide +kernel) (psA7 _ _ _ _ (by unfold exK kbOf; simp only [sT_eq]; decide +kernel) (by rw [sT_eq]; decide +kernel) rfl (by decide) (by decide)) (by rw [sT_eq]; decide +kernel))) (by rw [sT_eq]; decide +kernel)) (by unfold exK kbOf; simp only [sT_eq]; decide +kernel)) (by rw [sT_eq]; decide +kernel)) (by rw [sT_eq]; decide +kernel) (by rw [sT_eq]; decide +kernel) (by rw [sT_eq]; decide +kernel)) (by rw [sT_eq]; decide +kernel) (by rw [sT_eq]; decide +kernel)) (by rw [sT_eq]; decide +kernel) (by rw [sT_eq]; decide +kernel) (by rw [sT_eq]; decide +kernel) (by rw [sT_eq]; decide +kernel) (by rw [sT_eq]; decide +kernel) rfl
def tx6 : List Int := [77, 79, 68, 85, 76, 69, 32, 65, 32, 59, 32, 86, 65, 82, 32, 97, 32, 91, 32, 50, 32, 93, 32, 59, 32, 80, 82, 79, 67, 32, 112, 32, 40, 32, 64, 32, 120, 32, 41, 32, 59, 32, 66, 69, 71, 73, 78, 32, 67, 65, 76, 76, 32, 112, 32, 40, 32, 49, 32, 41, 32, 59, 32, 69, 78, 68, 32, 59, 32, 69, 78, 68, 32, 46]
def md6 : Mo := ⟨[65], [], [⟨[97], 2⟩], [⟨[112], false, [⟨[120], true⟩], [], [.mk 7 0 [] [.mk 6 0 [] [112] [.mk 0 1 [] [] []]] [] []]⟩]⟩
theorem lex6 : lexAll tx6 = [⟨2, [77, 79, 68, 85, 76, 69], 0⟩, ⟨4, [65], 7⟩, ⟨2, [59], 9⟩, ⟨2, [86, 65, 82], 11⟩, ⟨3, [97], 15⟩, ⟨2, [91], 17⟩, ⟨5, [50], 19⟩, ⟨2, [93], 21⟩, ⟨2, [59], 23⟩, ⟨2, [80, 82, 79, 67], 25⟩, ⟨3, [112], 30⟩, ⟨2, [40], 32⟩, ⟨2, [64], 34⟩, ⟨3, [120], 36⟩, ⟨2, [41], 38⟩, ⟨2, [59], 40⟩, ⟨2, [66, 69, 71, 73, 78], 42⟩, ⟨2, [67, 65, 76, 76], 48⟩, ⟨3, [112], 53⟩, ⟨2, [40], 55⟩, ⟨5, [49], 57⟩, ⟨2, [41], 59⟩, ⟨2, [59], 61⟩, ⟨2, [69, 78, 68], 63⟩, ⟨2, [59], 67⟩, ⟨2, [69, 78, 68], 69⟩, ⟨2, [46], 73⟩] := by
  have h : lexAll tx6 = [⟨tokKind [77, 79, 68, 85, 76, 69], [77, 79, 68, 85, 76, 69], 0⟩, ⟨tokKind [65], [65], 7⟩, ⟨tokKind [59], [59], 9⟩, ⟨tokKind [86, 65, 82], [86, 65, 82], 11⟩, ⟨tokKind [97], [97], 15⟩, ⟨tokKind [91], [91], 17⟩, ⟨tokKind [50], [50], 19⟩, ⟨tokKind [93], [93], 21⟩, ⟨tokKind [59], [59], 23⟩, ⟨tokKind [80, 82, 79, 67], [80, 82, 79, 67], 25⟩, ⟨tokKind [112], [112], 30⟩, ⟨tokKind [40], [40], 32⟩, ⟨tokKind [64], [64], 34⟩, ⟨tokKind [120], [120], 36⟩, ⟨tokKind [41], [41], 38⟩, ⟨tokKind [59], [59], 40⟩, ⟨tokKind [66, 69, 71, 73, 78], [66, 69, 71, 73, 78], 42⟩, ⟨tokKind [67, 65, 76, 76], [67, 65, 76, 76], 48⟩, ⟨tokKind [112], [112], 53⟩, ⟨tokKind [40], [40], 55⟩, ⟨tokKind [49], [49], 57⟩, ⟨tokKind [41], [41], 59⟩, ⟨tokKind [59], [59], 61⟩, ⟨tokKind [69, 78, 68], [69, 78, 68], 63⟩, ⟨tokKind [59], [59], 67⟩, ⟨tokKind [69, 78, 68], [69, 78, 68], 69⟩, ⟨tokKind [46], [46], 73⟩] := by kernel_rfl
  rw [h]
  simp only [tk_40, tk_41, tk_46, tk_49, tk_50, tk_59, tk_64, tk_65, tk_66, tk_91, tk_93, tk_97, tk_112, tk_120, tk_121, tk_69_78_68, tk_79_85_84, tk_86_65_82, tk_67_65_76_76, tk_80_82_79_67, tk_66_69_71_73_78, tk_73_77_80_79_82_84, tk_77_79_68_85_76_69]
set_option maxHeartbeats 4000000 in
theorem psmo6 : PsMo ((⟨2, [77, 79, 68, 85, 76, 69], 0⟩ : Tok) :: (⟨4, [65], 7⟩ : Tok) :: (⟨2, [59], 9⟩ : Tok) :: (⟨2, [86, 65, 82], 11⟩ : Tok) :: (⟨3, [97], 15⟩ : Tok) :: (⟨2, [91], 17⟩ : Tok) :: (⟨5, [50], 19⟩ : Tok) :: (⟨2, [93], 21⟩ : Tok) :: (⟨2, [59], 23⟩ : Tok) :: (⟨2, [80, 82, 79, 67], 25⟩ : Tok) :: (⟨3, [112], 30⟩ : Tok) :: (⟨2, [40], 32⟩ : Tok) :: (⟨2, [64], 34⟩ : Tok) :: (⟨3, [120], 36⟩ : Tok) :: (⟨2, [41], 38⟩ : Tok) :: (⟨2, [59], 40⟩ : Tok) :: (⟨2, [66, 69, 71, 73, 78], 42⟩ : Tok) :: (⟨2, [67, 65, 76, 76], 48⟩ : Tok) :: (⟨3, [112], 53⟩ : Tok) :: (⟨2, [40], 55⟩ : Tok) :: (⟨5, [49], 57⟩ : Tok) :: (⟨2, [41], 59⟩ : Tok) :: (⟨2, [59], 61⟩ : Tok) :: (⟨2, [69, 78, 68], 63⟩ : Tok) :: (⟨2, [59], 67⟩ : Tok) :: (⟨2, [69, 78, 68], 69⟩ : Tok) :: (⟨2, [46], 73⟩ : Tok) :: [⟨1, [], 74⟩]) md6 :=
  mo011 _ _ _ _ _ _ _ _ _ _ _ _ _ _ _ (by rw [sT_eq]; decide +kernel) rfl (by decide) (by decide) (by rw [sT_eq]; decide +kernel) (by rw [sT_eq]; decide +kernel) (psV1 _ _ _ _ _ 2 _ rfl (by decide) (by decide) (by rw [sT_eq]; decide +kernel) rfl (by decide) (by decide +kernel) (by decide) (by decide) (by rw [sT_eq]; decide +kernel)) (by rw [sT_eq]; decide +kernel) (by rw [sT_eq]; decide +kernel) (psP _ _ _ _ _ _ _ _ _ _ _ _ _ rfl (by decide) (by decide) (by rw [sT_eq]; decide +kernel) (tbP1 _ _ _ _ _ _ _ (by rw [sT_eq]; decide +kernel) (by rw [sT_eq]; decide +kernel) (psM1 _ _ _ _ (by rw [sT_eq]; decide +kernel) rfl (by decide) (by decide)) (by rw [sT_eq]; decide +kernel)) (by rw [sT_eq]; decide +kernel) (by rw [sT_eq]; decide +kernel) (by rw [sT_eq]; decide +kernel) (ss1 _ _ _ _ _ (psS7 _ _ _ _ _ _ _ (by unfold stK; simp only [sT_eq]; decide +kernel) (by rw [sT_eq]; decide +kernel) (psC (psX (psA6 _ _ _ _ _ _ (by unfold exK kbOf; simp only [sT_eq]; decide +kernel) rfl (by decide) (by decide) (tbE1 _ _ _ _ _ _ _ (by rw [sT_eq]; decide +kernel) (by rw [sT_eq]; decide +kernel) (psA0 _ _ _ (by unfold exK kbOf; simp only [sT_eq]; decide +kernel) 1 rfl (by decide) (by decide +kernel) (by decide) (by decide)) (by rw [sT_eq]; decide +kernel))) (by rw [sT_eq]; decide +kernel)) (by unfold exK kbOf; simp only [sT_eq]; decide +kernel)) (by rw [sT_eq]; decide +kernel)) (by rw [sT_eq]; decide +kernel) (by rw [sT_eq]; decide +kernel) (by rw [sT_eq]; decide +kernel)) (by rw [sT_eq]; decide +kernel) (by rw [sT_eq]; decide +kernel)) (by rw [sT_eq]; decide +kernel) (by rw [sT_eq]; decide +kernel) (by rw [sT_eq]; decide +kernel) (by rw [sT_eq]; decide +kernel) (by rw [sT_eq]; decide +kernel) rfl
def tx7 : List Int := [77, 79, 68, 85, 76, 69, 32, 65, 32, 59, 32, 80, 82, 79, 67, 32, 112, 32, 40, 32, 120, 32, 41, 32, 59, 32, 66, 69, 71, 73, 78, 32, 67, 65, 76, 76, 32, 112, 32, 40, 32, 41, 32, 59, 32, 69, 78, 68, 32, 59, 32, 69, 78, 68, 32, 46]
def md7 : Mo := ⟨[65], [], [], [⟨[112], false, [⟨[120], false⟩], [], [.mk 7 0 [] [.mk 6 0 [] [112] []] [] []]⟩]⟩
theorem lex7 : lexAll tx7 = [⟨2, [77, 79, 68, 85, 76, 69], 0⟩, ⟨4, [65], 7⟩, ⟨2, [59], 9⟩, ⟨2, [80, 82, 79, 67], 11⟩, ⟨3, [112], 16⟩, ⟨2, [40], 18⟩, ⟨3, [120], 20⟩, ⟨2, [41], 22⟩, ⟨2, [59], 24⟩, ⟨2, [66, 69, 71, 73, 78], 26⟩, ⟨2, [67, 65, 76, 76], 32⟩, ⟨3, [112], 37⟩, ⟨2, [40], 39⟩, ⟨2, [41], 41⟩, ⟨2, [59], 43⟩, ⟨2, [69, 78, 68], 45⟩, ⟨2, [59], 49⟩, ⟨2, [69, 78, 68], 51⟩, ⟨2, [46], 55⟩] := by
  have h : lexAll tx7 = [⟨tokKind [77, 79, 68, 85, 76, 69], [77, 79, 68, 85, 76, 69], 0⟩, ⟨tokKind [65], [65], 7⟩, ⟨tokKind [59], [59], 9⟩, ⟨tokKind [80, 82, 79, 67], [80, 82, 79, 67], 11⟩, ⟨tokKind [112], [112], 16⟩, ⟨tokKind [40], [40], 18⟩, ⟨tokKind [120], [120], 20⟩, ⟨tokKind [41], [41], 22⟩, ⟨tokKind [59], [59], 24⟩, ⟨tokKind [66, 69, 71, 73, 78], [66, 69, 71, 73, 78], 26⟩, ⟨tokKind [67, 65, 76, 76], [67, 65, 76, 76], 32⟩, ⟨tokKind [112], [112], 37⟩, ⟨tokKind [40], [40], 39⟩, ⟨tokKind [41], [41], 41⟩, ⟨tokKind [59], [59], 43⟩, ⟨tokKind [69, 78, 68], [69, 78, 68], 45⟩, ⟨tokKind [59], [59], 49⟩, ⟨tokKind [69, 78, 68], [69, 78, 68], 51⟩, ⟨tokKind [46], [46], 55⟩] := by kernel_rfl
  rw [h]
  simp only [tk_40, tk_41, tk_46, tk_49, tk_50, tk_59, tk_64, tk_65, tk_66, tk_91, tk_93, tk_97, tk_112, tk_120, tk_121, tk_69_78_68, tk_79_85_84, tk_86_65_82, tk_67_65_76_76, tk_80_82_79_67, tk_66_69_71_73_78, tk_73_77_80_79_82_84, tk_77_79_68_85_76_69]
set_option maxHeartbeats 4000000 in
theorem psmo7 : PsMo ((⟨2, [77, 79, 68, 85, 76, 69], 0⟩ : Tok) :: (⟨4, [65], 7⟩ : Tok) :: (⟨2, [59], 9⟩ : Tok) :: (⟨2, [80, 82, 79, 67], 11⟩ : Tok) :: (⟨3, [112], 16⟩ : Tok) :: (⟨2, [40], 18⟩ : Tok) :: (⟨3, [120], 20⟩ : Tok) :: (⟨2, [41], 22⟩ : Tok) :: (⟨2, [59], 24⟩ : Tok) :: (⟨2, [66, 69, 71, 73, 78], 26⟩ : Tok) :: (⟨2, [67, 65, 76, 76], 32⟩ : Tok) :: (⟨3, [112], 37⟩ : Tok) :: (⟨2, [40], 39⟩ : Tok) :: (⟨2, [41], 41⟩ : Tok) :: (⟨2, [59], 43⟩ : Tok) :: (⟨2, [69, 78, 68], 45⟩ : Tok) :: (⟨2, [59], 49⟩ : Tok) :: (⟨2, [69, 78, 68], 51⟩ : Tok) :: (⟨2, [46], 55⟩ : Tok) :: [⟨1, [], 56⟩]) md7 :=
  mo001 _ _ _ _ _ _ _ _ _ _ (by rw [sT_eq]; decide +kernel) rfl (by decide) (by decide) (by rw [sT_eq]; decide +kernel) (by rw [sT_eq]; decide +kernel) (psP _ _ _ _ _ _ _ _ _ _ _ _ _ rfl (by decide) (by decide) (by rw [sT_eq]; decide +kernel) (tbP1 _ _ _ _ _ _ _ (by rw [sT_eq]; decide +kernel) (by rw [sT_eq]; decide +kernel) (psM0 _ _ _ (by rw [sT_eq]; decide +kernel) rfl (by decide) (by decide)) (by rw [sT_eq]; decide +kernel)) (by rw [sT_eq]; decide +kernel) (by rw [sT_eq]; decide +kernel) (by rw [sT_eq]; decide +kernel) (ss1 _ _ _ _ _ (psS7 _ _ _ _ _ _ _ (by unfold stK; simp only [sT_eq]; decide +kernel) (by rw [sT_eq]; decide +kernel) (psC (psX (psA6 _ _ _ _ _ _ (by unfold exK kbOf; simp only [sT_eq]; decide +kernel) rfl (by decide) (by decide) (tbE0 _ _ _ _ (by rw [sT_eq]; decide +kernel) (by rw [sT_eq]; decide +kernel))) (by rw [sT_eq]; decide +kernel)) (by unfold exK kbOf; simp only [sT_eq]; decide +kernel)) (by rw [sT_eq]; decide +kernel)) (by rw [sT_eq]; decide +kernel) (by rw [sT_eq]; decide +kernel) (by rw [sT_eq]; decide +kernel)) (by rw [sT_eq]; decide +kernel) (by rw [sT_eq]; decide +kernel)) (by rw [sT_eq]; decide +kernel) (by rw [sT_eq]; decide +kernel) (by rw [sT_eq]; decide +kernel) (by rw [sT_eq]; decide +kernel) (by rw [sT_eq]; decide +kernel) rfl
end Go.Proofs.YtajnfknldofjlaaGreatDoor
namespace Go.Proofs.YtajnfknldofjlaaGreatDoor
open Go.RowKit
set_option linter.unusedVariables false
set_option linter.unusedSimpArgs false

def FsLen (fs : List Fa) : Prop := ∀ f ∈ fs, f.name.length ≤ 1048576 ∧ ∀ q ∈ f.procs, q.name.length ≤ 1048576
theorem stG_zero {l : List (List Int × Mn)} {g : List Int → Mn} {t : List Int} (hz : ∀ p ∈ l, p.2.1 ≠ 0) : (stG g l t).1 = 0 ↔ (∀ p ∈ l, p.1 ≠ t) ∧ (g t).1 = 0 := by
  induction l generalizing g with
  | nil => simp [stG]
  | cons q l ih =>
    rw [stG_cons, ih (fun p hp => hz p (List.mem_cons_of_mem _ hp))]
    unfold updG
    by_cases e : t = q.1
    · rw [if_pos e]
      refine ⟨fun h => absurd h.2 (hz q (by simp)), fun h => absurd e.symm (h.1 q (by simp))⟩
    · rw [if_neg e]
      refine ⟨fun h => ⟨fun p hp => ?_, h.2⟩, fun h => ⟨fun p hp => h.1 p (List.mem_cons_of_mem _ hp), h.2⟩⟩
      rcases List.mem_cons.1 hp with rfl | hp
      · exact fun e' => e e'.symm
      · exact h.1 p hp
theorem okG_iff {l : List (List Int × Mn)} {g : List Int → Mn} (hz : ∀ p ∈ l, p.2.1 ≠ 0) : okG g l = true ↔ (l.map Prod.fst).Nodup ∧ ∀ p ∈ l, (g p.1).1 = 0 := by
  induction l generalizing g with
  | nil => simp [okG]
  | cons q l ih =>
    rw [okG_cons, Bool.and_eq_true, ih (fun p hp => hz p (List.mem_cons_of_mem _ hp)), List.map_cons, List.nodup_cons, decide_eq_true_eq]
    constructor
    · rintro ⟨h1, h2, h3⟩
      have hn : q.1 ∉ l.map Prod.fst := by
        intro hm
        obtain ⟨p, hp, e⟩ := List.mem_map.1 hm
        have := h3 p hp
        unfold updG at this
        rw [if_pos e] at this
        exact hz q (by simp) this
      refine ⟨⟨hn, h2⟩, fun p hp => ?_⟩
      rcases List.mem_cons.1 hp with rfl | hp
      · exact h1
      · have := h3 p hp
        unfold updG at this
        rw [if_neg (fun e => hn (List.mem_map.2 ⟨p, hp, e⟩))] at this
        exact this
    · rintro ⟨⟨hn, h2⟩, h3⟩
      refine ⟨h3 q (by simp), h2, fun p hp => ?_⟩
      unfold updG
      rw [if_neg (fun e => hn (List.mem_map.2 ⟨p, hp, e⟩))]
      exact h3 p (List.mem_cons_of_mem _ hp)
theorem ix_nodup {l : List (List Int)} : l.Nodup ↔ ∀ i x, l[i]? = some x → ix l x = some i := by
  constructor
  · intro h i x hx
    refine ix_some (fun j y hj hy e => ?_) hx
    subst e
    obtain ⟨h1, e1⟩ := List.getElem?_eq_some_iff.1 hx
    obtain ⟨h2, e2⟩ := List.getElem?_eq_some_iff.1 hy
    exact (List.pairwise_iff_getElem.1 h) j i h2 h1 hj (by rw [e1, e2])
  · intro h
    refine List.pairwise_iff_getElem.2 fun i j hi hj hij e => ?_
    have h1 := h j l[j] (List.getElem?_eq_getElem hj)
    have h2 := h i l[j] (by rw [← e]; exact List.getElem?_eq_getElem hi)
    rw [h1] at h2
    cases h2
    omega
theorem ix_nodup_map {α : Type} {f : α → List Int} {l : List α} : (l.map f).Nodup ↔ ∀ i y, l[i]? = some y → ix (l.map f) (f y) = some i := by
  rw [ix_nodup]
  constructor
  · intro h i y hy
    exact h i (f y) (by rw [List.getElem?_map, hy]; rfl)
  · intro h i x hx
    rw [List.getElem?_map] at hx
    obtain ⟨y, hy, rfl⟩ := Option.map_eq_some_iff.1 hx
    exact h i y hy
def vaL (m : Mo) : List (List Int × Mn) := m.vars.map fun v => (v.name, vaMn v)
def prL (m : Mo) : List (List Int × Mn) := m.procs.map fun q => (q.name, prMn q)
def g0 : List Int → Mn := fun _ => (0, [])
def g1 (m : Mo) : List Int → Mn := stG (stG g0 (vaL m)) (prL m)
def nameB (m : Mo) : Bool := (okG g0 (vaL m) && okG (stG g0 (vaL m)) (prL m)) && m.procs.all (okEn (g1 m))
theorem vaL_nz (m : Mo) : ∀ p ∈ vaL m, p.2.1 ≠ 0 := by
  intro p hp
  obtain ⟨v, _, rfl⟩ := List.mem_map.1 hp
  unfold vaMn
  simp only
  split <;> decide
theorem prL_nz (m : Mo) : ∀ p ∈ prL m, p.2.1 ≠ 0 := by
  intro p hp
  obtain ⟨v, _, rfl⟩ := List.mem_map.1 hp
  unfold prMn
  simp
theorem paL_nz (q : Pr) : ∀ p ∈ paL q, p.2.1 ≠ 0 := by
  intro p hp
  obtain ⟨v, _, rfl⟩ := List.mem_map.1 hp
  unfold paMn
  simp only
  split <;> decide
theorem loL_nz (q : Pr) : ∀ p ∈ loL q, p.2.1 ≠ 0 := by
  intro p hp
  obtain ⟨v, _, rfl⟩ := List.mem_map.1 hp
  simp
theorem allUnl_iff (l : List (List Int)) : allUnl l = true ↔ l.Nodup := by
  rw [ix_nodup]
  unfold allUnl unl
  rw [List.all_eq_true]
  constructor
  · intro h i x hx
    have hi := (List.getElem?_eq_some_iff.1 hx).1
    have := h i (by simpa using hi)
    rw [hx, Option.getD_some, Bool.not_eq_true', List.any_eq_false] at this
    refine ix_some (fun j y hj hy e => ?_) hx
    subst e
    exact this y (by rw [List.mem_take_iff_getElem]; obtain ⟨hj', e⟩ := List.getElem?_eq_some_iff.1 hy; exact ⟨j, by omega, e⟩) (by simp)
  · intro h i hi
    have hi : i < l.length := by simpa using hi
    rw [List.getElem?_eq_getElem hi, Option.getD_some, Bool.not_eq_true', List.any_eq_false]
    intro x hx e
    have e : x = l[i] := by simpa using e
    subst e
    rw [List.mem_take_iff_getElem] at hx
    obtain ⟨j, hj, e⟩ := hx
    have h1 := h i _ (List.getElem?_eq_getElem hi)
    have h2 := h j l[i] (by rw [List.getElem?_eq_getElem (by omega)]; exact congrArg some e)
    rw [h1] at h2
    cases h2
    omega
theorem fsOk_iff (fs : List Fa) : facesB fs = true ↔ FsOk fs := by
  unfold facesB FsOk FsAt
  rw [Bool.and_eq_true, Bool.and_eq_true, decide_eq_true_eq, List.all_eq_true, allUnl_iff, ix_nodup_map]
  constructor
  · rintro ⟨⟨h1, h2⟩, h3⟩
    exact ⟨h1, fun i f hf => ⟨h2 f (List.mem_of_getElem? hf), h3 i f hf⟩⟩
  · rintro ⟨h1, h2⟩
    refine ⟨⟨h1, fun f hf => ?_⟩, fun i f hf => (h2 i f hf).2⟩
    obtain ⟨i, hi⟩ := List.getElem?_of_mem hf
    exact (h2 i f hi).1
theorem nameOk_dot {x : List Int} {g : Bool} (h : nameOk x g = true) : (46 : Int) ∉ x := by
  intro hm
  obtain ⟨j, hj, e⟩ := List.getElem_of_mem hm
  unfold nameOk at h
  rw [Bool.and_eq_true, List.all_eq_true] at h
  have := h.2 j (by simpa using hj)
  unfold okAt at this
  split at this
  · rename_i h0
    subst h0
    rw [List.getElem?_eq_getElem hj, Option.getD_some, e] at this
    cases g <;> simp [upB, lowB] at this
  · rw [List.getElem?_eq_getElem hj, Option.getD_some, e] at this
    simp [lowB, digB] at this
theorem nameOk_ne {x : List Int} {g : Bool} (h : nameOk x g = true) : x ≠ [] := by
  rintro rfl
  simp [nameOk] at h
theorem callN_dot {a x : List Int} (ha : nameOk a true = true) : (46 : Int) ∈ callN a x := by
  unfold callN
  rw [if_neg (nameOk_ne ha)]
  simp
theorem stG_append (g : List Int → Mn) (a b : List (List Int × Mn)) : stG g (a ++ b) = stG (stG g a) b := by unfold stG; rw [List.foldl_append]
def usedL (us : List (List Int)) (fs : List Fa) : List (List Int × Mn) := (fs.filter fun f => us.any fun y => decide (y = f.name)).flatMap fpL
theorem usedG_eq (us : List (List Int)) (g : List Int → Mn) (fs : List Fa) : usedG us g fs = stG g (usedL us fs) := by
  induction fs generalizing g with
  | nil => rfl
  | cons f fs ih =>
    have e : usedG us g (f :: fs) = usedG us (useG us g f) fs := rfl
    rw [e, ih]
    unfold useG usedL
    cases h : us.any fun y => decide (y = f.name)
    · rw [List.filter_cons_of_neg (by rw [h]; simp)]; rfl
    · rw [List.filter_cons_of_pos (by rw [h]), List.flatMap_cons, stG_append]; rfl
theorem usedL_mem {us : List (List Int)} {fs : List Fa} {p : List Int × Mn} : p ∈ usedL us fs ↔ ∃ f ∈ fs, f.name ∈ us ∧ ∃ r ∈ f.procs, p = (callN f.name r.name, (3, r.kinds)) := by
  unfold usedL fpL
  simp only [List.mem_flatMap, List.mem_filter, List.mem_map, List.any_eq_true, decide_eq_true_eq]
  constructor
  · rintro ⟨f, ⟨hf, y, hy, rfl⟩, r, hr, rfl⟩
    exact ⟨f, hf, hy, r, hr, rfl⟩
  · rintro ⟨f, hf, hu, r, hr, rfl⟩
    exact ⟨f, ⟨hf, f.name, hu, rfl⟩, r, hr, rfl⟩
structure MoN (m : Mo) : Prop where
  va : ∀ v ∈ m.vars, nameOk v.name false = true ∧ 0 ≤ v.size
  pr : ∀ q ∈ m.procs, nameOk q.name false = true ∧ (∀ a ∈ q.params, nameOk a.name false = true) ∧ ∀ x ∈ q.locals, nameOk x false = true
structure FaN (fs : List Fa) : Prop where
  nd : (fs.map Fa.name).Nodup
  nm : ∀ f ∈ fs, nameOk f.name true = true
  pn : ∀ f ∈ fs, (f.procs.map Fp.name).Nodup
  kd : ∀ f ∈ fs, ∀ r ∈ f.procs, ∀ k ∈ r.kinds, k = 0 ∨ k = 1
theorem faN_of {fs : List Fa} (h : FsOk fs) : FaN fs := by
  have H : ∀ f ∈ fs, faOk f = true := fun f hf => by obtain ⟨i, hi⟩ := List.getElem?_of_mem hf; exact (h.2 i f hi).1
  have H' : ∀ f ∈ fs, ((nameOk f.name true = true ∧ f.procs.length ≤ 8) ∧ f.procs.all fpOk = true) ∧ allUnl (f.procs.map Fp.name) = true := fun f hf => by
    have := H f hf
    unfold faOk at this
    simpa only [Bool.and_eq_true, decide_eq_true_eq] using this
  refine ⟨ix_nodup_map.2 fun i f hf => (h.2 i f hf).2, fun f hf => (H' f hf).1.1.1, fun f hf => (allUnl_iff _).1 (H' f hf).2, fun f hf r hr k hk => ?_⟩
  have := List.all_eq_true.1 (H' f hf).1.2 r hr
  unfold fpOk at this
  rw [Bool.and_eq_true] at this
  have := List.all_eq_true.1 this.2 k hk
  simp only [isKd, Bool.and_eq_true, decide_eq_true_eq] at this
  omega
section
variable {m : Mo} {fs : List Fa} {q : Pr}
theorem used_flat {us : List (List Int)} {g : List Int → Mn} {x : List Int} (hF : FaN fs) (h : (46 : Int) ∉ x) : usedG us g fs x = g x := by
  rw [usedG_eq, stG_other]
  intro p hp e
  obtain ⟨f, hf, _, r, _, rfl⟩ := usedL_mem.1 hp
  exact h (by rw [← e]; exact callN_dot (hF.nm f hf))
end
theorem nameOk_len {x : List Int} {g : Bool} (h : nameOk x g = true) : x.length ≤ 8 := by
  unfold nameOk at h
  simp only [Bool.and_eq_true, decide_eq_true_eq] at h
  exact h.1.2
theorem moN_of {m : Mo} (h : formed m = true) : MoN m := by
  obtain ⟨_, _, hv, hp⟩ := formed_parts h
  refine ⟨fun v hv' => ?_, fun q hq => ?_⟩
  · have := hv v hv'
    unfold vaOk inB at this
    simp only [Bool.and_eq_true, decide_eq_true_eq] at this
    exact ⟨this.1, this.2.1⟩
  · have := (hp q hq).1
    unfold hdOk at this
    simp only [Bool.and_eq_true, decide_eq_true_eq, List.all_eq_true] at this
    exact ⟨this.1.1.1.1, fun a ha => this.1.1.2 a ha, fun x hx => this.2 x hx⟩
theorem prLen_of {m : Mo} (h : formed m = true) : ∀ q ∈ m.procs, PrLen q := by
  intro q hq
  have := ((formed_parts h).2.2.2 q hq).1
  have hn := (moN_of h).pr q hq
  unfold hdOk at this
  simp only [Bool.and_eq_true, decide_eq_true_eq] at this
  exact ⟨this.1.1.1.2, this.1.2, fun a ha => by have := nameOk_len (hn.2.1 a ha); omega, fun y hy => by have := nameOk_len (hn.2.2 y hy); omega⟩
theorem counts_of {m : Mo} (h : formed m = true) : m.vars.length ≤ 8 ∧ m.procs.length ≤ 8 := by
  unfold formed at h
  simp only [Bool.and_eq_true, decide_eq_true_eq] at h
  exact ⟨h.1.1.1.1.2, h.1.1.2⟩
mutual
theorem wfE_of : ∀ e, okEx e = true → wfE e
  | .mk k n mod name kids, h => by
    unfold okEx at h
    simp only [Bool.and_eq_true] at h
    have hk := wfEs_of kids h.2
    have hl := h.1.1
    unfold exLoc inB at hl
    simp only [Bool.and_eq_true, Bool.or_eq_true, decide_eq_true_eq] at hl
    obtain ⟨⟨hk8, _, hnm⟩, hmod⟩ := hl
    refine ⟨⟨hk8.1, by omega, ?_, ?_⟩, hk⟩
    · rcases hmod with h | ⟨_, h⟩
      · omega
      · have := nameOk_len h; omega
    · split at hnm
      · have := nameOk_len hnm; omega
      · have : name.length = 0 := by simpa using hnm
        omega
theorem wfEs_of : ∀ l, okExs l = true → wfEs l
  | [], _ => trivial
  | e :: l, h => by
    unfold okExs at h
    rw [Bool.and_eq_true] at h
    exact ⟨wfE_of e h.1, wfEs_of l h.2⟩
end
mutual
theorem wfS_of : ∀ s, okSt s = true → wfS s
  | .mk k n name kids body els, h => by
    unfold okSt at h
    simp only [Bool.and_eq_true] at h
    obtain ⟨⟨⟨hl, hks⟩, hb⟩, he⟩ := h
    have h1 := wfSs_of body hb
    have h2 := wfSs_of els he
    unfold stLoc inB at hl
    simp only [Bool.and_eq_true, Bool.or_eq_true, decide_eq_true_eq] at hl
    obtain ⟨⟨⟨⟨⟨hk8, _, hnm⟩, _⟩, _⟩, _⟩, _⟩ := hl
    refine ⟨⟨hk8.1, by omega, ?_⟩, wfEs_of kids hks, h1, h2⟩
    split at hnm
    · have := nameOk_len hnm; omega
    · have : name.length = 0 := by simpa using hnm
      omega
theorem wfSs_of : ∀ l, okSts l = true → wfSs l
  | [], _ => trivial
  | s :: l, h => by
    unfold okSts at h
    rw [Bool.and_eq_true] at h
    exact ⟨wfS_of s h.1, wfSs_of l h.2⟩
end
def tellC (m : Mo) (fs : List Fa) : Int := if (moOk m && facesB fs) = false then 1 else if nameB m = false then 2 else if usesB m fs = false then 3 else toldP (usedG m.uses (g1 m) fs) 0 m.procs
theorem clean_stG {g : List Int → Mn} {l : List (List Int × Mn)} (hg : Clean g) (hz : ∀ p ∈ l, p.2.1 ≠ 0) : Clean (stG g l) := by
  intro x hx
  have h := (stG_zero hz).1 hx
  rw [stG_other h.1]
  exact hg x h.2
theorem clean_g0 : Clean g0 := fun _ _ => rfl
theorem clean_g1 (m : Mo) : Clean (g1 m) := clean_stG (clean_stG clean_g0 (vaL_nz m)) (prL_nz m)
theorem clean_used (us : List (List Int)) (m : Mo) (fs : List Fa) : Clean (usedG us (g1 m) fs) := by
  rw [usedG_eq]
  refine clean_stG (clean_g1 m) fun p hp => ?_
  obtain ⟨f, _, _, r, _, rfl⟩ := usedL_mem.1 hp
  simp
theorem okEn_used {m : Mo} {fs : List Fa} {q : Pr} (us : List (List Int)) (hM : MoN m) (hF : FaN fs) (hq : q ∈ m.procs) : okEn (usedG us (g1 m) fs) q = okEn (g1 m) q := by
  have hq' := hM.pr q hq
  have e : ∀ x, nameOk x false = true → usedG us (g1 m) fs x = g1 m x := fun x hx => used_flat hF (nameOk_dot hx)
  rw [Bool.eq_iff_iff]
  unfold okEn
  rw [Bool.and_eq_true, Bool.and_eq_true, okG_iff (paL_nz q), okG_iff (loL_nz q), okG_iff (paL_nz q), okG_iff (loL_nz q)]
  refine and_congr (and_congr_right fun _ => forall_congr' fun p => forall_congr' fun hp => ?_) (and_congr_right fun _ => forall_congr' fun p => forall_congr' fun hp => ?_)
  · obtain ⟨a, ha, rfl⟩ := List.mem_map.1 hp
    simp only
    rw [e _ (hq'.2.1 a ha)]
  · obtain ⟨x, hx, rfl⟩ := List.mem_map.1 hp
    simp only
    rw [stG_zero (paL_nz q), stG_zero (paL_nz q), e _ (hq'.2.2 x hx)]
end Go.Proofs.YtajnfknldofjlaaGreatDoor
namespace Go.Proofs.YtajnfknldofjlaaGreatDoor
open Go.RowKit
set_option linter.unusedVariables false
set_option linter.unusedSimpArgs false
set_option maxRecDepth 100000

set_option maxHeartbeats 8000000 in
theorem implTell (m : Mo) (fs : List Fa) (vs : List Value) (b : Option Addr) (nf d : Nat) (w : World) (hT : Tabs w) (hex : ∀ i, i < 8 → w.cell? ⟨2, i, none⟩ = some (.int .i64 (exSo i))) (hst : ∀ i, i < 8 → w.cell? ⟨1, i, none⟩ = some (.int .i64 (stSo i)))
    (h : RdVals w m.fl vs) (hs : recLen m.fl ≤ 1048576) (hf : LRow w b d 2 (fs.map Fa.fl)) (hfl : fs.length = nf) (hfs : FsLen fs) :
    Calls Tryz.prog 6 #[agg vs, .slice b nf d] w fun e w' => e = .returned (.int .i64 (tellC m fs)) ∧ w.grownBy w' none := by
  have h0 := h
  obtain ⟨v0, _, rfl, _, v1, _, rfl, hu, v2, _, rfl, _, v3, _, rfl, hp, rfl⟩ := h
  obtain ⟨au, cu, rfl, hU⟩ := hu.list
  obtain ⟨ap, cp, rfl, hP⟩ := hp.list
  have eu : (txts m.uses).length = m.uses.length := by simp [txts]
  rw [List.length_map, eu] at h0 ⊢
  obtain ⟨nu, hnu⟩ : ∃ z, z = m.uses.length := ⟨_, rfl⟩
  obtain ⟨np, hnp⟩ : ∃ z, z = m.procs.length := ⟨_, rfl⟩
  have HNU : Hid (m.uses.length = nu) := hnu.symm
  have HNP : Hid (m.procs.length = np) := hnp.symm
  rw [← hnu, ← hnp] at h0 ⊢
  have HM : Hid (RdVals w m.fl [v0, .slice au nu cu, v2, .slice ap np cp]) := h0
  have HU : Hid (LRow w au cu 1 (txts m.uses)) := hU
  have HP : Hid (LRow w ap cp 5 (m.procs.map Pr.fl)) := hP
  have HF : Hid (LRow w b d 2 (fs.map Fa.fl)) := hf
  have HFL : Hid (fs.length = nf) := hfl
  have HFN : Hid (FsLen fs) := hfs
  have HEX : Hid (∀ i, i < 8 → w.cell? ⟨2, i, none⟩ = some (.int .i64 (exSo i))) := hex
  have HSX : Hid (∀ i, i < 8 → w.cell? ⟨1, i, none⟩ = some (.int .i64 (stSo i))) := hst
  have HTC : Hid (tellC m fs = if (moOk m && facesB fs) = false then 1 else if nameB m = false then 2 else if usesB m fs = false then 3 else toldP (usedG m.uses (g1 m) fs) 0 m.procs) := rfl
  have y1 := grown_alloc w (.cells #[v0, .slice au nu cu, v2, .slice ap np cp] 29 (0, 0)) none
  have x1 := Blk.new w 29 [v0, .slice au nu cu, v2, .slice ap np cp]
  simp only [List.toArray] at x1
  have H1 := implModB m _ _ (hT.below (below_grown y1)) (h0.below (below_grown y1)) hs
  simp only [List.toArray] at H1
  simp only [agg]
  clear h0 hu hp hU hP hnu hnp hf hfl hfs hex hst eu hT hs
  go_enter Tryz.func6, Tryz.ntmps6
  go_upto_region 1 with fail
  generalize w.alloc (.cells #[v0, .slice au nu cu, v2, .slice ap np cp] 29 (0, 0)) = w1 at *
  generalize w.heap.size = gM at *
  have q0 := x1.cell (i := 0) rfl
  have q1 := x1.cell (i := 1) rfl
  have q2 := x1.cell (i := 2) rfl
  have q3 := x1.cell (i := 3) rfl
  clear x1
  cases hmo : moOk m
  · rw [hmo] at H1
    have HR : Hid (tellC m fs = 1) := by show _ = _; rw [HTC.out, hmo]; rfl
    clear hmo HTC
    go_wp2_with fail
    refine H1.mono ?_
    rintro e w2 ⟨rfl, hg2⟩
    have G2 : Hid (w.grownBy w2 none) := grown_trans y1 hg2
    clear H1 q0 q1 q2 q3 hg2 y1
    go_wp2_with fail
    go_ret
    exact ⟨ret_int HR.out.symm, G2.out⟩
  rw [hmo] at H1
  have HMO : Hid (moOk m = true) := hmo
  have HFO : Hid (formed m = true) := by
    have := hmo
    unfold moOk at this
    rw [Bool.and_eq_true] at this
    exact this.1
  clear hmo
  cases hfa : facesB fs
  · have HR : Hid (tellC m fs = 1) := by show _ = _; rw [HTC.out, hfa, Bool.and_false]; rfl
    clear HTC
    go_wp2_with fail
    refine H1.mono ?_
    rintro e w2 ⟨rfl, hg2⟩
    have y2 := grown_trans y1 hg2
    have H2 := facesOkC fs b nf d w2 HFL.out (HF.out.below (below_grown y2)) HFN.out
    rw [hfa] at H2
    clear H1 q0 q1 q2 q3 hg2 y1 hfa
    go_wp2_with fail
    refine H2.mono ?_
    rintro e w3 ⟨rfl, hg3⟩
    have G3 : Hid (w.grownBy w3 none) := grown_trans y2 hg3
    clear H2 hg3 y2
    go_wp2_with fail
    go_ret
    exact ⟨ret_int HR.out.symm, G3.out⟩
  have HFN' : Hid (FaN fs) := faN_of ((fsOk_iff fs).1 hfa)
  have HFA : Hid (∀ f ∈ fs, FaLen f) := by
    intro f hf'
    have h1 := hfa
    unfold facesB at h1
    simp only [Bool.and_eq_true, List.all_eq_true] at h1
    have h2 := h1.1.2 f hf'
    unfold faOk at h2
    simp only [Bool.and_eq_true, decide_eq_true_eq] at h2
    have h3 := HFN.out f hf'
    exact ⟨h2.1.1.2, h3.1, h3.2⟩
  have HF8 : Hid (nf ≤ 8) := by
    have h1 := hfa
    unfold facesB at h1
    simp only [Bool.and_eq_true, decide_eq_true_eq] at h1
    rw [← HFL.out]
    exact h1.1.1
  have HTC2 : Hid (tellC m fs = if nameB m = false then 2 else if usesB m fs = false then 3 else toldP (usedG m.uses (g1 m) fs) 0 m.procs) := by show _ = _; rw [HTC.out, HMO.out, hfa]; rfl
  clear HTC
  have HC8 : Hid ((vaL m).length ≤ 8 ∧ (prL m).length ≤ 8 ∧ np ≤ 8) := by
    have h1 := counts_of HFO.out
    refine ⟨?_, ?_, by rw [← HNP.out]; exact h1.2⟩
    · unfold vaL; rw [List.length_map]; exact h1.1
    · unfold prL; rw [List.length_map]; exact h1.2
  go_wp2_with fail
  refine H1.mono ?_
  rintro e w2 ⟨rfl, hg2⟩
  have y2 := grown_trans y1 hg2
  have H2 := facesOkC fs b nf d w2 HFL.out (HF.out.below (below_grown y2)) HFN.out
  rw [hfa] at H2
  replace q0 := cell_on q0 (below_grown hg2)
  replace q1 := cell_on q1 (below_grown hg2)
  replace q2 := cell_on q2 (below_grown hg2)
  replace q3 := cell_on q3 (below_grown hg2)
  clear H1 hg2 y1 hfa
  go_wp2_with fail
  refine H2.mono ?_
  rintro e w3 ⟨rfl, hg3⟩
  have y3 := grown_trans y2 hg3
  have y4 := grown_alloc w3 (.map #[] 0) none
  have B4 : Hid (Below w.heap.size w (w3.alloc (.map #[] 0))) := below_grown (grown_trans y3 y4)
  have HBB : Hid (w.heap.size ≤ w3.heap.size) := (below_grown y3).size
  have N4 := NT.made w3
  replace q0 := cell_on (cell_on q0 (below_grown hg3)) (below_grown y4)
  replace q1 := cell_on (cell_on q1 (below_grown hg3)) (below_grown y4)
  replace q2 := cell_on (cell_on q2 (below_grown hg3)) (below_grown y4)
  replace q3 := cell_on (cell_on q3 (below_grown hg3)) (below_grown y4)
  have hmm : ∀ w : World, (Instr.makeMap 44 none).run Tryz.prog w = .ok (.map (some w.heap.size)) (w.alloc (.map #[] 0)) := fun w => rfl
  clear H2 hg3 y2 y3 y4
  go_upto_region 4 with fail
  clear hmm
  generalize w3.alloc (.map #[] 0) = w4 at *
  generalize w3.heap.size = bm at *
  have H4 := declareModuleC m _ w w4 bm 0 _ HM.out B4.out HBB.out N4 (by show 0 + (vaL m).length + (prL m).length ≤ _; have := HC8.out; omega) (fun v hv => by have := nameOk_len ((moN_of HFO.out).va v hv).1; omega) (fun q hq => by have := nameOk_len ((moN_of HFO.out).pr q hq).1; have := (prLen_of HFO.out q hq).np; omega)
  change Calls _ _ _ _ (fun e w' => e = .returned (.bool (okG g0 (vaL m) && okG (stG g0 (vaL m)) (prL m))) ∧ Dn w4 w' bm (0 + (vaL m).length + (prL m).length) (g1 m) (okG g0 (vaL m) && okG (stG g0 (vaL m)) (prL m))) at H4
  simp only [agg, List.toArray] at H4
  have HN4 : Hid (NT w4 bm 0 (fun _ => (0, []))) := N4
  clear N4
  cases hd : (okG g0 (vaL m) && okG (stG g0 (vaL m)) (prL m))
  · rw [hd] at H4
    have HR : Hid (tellC m fs = 2) := by show _ = _; rw [HTC2.out]; unfold nameB; rw [hd]; rfl
    clear hd HTC2
    go_wp2_with fail
    refine H4.mono ?_
    rintro e w5 ⟨rfl, hdn⟩
    have G5 : Hid (w.grownBy w5 none) := grown_below (below_map B4.out hdn.grown HBB.out) none
    clear H4 hdn q0 q1 q2 q3
    go_wp2_with fail
    go_ret
    exact ⟨ret_int HR.out.symm, G5.out⟩
  rw [hd] at H4
  have HTC3 : Hid (tellC m fs = if m.procs.all (okEn (g1 m)) = false then 2 else if usesB m fs = false then 3 else toldP (usedG m.uses (g1 m) fs) 0 m.procs) := by show _ = _; rw [HTC2.out]; unfold nameB; rw [hd, Bool.true_and]
  clear hd HTC2
  cases ho : m.procs.all (okEn (g1 m))
  · have HR : Hid (tellC m fs = 2) := by show _ = _; rw [HTC3.out, if_pos ho]
    have HO : Hid (m.procs.all (okEn (g1 m)) = false) := ho
    clear ho HTC3
    go_wp2_with fail
    refine H4.mono ?_
    rintro e w5 ⟨rfl, hdn⟩
    have H5 := ownOkC m.procs ap np cp w w5 bm _ (g1 m) HP.out HNP.out (below_map B4.out hdn.grown HBB.out) HBB.out (hdn.yes rfl) (by have := HC8.out; omega) (clean_g1 m) (prLen_of HFO.out)
    rw [HO.out] at H5
    have B5 : Hid (Below w.heap.size w w5) := below_map B4.out hdn.grown HBB.out
    replace q3 := HN4.out.cell q3 hdn.grown
    clear H4 hdn q0 q1 q2
    go_wp2_with fail
    refine H5.mono ?_
    rintro e w6 ⟨rfl, hdn⟩
    have G6 : Hid (w.grownBy w6 none) := grown_below (below_map B5.out hdn.grown HBB.out) none
    clear H5 hdn q3
    go_wp2_with fail
    go_ret
    exact ⟨ret_int HR.out.symm, G6.out⟩
  have HTC4 : Hid (tellC m fs = if usesB m fs = false then 3 else toldP (usedG m.uses (g1 m) fs) 0 m.procs) := by show _ = _; rw [HTC3.out, if_neg (by rw [ho]; decide)]
  have HO : Hid (m.procs.all (okEn (g1 m)) = true) := ho
  clear ho HTC3
  go_wp2_with fail
  refine H4.mono ?_
  rintro e w5 ⟨rfl, hdn⟩
  have N5 : Hid (NT w5 bm (0 + (vaL m).length + (prL m).length) (g1 m)) := hdn.yes rfl
  have H5 := ownOkC m.procs ap np cp w w5 bm _ (g1 m) HP.out HNP.out (below_map B4.out hdn.grown HBB.out) HBB.out N5.out (by have := HC8.out; omega) (clean_g1 m) (prLen_of HFO.out)
  rw [HO.out] at H5
  have B5 : Hid (Below w.heap.size w w5) := below_map B4.out hdn.grown HBB.out
  replace q0 := HN4.out.cell q0 hdn.grown
  replace q1 := HN4.out.cell q1 hdn.grown
  replace q2 := HN4.out.cell q2 hdn.grown
  replace q3 := HN4.out.cell q3 hdn.grown
  clear H4 hdn HN4 B4
  go_wp2_with fail
  refine H5.mono ?_
  rintro e w6 ⟨rfl, hdn⟩
  have N6 : Hid (NT w6 bm (0 + (vaL m).length + (prL m).length + 12 * np) (g1 m)) := hdn.yes rfl
  have B6 : Hid (Below w.heap.size w w6) := below_map B5.out hdn.grown HBB.out
  replace q0 := N5.out.cell q0 hdn.grown
  replace q1 := N5.out.cell q1 hdn.grown
  replace q2 := N5.out.cell q2 hdn.grown
  replace q3 := N5.out.cell q3 hdn.grown
  have H6 := usesC m fs _ w w6 b nf d HM.out HF.out HFL.out B6.out
  simp only [agg, List.toArray] at H6
  clear H5 hdn N5 B5
  cases hus : usesB m fs
  · rw [hus] at H6
    have HR : Hid (tellC m fs = 3) := by show _ = _; rw [HTC4.out, if_pos hus]
    clear hus HTC4
    go_wp2_with fail
    refine H6.mono ?_
    rintro e w7 ⟨rfl, hg7⟩
    have G7 : Hid (w.grownBy w7 none) := grown_trans (grown_below B6.out none) hg7
    clear H6 hg7 q0 q1 q2 q3
    go_wp2_with fail
    go_ret
    exact ⟨ret_int HR.out.symm, G7.out⟩
  rw [hus] at H6
  have HR : Hid (tellC m fs = toldP (usedG m.uses (g1 m) fs) 0 m.procs) := by show _ = _; rw [HTC4.out, if_neg (by rw [hus]; decide)]
  clear hus HTC4
  go_wp2_with fail
  refine H6.mono ?_
  rintro e w7 ⟨rfl, hg7⟩
  have N7 : Hid (NT w7 bm (0 + (vaL m).length + (prL m).length + 12 * np) (g1 m)) := N6.out.grown hg7
  have B7 : Hid (Below w.heap.size w w7) := B6.out.trans ((below_grown hg7).mono B6.out.size)
  replace q1 := cell_on q1 (below_grown hg7)
  replace q3 := cell_on q3 (below_grown hg7)
  have H7 := declareUsedC m.uses au nu cu fs b nf d w w7 bm _ (g1 m) HU.out HNU.out HF.out HFL.out B7.out HBB.out N7.out (by have := HC8.out; have := HF8.out; omega) HFA
  clear H6 hg7 q0 q2 N6 B6
  go_wp2_with fail
  refine H7.mono ?_
  rintro e w8 ⟨rfl, hN8, hg8⟩
  have B8 : Hid (Below w.heap.size w w8) := below_map B7.out hg8 HBB.out
  replace q3 := N7.out.cell q3 hg8
  have H8 := toldOfC m.procs ap np cp w w8 bm _ _ HP.out HNP.out B8.out HBB.out hN8 (by have := HC8.out; have := HF8.out; omega) (clean_used m.uses m fs) (prLen_of HFO.out) (fun q hq => by rw [okEn_used m.uses (moN_of HFO.out) HFN'.out hq]; exact List.all_eq_true.1 HO.out q hq) (fun q hq => wfSs_of _ ((formed_parts HFO.out).2.2.2 q hq).2) HEX.out HSX.out
  clear H7 hN8 hg8 q1 N7 B7
  go_wp2_with fail
  refine H8.mono ?_
  rintro e w9 ⟨rfl, hb9⟩
  have G9 : Hid (w.grownBy w9 none) := grown_below hb9 none
  clear H8 hb9 q3
  go_wp2_with fail
  go_ret
  exact ⟨ret_int HR.out.symm, G9.out⟩
end Go.Proofs.YtajnfknldofjlaaGreatDoor
namespace Go.Proofs.YtajnfknldofjlaaGreatDoor
open Go.RowKit Go.Shelf
set_option linter.unusedVariables false
set_option maxRecDepth 100000

theorem mok0 : moOk md0 = true := by kernel_rfl
theorem mlen0 : recLen md0.fl ≤ 1048576 := by decide +kernel
theorem mtell0 : tellC md0 [] = 0 := by kernel_rfl
theorem mok1 : moOk md1 = true := by kernel_rfl
theorem mlen1 : recLen md1.fl ≤ 1048576 := by decide +kernel
theorem mtell1 : tellC md1 [] = 2 := by kernel_rfl
theorem mok2 : moOk md2 = true := by kernel_rfl
theorem mlen2 : recLen md2.fl ≤ 1048576 := by decide +kernel
theorem mtell2 : tellC md2 [] = 3 := by kernel_rfl
theorem mok3 : moOk md3 = true := by kernel_rfl
theorem mlen3 : recLen md3.fl ≤ 1048576 := by decide +kernel
theorem mtell3 : tellC md3 [] = 2 := by kernel_rfl
theorem mok4 : moOk md4 = true := by kernel_rfl
theorem mlen4 : recLen md4.fl ≤ 1048576 := by decide +kernel
theorem mtell4 : tellC md4 [] = 2 := by kernel_rfl
theorem mok5 : moOk md5 = true := by kernel_rfl
theorem mlen5 : recLen md5.fl ≤ 1048576 := by decide +kernel
theorem mtell5 : tellC md5 [] = 0 := by kernel_rfl
theorem mok6 : moOk md6 = true := by kernel_rfl
theorem mlen6 : recLen md6.fl ≤ 1048576 := by decide +kernel
theorem mtell6 : tellC md6 [] = 4 := by kernel_rfl
theorem mok7 : moOk md7 = true := by kernel_rfl
theorem mlen7 : recLen md7.fl ≤ 1048576 := by decide +kernel
theorem mtell7 : tellC md7 [] = 4 := by kernel_rfl
end Go.Proofs.YtajnfknldofjlaaGreatDoor
namespace Go.Proofs.YtajnfknldofjlaaGreatDoor
open Go.RowKit Go.Shelf
set_option linter.unusedVariables false
set_option linter.unusedSimpArgs false
set_option maxRecDepth 100000
attribute [local go_sem] Oper.semAt_some

set_option maxHeartbeats 8000000 in
theorem checkedC (s : ByteArray) (l : List Int) (ts : List Tok) (m : Mo) (c : Int) (hs : s = strOfNums l) (hl : ∀ x ∈ l, 0 ≤ x ∧ x ≤ 255) (hn : l.length ≤ 3000) (hlex : lexAll l = ts) (hk : ∀ x ∈ ts, x.kind ≠ 0) (hM : PsMo (ts ++ [⟨1, [], l.length⟩]) m) (hok : moOk m = true) (hlen : recLen m.fl ≤ 1048576) (htl : tellC m [] = c) (w : World) (ht : TabsS w) :
    Calls Tryz.prog 4 #[.string s] w fun e w' => e = .returned (.int .i64 c) ∧ Below w.heap.size w w' := by
  subst hs
  subst hlex
  have kc := conv_str l w
  have hB : Below w.heap.size w (Lib.bytesWorld w 5 (strOfNums l)) := Lib.bytesWorld_below _ _ _
  have HP := parseC l m (some ⟨w.heap.size, 0, none⟩) l.length (grownCap w l.length 0 5) _ (conv_row hl w) hn (grownCap_ge _ _ _ _) (by have := grownCap_le_maxLen w l.length 0 5 (by unfold maxLen; omega); unfold maxLen at this; omega) (ht.below hB).toTabsR hk hM hok hlen
  go_enter Tryz.func4, Tryz.ntmps4
  go_wp2_with fail
  refine HP.mono ?_
  generalize Lib.bytesWorld w 5 (strOfNums l) = w1 at *
  rintro e w2 ⟨vs, rfl, hR, hB2⟩
  have hB3 := hB.trans (hB2.mono hB.size)
  obtain ⟨a0, n0, c0, a1, n1, c1, a2, n2, c2, a3, n3, c3, rfl⟩ := rdMo hR
  have gA := below_grown (grown_alloc w2 (.cells #[.slice a0 n0 c0, .slice a1 n1 c1, .slice a2 n2 c2, .slice a3 n3 c3] 29 (0, 0)) none)
  have b0 := Blk.new w2 29 [.slice a0 n0 c0, .slice a1 n1 c1, .slice a2 n2 c2, .slice a3 n3 c3]
  have hB4 := hB3.trans (gA.mono hB3.size)
  have tS := ht.below hB4
  have HC := implTell m [] [.slice a0 n0 c0, .slice a1 n1 c1, .slice a2 n2 c2, .slice a3 n3 c3] none 0 0 _ tS.toTabs tS.exs tS.sts (hR.below gA) hlen ⟨Nat.zero_le _, Nat.zero_le _, fun _ => rfl, fun h => by cases h⟩ rfl (fun f hf => by cases hf)
  rw [htl] at HC
  have y0 := b0.cell (i := 0) rfl
  have y1 := b0.cell (i := 1) rfl
  have y2 := b0.cell (i := 2) rfl
  have y3 := b0.cell (i := 3) rfl
  have HB : Hid _ := hB4
  simp only [agg] at HC ⊢
  clear HP kc hR hB hB2 hB3 hB4 gA b0 tS
  go_wp2_with fail
  refine HC.mono ?_
  rintro e w5 ⟨rfl, hg⟩
  have HF : Hid _ := HB.out.trans ((below_grown hg).mono HB.out.size)
  clear HC hg HB y0 y1 y2 y3
  go_wp2_with fail
  go_ret
  exact ⟨rfl, HF.out⟩
set_option maxHeartbeats 8000000 in
theorem rules_walk (a : Option Addr) (n c : Nat) (w : World) (ht : TabsS w) : Calls Tryz.prog 3 #[.slice a n c] w fun e w' => e = .returned (.bool true) ∧ Below w.heap.size w w' := by
  have H0 := fun (w1 : World) (h1 : TabsS w1) => checkedC ⟨#[77, 79, 68, 85, 76, 69, 32, 65, 32, 59, 32, 69, 78, 68, 32, 46]⟩ tx0 _ md0 0 (by kernel_rfl) (by decide) (by decide) lex0 (by decide) psmo0 mok0 mlen0 mtell0 w1 h1
  have H1 := fun (w1 : World) (h1 : TabsS w1) => checkedC ⟨#[77, 79, 68, 85, 76, 69, 32, 65, 32, 59, 32, 86, 65, 82, 32, 120, 32, 59, 32, 86, 65, 82, 32, 120, 32, 59, 32, 69, 78, 68, 32, 46]⟩ tx1 _ md1 2 (by kernel_rfl) (by decide) (by decide) lex1 (by decide) psmo1 mok1 mlen1 mtell1 w1 h1
  have H2 := fun (w1 : World) (h1 : TabsS w1) => checkedC ⟨#[77, 79, 68, 85, 76, 69, 32, 65, 32, 59, 32, 73, 77, 80, 79, 82, 84, 32, 66, 32, 59, 32, 69, 78, 68, 32, 46]⟩ tx2 _ md2 3 (by kernel_rfl) (by decide) (by decide) lex2 (by decide) psmo2 mok2 mlen2 mtell2 w1 h1
  have H3 := fun (w1 : World) (h1 : TabsS w1) => checkedC ⟨#[77, 79, 68, 85, 76, 69, 32, 65, 32, 59, 32, 80, 82, 79, 67, 32, 112, 32, 40, 32, 120, 32, 41, 32, 59, 32, 66, 69, 71, 73, 78, 32, 79, 85, 84, 32, 121, 32, 59, 32, 69, 78, 68, 32, 59, 32, 69, 78, 68, 32, 46]⟩ tx3 _ md3 2 (by kernel_rfl) (by decide) (by decide) lex3 (by decide) psmo3 mok3 mlen3 mtell3 w1 h1
  have H4 := fun (w1 : World) (h1 : TabsS w1) => checkedC ⟨#[77, 79, 68, 85, 76, 69, 32, 65, 32, 59, 32, 86, 65, 82, 32, 97, 32, 91, 32, 50, 32, 93, 32, 59, 32, 80, 82, 79, 67, 32, 112, 32, 40, 32, 120, 32, 41, 32, 59, 32, 66, 69, 71, 73, 78, 32, 79, 85, 84, 32, 97, 32, 59, 32, 69, 78, 68, 32, 59, 32, 69, 78, 68, 32, 46]⟩ tx4 _ md4 2 (by kernel_rfl) (by decide) (by decide) lex4 (by decide) psmo4 mok4 mlen4 mtell4 w1 h1
  have H5 := fun (w1 : World) (h1 : TabsS w1) => checkedC ⟨#[77, 79, 68, 85, 76, 69, 32, 65, 32, 59, 32, 86, 65, 82, 32, 97, 32, 91, 32, 50, 32, 93, 32, 59, 32, 80, 82, 79, 67, 32, 112, 32, 40, 32, 64, 32, 120, 32, 41, 32, 59, 32, 66, 69, 71, 73, 78, 32, 67, 65, 76, 76, 32, 112, 32, 40, 32, 64, 32, 97, 32, 41, 32, 59, 32, 67, 65, 76, 76, 32, 112, 32, 40, 32, 64, 32, 120, 32, 41, 32, 59, 32, 69, 78, 68, 32, 59, 32, 69, 78, 68, 32, 46]⟩ tx5 _ md5 0 (by kernel_rfl) (by decide) (by decide) lex5 (by decide) psmo5 mok5 mlen5 mtell5 w1 h1
  have H6 := fun (w1 : World) (h1 : TabsS w1) => checkedC ⟨#[77, 79, 68, 85, 76, 69, 32, 65, 32, 59, 32, 86, 65, 82, 32, 97, 32, 91, 32, 50, 32, 93, 32, 59, 32, 80, 82, 79, 67, 32, 112, 32, 40, 32, 64, 32, 120, 32, 41, 32, 59, 32, 66, 69, 71, 73, 78, 32, 67, 65, 76, 76, 32, 112, 32, 40, 32, 49, 32, 41, 32, 59, 32, 69, 78, 68, 32, 59, 32, 69, 78, 68, 32, 46]⟩ tx6 _ md6 4 (by kernel_rfl) (by decide) (by decide) lex6 (by decide) psmo6 mok6 mlen6 mtell6 w1 h1
  have H7 := fun (w1 : World) (h1 : TabsS w1) => checkedC ⟨#[77, 79, 68, 85, 76, 69, 32, 65, 32, 59, 32, 80, 82, 79, 67, 32, 112, 32, 40, 32, 120, 32, 41, 32, 59, 32, 66, 69, 71, 73, 78, 32, 67, 65, 76, 76, 32, 112, 32, 40, 32, 41, 32, 59, 32, 69, 78, 68, 32, 59, 32, 69, 78, 68, 32, 46]⟩ tx7 _ md7 4 (by kernel_rfl) (by decide) (by decide) lex7 (by decide) psmo7 mok7 mlen7 mtell7 w1 h1
  have b : Hid (Below w.heap.size w w) := Below.refl _ _
  go_enter Tryz.func3, Tryz.ntmps3
  go_wp2_with fail
  refine (H0 _ ht).mono ?_
  rintro e w1 ⟨rfl, b1⟩
  have ht := ht.below b1
  have b : Hid _ := b.out.trans (b1.mono b.out.size)
  clear b1 H0
  go_wp2_with fail
  refine (H1 _ ht).mono ?_
  rintro e w2 ⟨rfl, b1⟩
  have ht := ht.below b1
  have b : Hid _ := b.out.trans (b1.mono b.out.size)
  clear b1 H1
  go_wp2_with fail
  refine (H2 _ ht).mono ?_
  rintro e w3 ⟨rfl, b1⟩
  have ht := ht.below b1
  have b : Hid _ := b.out.trans (b1.mono b.out.size)
  clear b1 H2
  go_wp2_with fail
  refine (H3 _ ht).mono ?_
  rintro e w4 ⟨rfl, b1⟩
  have ht := ht.below b1
  have b : Hid _ := b.out.trans (b1.mono b.out.size)
  clear b1 H3
  go_wp2_with fail
  refine (H4 _ ht).mono ?_
  rintro e w5 ⟨rfl, b1⟩
  have ht := ht.below b1
  have b : Hid _ := b.out.trans (b1.mono b.out.size)
  clear b1 H4
  go_wp2_with fail
  refine (H5 _ ht).mono ?_
  rintro e w6 ⟨rfl, b1⟩
  have ht := ht.below b1
  have b : Hid _ := b.out.trans (b1.mono b.out.size)
  clear b1 H5
  go_wp2_with fail
  refine (H6 _ ht).mono ?_
  rintro e w7 ⟨rfl, b1⟩
  have ht := ht.below b1
  have b : Hid _ := b.out.trans (b1.mono b.out.size)
  clear b1 H6
  go_wp2_with fail
  refine (H7 _ ht).mono ?_
  rintro e w8 ⟨rfl, b1⟩
  have ht := ht.below b1
  have b : Hid _ := b.out.trans (b1.mono b.out.size)
  clear b1 H7
  go_wp2_with fail
  go_ret
  exact ⟨rfl, b.out⟩
end Go.Proofs.YtajnfknldofjlaaGreatDoor

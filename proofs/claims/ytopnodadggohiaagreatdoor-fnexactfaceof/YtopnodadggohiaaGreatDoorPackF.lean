import Derived.Test.YtopnodadggohiaaGreatDoorPackG
import Derived.Test.YtopnodadggohiaaGreatDoorAppendB
import Derived.Test.YtopnodadggohiaaGreatDoorPackJ
import Derived.Test.YtopnodadggohiaaGreatDoorModImpl
import Derived.Test.YtopnodadggohiaaGreatDoorModBoth
/- What others see of a module: kinds of parameters, names cloned. -/
namespace Go.Proofs.YtopnodadggohiaaGreatDoor
open Go.RowKit
set_option linter.unusedVariables false
set_option linter.unusedSimpArgs false
set_option maxRecDepth 100000

def tI (b : Bool) : Int := if b then 1 else 0
def kindsP (ps : List Pa) : List Int := ps.map fun a => tI a.arr
theorem kindsP_next {ps : List Pa} {j : Nat} {x : Pa} (h : ps[j]? = some x) : kindsP (ps.take (j + 1)) = kindsP (ps.take j) ++ [tI x.arr] := by
 obtain ⟨hj, rfl⟩ := List.getElem?_eq_some_iff.1 h
 unfold kindsP
 rw [List.take_succ_eq_append_getElem hj, List.map_append]
 rfl
theorem kindsP_int (ps : List Pa) : isI (kindsP ps) := by
 intro x hx
 obtain ⟨a, _, rfl⟩ := List.mem_map.1 hx
 unfold tI
 split <;> omega

theorem truthC (x : Bool) (w : World) : Calls Tryz.prog 66 #[.bool x] w fun e w' => e = .returned (.int .i64 (tI x)) ∧ w' = w := by
 cases x <;> (go_enter Tryz.func66, Tryz.ntmps66; go_wp2; go_ret; exact ⟨rfl, rfl⟩)

theorem l4boolC (x : Bool) (w : World) : Calls Tryz.prog 109 #[.bool x] w fun e w' => e = .returned (.int .i64 (tI x)) ∧ w' = w := by
 cases x <;> (go_enter Tryz.func109, Tryz.ntmps109; go_wp2; go_ret; exact ⟨rfl, rfl⟩)

theorem wpList_appendI {w : World} {ops : Array Oper} {rest : List Oper} {o : Oper} {a : Act} {Q : Exit → Act → World → Prop} (hgd : o.guard = none) (s x : Operand)
  (ho : o.op = .call { callee := .builtin .append, args := #[s, x], argTypes := #[63, 63] })
  (base : Nat) (v : Value) (n : Nat) (l : List Int) (hs : a.eval s = v) (hown : w.ownsRow base 3 1 v n (iV l))
  (g : Nat) (z : Int) (hx : a.eval x = .slice (some ⟨g, 0, none⟩) 1 1) (hc : w.cell? ⟨g, 0, none⟩ = some (.int .i64 z)) (hsz : n ≤ 1099511627776) (hbase : base ≤ w.heap.size)
  (h : ∀ v' w', w'.ownsRow base 3 1 v' (n + 1) (iV (l ++ [z])) → w.grownBy w' v.ownBlock → wpList Tryz.prog ops Q rest (a.put o.dst v') w') : wpList Tryz.prog ops Q (o :: rest) a w := by
 obtain ⟨i0, hi, hz0, hz1, hz2⟩ := info_parts info3
 refine wpList_append_own w hgd s x 63 ho base 3 i0 (.int .i64 0) 1 8 Tryz.underlying63 hi hz0 hz1 hz2 rfl (by decide) v n _ hs hown ⟨g, 0, none⟩ 1 1 [.int .i64 z] hx rfl ?_ (by simp [Value.oneCell']) (by unfold maxLen; omega) (by omega) hbase ?_
 ·
  intro j u hu
  match j, hu with
  | 0, hu => simp at hu; subst hu; exact hc
  | j + 1, hu => simp at hu
 ·
  intro v' w' ho' hg' _
  exact h v' w' (by simpa [iV] using ho') hg'

set_option maxHeartbeats 2000000 in
theorem kindsC (ps : List Pa) (a : Option Addr) (n c : Nat) (w : World) (hl : ps.length = n) (h : LRow w a c 2 (ps.map Pa.fl)) (hn : n ≤ 1048576) :
  Calls Tryz.prog 31 #[.slice a n c] w fun e w' => ∃ v, e = .returned v ∧ Ob w' 3 w.heap.size w'.heap.size v n (iV (kindsP ps)) ∧ Below w.heap.size w w' := by
 have HL : Hid (ps.length = n) := hl
 have HR : Hid (LRow w a c 2 (ps.map Pa.fl)) := h
 clear hl h
 go_enter Tryz.func31, Tryz.ntmps31
 go_wp2_with fail
 go_loopw [3, 8] (fun kv i wr => ∃ j : Nat, j ≤ n ∧ i = .int .i64 j ∧ Hid (wr.ownsRow w.heap.size 3 1 kv j (iV (kindsP (ps.take j)))) ∧ Hid (Below w.heap.size w wr)) (fun _ i _ => n - (intOf i).toNat)
 case atStart => exact ⟨0, Nat.zero_le _, rfl, World.ownsRow_nil _ _ _ _, Below.refl _ _⟩
 case round =>
  obtain ⟨j, hj, rfl, ho, hb⟩ := hrel
  obtain ⟨a3, c3, rfl, _, _, _, _⟩ := owns_shape ho.out
  by_cases hlt : j < n
  ·
   obtain ⟨x, hx⟩ : ∃ x, ps[j]? = some x := ⟨_, List.getElem?_eq_getElem (by rw [HL.out]; exact hlt)⟩
   obtain ⟨bx, offx, rfl⟩ := LRow.addr HR.out (by rw [List.length_map, HL.out]; omega)
   obtain ⟨vs, hvs, hcl⟩ := (LRow.el HR.out (show (ps.map Pa.fl)[j]? = some x.fl by rw [List.getElem?_map, hx]; rfl)).vals
   obtain ⟨y0, us, rfl, ⟨ax, cx, rfl, _⟩, y1, us1, rfl, rfl, rfl⟩ := hvs
   have r0 := cell_on (hcl 0 _ rfl) hb.out
   have r1 := cell_on (hcl 1 _ rfl) hb.out
   rw [Nat.add_zero] at r0
   have HK : Hid (kindsP (ps.take (j + 1)) = kindsP (ps.take j) ++ [tI x.arr]) := kindsP_next hx
   have x1 := Blk.new wr 107 [.slice ax x.name.length cx, .bool x.arr]
   have HO : Hid ((wr.alloc (.cells #[.slice ax x.name.length cx, .bool x.arr] 107 (0, 0))).ownsRow w.heap.size 3 1 (.slice a3 j c3) j (iV (kindsP (ps.take j)))) := ho.out.alloc _
   have HB : Hid (Below w.heap.size w (wr.alloc (.cells #[.slice ax x.name.length cx, .bool x.arr] 107 (0, 0)))) := hb.out.alloc hb.out.size _
   simp only [List.toArray] at x1
   clear hcl hx ho hb
   go_upto_region 5 with fail
   generalize wr.alloc (.cells #[.slice ax x.name.length cx, .bool x.arr] 107 (0, 0)) = w1 at *
   have q1 := x1.cell (i := 1) rfl
   have HT := truthC x.arr w1
   have hw1 := HB.out.size
   have hc1 : (w1.alloc (.cells #[.int .i64 (tI x.arr)] 3)).cell? ⟨w1.heap.size, 0, none⟩ = some (.int .i64 (tI x.arr)) := by simp
   have HO2 : Hid ((w1.alloc (.cells #[.int .i64 (tI x.arr)] 3)).ownsRow w.heap.size 3 1 (.slice a3 j c3) j (iV (kindsP (ps.take j)))) := HO.out.alloc _
   have HB2 : Hid (Below w.heap.size w (w1.alloc (.cells #[.int .i64 (tI x.arr)] 3))) := HB.out.alloc hw1 _
   clear HO HB
   go_wp2_with fail
   refine HT.mono ?_
   rintro e w2 ⟨rfl, rfl⟩
   go_wp2_with (at_builtin; refine wpList_appendI rfl _ _ rfl w.heap.size _ j _ rfl HO2.out w2.heap.size (tI x.arr) rfl hc1 (by omega) (by simp; omega) ?_)
   intro v3 w3 ho3 hg3
   have HO3 : Hid (w3.ownsRow w.heap.size 3 1 v3 (j + 1) (iV (kindsP (ps.take (j + 1))))) := by rw [HK.out]; exact ho3
   have HB3 : Hid (Below w.heap.size w w3) := HB2.out.grown hg3 HB2.out.size (fun k hk => (HO2.out.lt k hk).1)
   clear HO2 HB2 ho3 hg3 HT r0 r1 q1 hc1 hw1
   go_wp2_with fail
   go_roundw
   case rel => exact ⟨j + 1, by omega, by go_num, HO3, HB3⟩
   case measure => simp [intOf]; omega
  ·
   have : n = j := by omega
   subst this
   have hO := ho.out
   rw [List.take_of_length_le (by rw [HL.out]; exact Nat.le_refl _)] at hO
   go_wp2_with fail
   go_ret
   exact ⟨_, rfl, ⟨hO, fun k hk => (hO.lt k hk).2⟩, hb.out⟩

set_option maxHeartbeats 2000000 in
theorem l7kindsC (q : Pr) (vs : List Value) (w : World) (h : RdVals w q.fl vs) (hn : q.params.length ≤ 1048576) :
  Calls Tryz.prog 62 #[agg vs] w fun e w' => ∃ v, e = .returned v ∧ Ob w' 3 w.heap.size w'.heap.size v q.params.length (iV (kindsP q.params)) ∧ Below w.heap.size w w' := by
 obtain ⟨v0, _, rfl, _, v1, _, rfl, _, v2, _, rfl, h2, v3, _, rfl, _, v4, _, rfl, _, rfl⟩ := h
 obtain ⟨a, c, rfl, hR⟩ := h2.list
 have x0 := Blk.new w 62 [v0, v1, .slice a (q.params.map Pa.fl).length c, v3, v4]
 have y0 : Below w.heap.size w (w.alloc (.cells #[v0, v1, .slice a (q.params.map Pa.fl).length c, v3, v4] 62 (0, 0))) := (Below.refl _ _).alloc (Nat.le_refl _) _
 obtain ⟨n, hN⟩ : ∃ z, z = q.params.length := ⟨_, rfl⟩
 have HL : Hid (q.params.length = n) := hN.symm
 have HR : Hid (LRow w a c 2 (q.params.map Pa.fl)) := hR
 rw [List.length_map, ← hN] at x0 y0
 rw [List.length_map]
 rw [← hN] at hn ⊢
 simp only [List.toArray] at x0
 simp only [agg]
 clear hR h2 hN
 go_enter Tryz.func62, Tryz.ntmps62
 go_upto_region 1 with fail
 generalize w.alloc (.cells #[v0, v1, .slice a n c, v3, v4] 62 (0, 0)) = w1 at *
 obtain ⟨gx, hgx⟩ : ∃ z, z = w.heap.size := ⟨_, rfl⟩
 have HX : Hid (Blk w1 w.heap.size 62 [v0, v1, .slice a n c, v3, v4]) := x0
 have H1 : Hid (Below w.heap.size w w1) := y0
 have hlt1 := x0.lt
 clear x0 y0 hgx gx
 go_wp2_with fail
 go_loopw [3, 4] (fun kv i wr => ∃ j : Nat, j ≤ n ∧ i = .int .i64 j ∧ Hid (wr.ownsRow w1.heap.size 3 1 kv j (iV (kindsP (q.params.take j)))) ∧ Hid (Below w1.heap.size w1 wr)) (fun _ i _ => n - (intOf i).toNat)
 case atStart => exact ⟨0, Nat.zero_le _, rfl, World.ownsRow_nil _ _ _ _, Below.refl _ _⟩
 case round =>
  obtain ⟨j, hj, rfl, ho, hb⟩ := hrel
  obtain ⟨a3, c3, rfl, _, _, _, _⟩ := owns_shape ho.out
  have x1 := HX.out.below hb.out hlt1
  have k2 := x1.cell (i := 2) rfl
  by_cases hlt : j < n
  ·
   obtain ⟨x, hx⟩ : ∃ x, q.params[j]? = some x := ⟨_, List.getElem?_eq_getElem (by rw [HL.out]; exact hlt)⟩
   obtain ⟨bx, offx, rfl⟩ := LRow.addr HR.out (by rw [List.length_map, HL.out]; omega)
   obtain ⟨vs, hvs, hcl⟩ := (LRow.el HR.out (show (q.params.map Pa.fl)[j]? = some x.fl by rw [List.getElem?_map, hx]; rfl)).vals
   obtain ⟨y0, us, rfl, ⟨ax, cx, rfl, _⟩, y1, us1, rfl, rfl, rfl⟩ := hvs
   have hbw : Below w.heap.size w wr := H1.out.trans (hb.out.mono H1.out.size)
   have r1 := cell_on (hcl 1 _ rfl) hbw
   have HK : Hid (kindsP (q.params.take (j + 1)) = kindsP (q.params.take j) ++ [tI x.arr]) := kindsP_next hx
   have HT := l4boolC x.arr wr
   have hw1 := hb.out.size
   have hc1 : (wr.alloc (.cells #[.int .i64 (tI x.arr)] 3)).cell? ⟨wr.heap.size, 0, none⟩ = some (.int .i64 (tI x.arr)) := by simp
   have HO2 : Hid ((wr.alloc (.cells #[.int .i64 (tI x.arr)] 3)).ownsRow w1.heap.size 3 1 (.slice a3 j c3) j (iV (kindsP (q.params.take j)))) := ho.out.alloc _
   have HB2 : Hid (Below w1.heap.size w1 (wr.alloc (.cells #[.int .i64 (tI x.arr)] 3))) := hb.out.alloc hw1 _
   clear hcl hx ho hb x1 hbw
   go_wp2_with fail
   refine HT.mono ?_
   rintro e w2 ⟨rfl, rfl⟩
   go_wp2_with (at_builtin; refine wpList_appendI rfl _ _ rfl w1.heap.size _ j _ rfl HO2.out w2.heap.size (tI x.arr) rfl hc1 (by omega) (by simp; omega) ?_)
   intro v3 w3 ho3 hg3
   have HO3 : Hid (w3.ownsRow w1.heap.size 3 1 v3 (j + 1) (iV (kindsP (q.params.take (j + 1))))) := by rw [HK.out]; exact ho3
   have HB3 : Hid (Below w1.heap.size w1 w3) := HB2.out.grown hg3 HB2.out.size (fun k hk => (HO2.out.lt k hk).1)
   clear HO2 HB2 ho3 hg3 HT r1 hc1 hw1 k2
   go_wp2_with fail
   go_roundw
   case rel => exact ⟨j + 1, by omega, by go_num, HO3, HB3⟩
   case measure => simp [intOf]; omega
  ·
   have : n = j := by omega
   subst this
   have hO := ho.out
   rw [List.take_of_length_le (by rw [HL.out]; exact Nat.le_refl _)] at hO
   have HF : Hid (Ob wr 3 w.heap.size wr.heap.size (.slice a3 n c3) n (iV (kindsP q.params)) ∧ Below w.heap.size w wr) := ⟨⟨owns_mono hO H1.out.size, fun k hk => (hO.lt k hk).2⟩, H1.out.trans (hb.out.mono H1.out.size)⟩
   clear hO ho hb x1
   go_wp2_with fail
   go_ret
   exact ⟨_, rfl, HF.out⟩

set_option maxHeartbeats 1000000 in
theorem cloneC (a : Option Addr) (n c : Nat) (l : List Int) (w : World) (h : BRow w a n l) (hz : a = none → c = 0) (hn : n ≤ 1048576) :
  Calls Tryz.prog 30 #[.slice a n c] w fun e w' => ∃ v, e = .returned v ∧ Ob w' 5 w.heap.size w'.heap.size v n (bV l) ∧ Below w.heap.size w w' := by
 cases a with
 | none =>
  obtain rfl := hz rfl
  have h0 : n = 0 := by
   rcases Nat.eq_zero_or_pos n with h0 | hp
   ·
    exact h0
   ·
    obtain ⟨b, off, e, _⟩ := h.2.2 hp; cases e
  subst h0
  obtain rfl : l = [] := List.eq_nil_of_length_eq_zero h.1
  have hq : ∀ w, (binOp .eql 22 (.slice none 0 0) (.slice none 0 0)).run Tryz.prog w = .ok (.bool true) w := fun w => by kernel_rfl
  have HF : Hid (Ob w 5 w.heap.size w.heap.size (.slice none 0 0) 0 (bV [])) := ⟨World.ownsRow_nil _ _ _ _, fun k hk => by cases hk⟩
  clear h hz
  go_enter Tryz.func30, Tryz.ntmps30
  go_wp2_with fail
  go_ret
  exact ⟨_, rfl, HF.out, Below.refl _ _⟩
 | some x =>
  have hq : ∀ w, (binOp .eql 22 (.slice (some x) n c) (.slice none 0 0)).run Tryz.prog w = .ok (.bool false) w := fun w => by kernel_rfl
  have hE := own_empty w
  have hB := below_empty w
  have hR := h.below hB
  clear h
  go_enter Tryz.func30, Tryz.ntmps30
  go_wp2_with (at_builtin; refine wpList_appendB rfl _ _ rfl w.heap.size _ 0 [] rfl hE _ n c l rfl hR hz (by omega) (by simp) ?_)
  intro v3 w3 ho3 hg3
  have HF : Hid (Ob w3 5 w.heap.size w3.heap.size v3 n (bV l) ∧ Below w.heap.size w w3) := by
   exact ⟨⟨ho3.1, fun k hk => (ho3.1.lt k hk).2⟩, hB.grown hg3 hB.size (fun k hk => (hE.1.lt k hk).1)⟩
  clear ho3 hg3 hE hB hR
  go_wp2_with fail
  go_ret
  exact ⟨_, rfl, HF.out⟩
end Go.Proofs.YtopnodadggohiaaGreatDoor

/- What others see of a module, by the program and by the specification. -/
namespace Go.Proofs.YtopnodadggohiaaGreatDoor
open Go.RowKit
set_option linter.unusedVariables false
set_option linter.unusedSimpArgs false
set_option maxRecDepth 100000

def Pr.fp (q : Pr) : Fp := ⟨q.name, kindsP q.params⟩
def fpsOf (l : List Pr) : List Fp := (l.filter Pr.opn).map Pr.fp
def faceC (m : Mo) : Fa := ⟨m.name, fpsOf m.procs⟩
def faceP (m : Mo) : Fa := if moOk m = true then faceC m else ⟨[], []⟩
theorem fpsOf_next {l : List Pr} {j : Nat} {q : Pr} (h : l[j]? = some q) : fpsOf (l.take (j + 1)) = fpsOf (l.take j) ++ (if q.opn = true then [q.fp] else []) := by
 obtain ⟨hj, rfl⟩ := List.getElem?_eq_some_iff.1 h
 unfold fpsOf
 rw [List.take_succ_eq_append_getElem hj, List.filter_append, List.map_append]
 congr 1
 cases h : l[j].opn <;> simp [h]
theorem fpsOf_len (l : List Pr) : (fpsOf l).length ≤ l.length := by
 unfold fpsOf
 rw [List.length_map]
 exact List.length_filter_le _ _

theorem info66 : (Tryz.prog.info? 66).map (fun i => (i.zero, i.size, i.bytes)) = some (some (.agg #[.slice none 0 0, .slice none 0 0]), 2, 48) := by kernel_rfl

theorem wp_appendF {w : World} {o : Oper} {a : Act} {Q : Exit → Act → World → Prop} {K : Act → World → Prop} (s x : Operand)
  (ho : o.op = .call { callee := .builtin .append, args := #[s, x], argTypes := #[29, 29] })
  (base : Nat) (v : Value) (n : Nat) (l : List (Value × Value)) (hs : a.eval s = v) (hown : w.ownsRow base 66 2 v n (flat2 l))
  (g : Nat) (y z : Value) (hx : a.eval x = .slice (some ⟨g, 0, none⟩) 1 1) (hr : Blk w g 66 [y, z]) (hy : y.oneCell' = true) (hz : z.oneCell' = true)
  (hsz : n ≤ 1048576) (hbase : base ≤ w.heap.size)
  (h : ∀ v' w', w'.ownsRow base 66 2 v' (n + 1) (flat2 l ++ [y, z]) → w.grownBy w' v.ownBlock → K (a.put o.dst v') w') : Oper.wp Tryz.prog o a w K Q := by
 obtain ⟨i0, hi, hz0, hz1, hz2⟩ := info_parts info66
 refine wp_append_own w s x 29 ho base 66 i0 (.agg #[.slice none 0 0, .slice none 0 0]) 2 48 Tryz.underlying29 hi hz0 hz1 hz2 rfl (by decide) v n _ hs hown ⟨g, 0, none⟩ 1 1 [y, z] hx rfl ?_ (by intro u hu; simp at hu; rcases hu with rfl | rfl <;> assumption) (by unfold maxLen; omega) (by omega) hbase ?_
 ·
  intro j u hu
  match j, hu with
  | 0, hu => simp at hu; subst hu; exact hr.cell (i := 0) rfl
  | 1, hu => simp at hu; subst hu; exact hr.cell (i := 1) rfl
  | j + 2, hu => simp at hu
 ·
  intro v' w' ho' hg' _
  exact h v' w' ho' hg'

theorem Fg.nil (w : World) {lo hi : Nat} (h : lo ≤ hi) : Fg w lo hi (.slice none 0 0) (.slice none 0 0) [] ⟨[], []⟩ :=
 ⟨⟨lo, Nat.le_refl _, h, ⟨World.ownsRow_nil _ _ _ _, (fun k hk => by cases hk)⟩, (fun x hx => by cases hx), rfl⟩, World.ownsRow_nil _ _ _ _, fun k hk => by cases hk⟩
theorem Fg.first {w : World} {lo hi : Nat} {nv : Value} {l : List Int} (h : Ob w 5 lo hi nv l.length (bV l)) (hb : isB l) (hl : lo ≤ hi) : Fg w lo hi nv (.slice none 0 0) [] ⟨l, []⟩ :=
 ⟨⟨hi, hl, Nat.le_refl _, h, hb, rfl⟩, World.ownsRow_nil _ _ _ _, fun k hk => by cases hk⟩
/-- A store into a variable that holds a face. -/
theorem Fg.other {w : World} {lo hi g i : Nat} {nv pv v : Value} {l : List (Value × Value)} {f : Fa} {vs : List Value} (h : Fg w lo hi nv pv l f) (hb : Blk w g 31 vs) : Fg (w.setCell ⟨g, i, none⟩ v) lo hi nv pv l f := by
 have key : ∀ (k : Nat) (T : TypeId) (cur : Array Value), T ≠ 31 → w.heap[k]? = some (.cells cur T (0, 0)) → (w.setCell ⟨g, i, none⟩ v).heap[k]? = w.heap[k]? := by
  intro k T cur hT hk
  refine heap_setCell_other w ⟨g, i, none⟩ k v (fun e => ?_)
  simp only at e
  rw [e, hb] at hk
  simp only [Option.some.injEq, Obj.cells.injEq] at hk
  exact hT hk.2.1.symm
 obtain ⟨m, a, b, h1, hb', h2⟩ := h.name
 refine ⟨⟨m, a, b, h1.stays (fun g' p q ⟨c, r⟩ => key _ _ c (by decide) r), hb', h2.stays (fun g' p q r => ?_)⟩, owns_stays h.row (fun g' hg' => ?_), h.lt⟩
 ·
  rcases r with ⟨c, r⟩ | ⟨c, r⟩
  ·
   exact key _ _ c (by decide) r
  ·
   exact key _ _ c (by decide) r
 ·
  obtain ⟨c, r⟩ := owns_type h.row hg'
  exact key _ _ c (by decide) r
theorem row_face {w : World} {lo g n : Nat} {pv : Value} {xs vs : List Value} {T : TypeId} (hr : w.ownsRow lo 66 2 pv n xs) (hb : Blk w g T vs) (hT : T ≠ 66) : pv.ownBlock ≠ some g := by
 intro e
 obtain ⟨c, h⟩ := owns_type hr e
 rw [hb] at h
 simp only [Option.some.injEq, Obj.cells.injEq] at h
 exact hT h.2.1

/-- A call in world w came back in w' with a face of its own; all that was there is as it was. -/
structure Seen (w w' : World) (nv pv : Value) (f : Fa) : Prop where
 got : ∃ l, Fg w' w.heap.size w'.heap.size nv pv l f
 below : Below w.heap.size w w'

/-- How far the face is. -/
structure FSt (w : World) (gM gR gF : Nat) (mv : List Value) (nv : Value) (name : List Int) (ps : List Pr) (wr : World) (j : Nat) (pv : Value) (l : List (Value × Value)) : Prop where
 m : Blk wr gM 36 mv
 r : Blk wr gR 31 [.slice none 0 0, .slice none 0 0]
 f : Blk wr gF 31 [nv, pv]
 g : Fg wr w.heap.size wr.heap.size nv pv l ⟨name, fpsOf (ps.take j)⟩
 b : Below w.heap.size w wr
 n1 : gM ≠ gF
 n2 : gR ≠ gF
 lo : w.heap.size ≤ gF
theorem FSt.grow {w wr w1 : World} {gM gR gF j : Nat} {mv : List Value} {nv pv : Value} {name : List Int} {ps : List Pr} {l : List (Value × Value)} (h : FSt w gM gR gF mv nv name ps wr j pv l) (hb : Below wr.heap.size wr w1) : FSt w gM gR gF mv nv name ps w1 j pv l :=
 ⟨h.m.below hb h.m.lt, h.r.below hb h.r.lt, h.f.below hb h.f.lt, (h.g.stays (Stays.of hb (Nat.le_refl _))).wide (Nat.le_refl _) hb.size, h.b.trans (hb.mono h.b.size), h.n1, h.n2, h.lo⟩
theorem FSt.skip {w wr : World} {gM gR gF j : Nat} {mv : List Value} {nv pv : Value} {name : List Int} {ps : List Pr} {l : List (Value × Value)} {q : Pr} (h : FSt w gM gR gF mv nv name ps wr j pv l) (hq : ps[j]? = some q) (ho : q.opn = false) : FSt w gM gR gF mv nv name ps wr (j + 1) pv l := by
 have e : fpsOf (ps.take (j + 1)) = fpsOf (ps.take j) := by rw [fpsOf_next hq, ho]; simp
 exact ⟨h.m, h.r, h.f, by rw [e]; exact h.g, h.b, h.n1, h.n2, h.lo⟩
theorem FSt.push {w wr wa wb wc wd : World} {gM gR gF j : Nat} {mv : List Value} {nv pv pv' x y : Value} {name : List Int} {ps : List Pr} {l : List (Value × Value)} {q : Pr} (h : FSt w gM gR gF mv nv name ps wr j pv l) (hq : ps[j]? = some q) (ho : q.opn = true)
  (b1 : Below wr.heap.size wr wa) (hx : Ob wa 5 wr.heap.size wa.heap.size x q.name.length (bV q.name)) (hxb : isB q.name)
  (b2 : Below wa.heap.size wa wb) (hy : Ob wb 3 wa.heap.size wb.heap.size y (kindsP q.params).length (iV (kindsP q.params)))
  (b3 : Below wb.heap.size wb wc) (hr : wd.ownsRow w.heap.size 66 2 pv' ((fpsOf (ps.take j)).length + 1) (flat2 l ++ [x, y])) (hg : wc.grownBy wd pv.ownBlock) :
  FSt w gM gR gF mv nv name ps (wd.setCell ⟨gF, 1, none⟩ pv') (j + 1) pv' (l ++ [(x, y)]) ∧ Blk wd gF 31 [nv, pv] := by
 have hbc : Below wr.heap.size wr wc := (b1.trans (b2.mono b1.size)).trans (b3.mono (Nat.le_trans b1.size b2.size))
 have hc := h.grow hbc
 have hrow := hc.g.row
 have hF := hc.f.below_row hg (row_face hrow hc.f (by decide))
 have e : fpsOf (ps.take (j + 1)) = fpsOf (ps.take j) ++ [q.fp] := by rw [fpsOf_next hq, ho]; simp
 have hG := h.g.push (d := q.fp) (Nat.le_trans h.b.size (Nat.le_refl _)) (Nat.le_refl _) b1 hx hxb b2 hy (kindsP_int _) b3 hr hg
 refine ⟨⟨(hc.m.below_row hg (row_face hrow hc.m (by decide))).other h.n1, (hc.r.below_row hg (row_face hrow hc.r (by decide))).other h.n2, hF.set (i := 1) pv', ?_, ?_, h.n1, h.n2, h.lo⟩, hF⟩
 ·
  rw [e]
  have := hG.other (i := 1) (v := pv') hF
  simpa using this
 ·
  exact (hc.b.grown hg hc.b.size (fun k hk => (hrow.lt k hk).1)).setCell h.lo _
end Go.Proofs.YtopnodadggohiaaGreatDoor

/- What others see of a module: impl.FaceOf. -/
namespace Go.Proofs.YtopnodadggohiaaGreatDoor
open Go.RowKit
set_option linter.unusedVariables false
set_option linter.unusedSimpArgs false
set_option maxRecDepth 100000

theorem procs_le (m : Mo) {q : Pr} (hq : q ∈ m.procs) : q.name.length + q.params.length + m.procs.length ≤ recLen m.fl := by
 have h1 := recLen_le (List.mem_map_of_mem (f := Pr.fl) hq)
 have e : recLen q.fl = q.name.length + ((q.params.map Pa.fl).length + rowsLen (q.params.map Pa.fl) + (0 + recLen [.l 1 (txts q.locals), .l 6 (sts q.body)])) := by simp [Pr.fl, recLen, Fl.len]
 have e2 : recLen m.fl = m.name.length + (Fl.len (.l 1 (txts m.uses)) + (Fl.len (.l 2 (m.vars.map Va.fl)) + ((m.procs.map Pr.fl).length + rowsLen (m.procs.map Pr.fl)))) := by simp [Mo.fl, recLen, Fl.len]
 rw [e] at h1
 rw [e2]
 simp only [List.length_map] at h1 ⊢
 omega

set_option maxHeartbeats 8000000 in
theorem implFaceOf (m : Mo) (vs : List Value) (w : World) (hT : Tabs w) (h : RdVals w m.fl vs) (hs : recLen m.fl ≤ 1048576) :
  Calls Tryz.prog 8 #[agg vs] w fun e w' => ∃ nv pv, e = .returned (.agg #[nv, pv]) ∧ Seen w w' nv pv (faceP m) := by
 have hM := h
 obtain ⟨v0, _, rfl, ⟨a0, c0, rfl, hB0, hc0, _, hz0⟩, v1, _, rfl, _, v2, _, rfl, _, v3, _, rfl, h3, rfl⟩ := h
 obtain ⟨a3, c3, rfl, hL⟩ := h3.list
 have hnp : m.procs.length ≤ 1048576 := by
  have : (m.procs.map Pr.fl).length ≤ recLen m.fl := by simp [Mo.fl, recLen, Fl.len]; omega
  rw [List.length_map] at this
  omega
 have hnn : m.name.length ≤ 1048576 := by have : m.name.length ≤ recLen m.fl := (by simp [Mo.fl, recLen, Fl.len]); omega
 have HMl : Hid (∀ q ∈ m.procs, q.name.length + q.params.length ≤ 1048576) := fun q hq => by have := procs_le m hq; omega
 have x0 := (Blk.new w 36 [.slice a0 m.name.length c0, v1, v2, .slice a3 (m.procs.map Pr.fl).length c3]).old (o := .cells #[.slice none 0 0, .slice none 0 0] 31 (0, 0))
 have z0 := Blk.new (w.alloc (.cells #[.slice a0 m.name.length c0, v1, v2, .slice a3 (m.procs.map Pr.fl).length c3] 36 (0, 0))) 31 [.slice none 0 0, .slice none 0 0]
 have y0 : Below w.heap.size w ((w.alloc (.cells #[.slice a0 m.name.length c0, v1, v2, .slice a3 (m.procs.map Pr.fl).length c3] 36 (0, 0))).alloc (.cells #[.slice none 0 0, .slice none 0 0] 31 (0, 0))) := ((Below.refl _ _).alloc (Nat.le_refl _) _).alloc (by simp) _
 have H1 := implModB m _ _ (hT.below y0) (hM.below y0) hs
 simp only [List.toArray] at x0 z0 H1
 have hgz : (w.alloc (.cells #[.slice a0 m.name.length c0, v1, v2, .slice a3 (m.procs.map Pr.fl).length c3] 36 (0, 0))).heap.size = w.heap.size + 1 := by simp
 rw [hgz] at z0
 clear hgz
 obtain ⟨np, hNP⟩ : ∃ z, z = m.procs.length := ⟨_, rfl⟩
 have HNP : Hid (m.procs.length = np) := hNP.symm
 rw [List.length_map, ← hNP] at x0 z0 y0 H1
 rw [List.length_map]
 rw [← hNP] at hnp ⊢
 clear hM h3 hNP hT
 simp only [agg]
 have HL : Hid (LRow w a3 c3 5 (m.procs.map Pr.fl)) := hL
 have HB0 : Hid (BRow w a0 m.name.length m.name) := hB0
 clear hL hB0
 go_enter Tryz.func8, Tryz.ntmps8
 go_upto_region 1 with fail
 generalize (w.alloc (.cells #[.slice a0 m.name.length c0, v1, v2, .slice a3 np c3] 36 (0, 0))).alloc (.cells #[.slice none 0 0, .slice none 0 0] 31 (0, 0)) = w1 at *
 obtain ⟨q0, q1, q2, q3⟩ := x0.c4
 cases hf : moOk m
 ·
  have HF : Hid (faceP m = ⟨[], []⟩) := by show faceP m = _; unfold faceP; rw [hf]; rfl
  rw [hf] at H1
  clear hf
  go_wp2_with fail
  refine H1.mono ?_
  rintro e w2 ⟨rfl, hg⟩
  have z2 := z0.below (below_grown hg) z0.lt
  have y2 : Below w.heap.size w w2 := y0.trans ((below_grown hg).mono y0.size)
  clear H1 q0 q1 q2 q3 x0 z0 y0 hg
  obtain ⟨d0, d1⟩ := z2.c2
  have f0 := z2.free 0
  have f1 := z2.free 1
  have z3 := (z2.set (i := 0) (.slice none 0 0)).set (i := 1) (.slice none 0 0)
  have y3 : Below w.heap.size w ((w2.setCell ⟨w.heap.size + 1, 0, none⟩ (.slice none 0 0)).setCell ⟨w.heap.size + 1, 1, none⟩ (.slice none 0 0)) := (y2.setCell (Nat.le_succ _) _).setCell (Nat.le_succ _) _
  go_wp2_with fail
  generalize (w2.setCell ⟨w.heap.size + 1, 0, none⟩ (.slice none 0 0)).setCell ⟨w.heap.size + 1, 1, none⟩ (.slice none 0 0) = w3 at *
  obtain ⟨e0, e1⟩ := z3.c2
  refine bodyPost_ret (v := .agg #[.slice none 0 0, .slice none 0 0]) (by simp only [results, Tryz.results8]; simp [go_sem, e0, e1]) rfl ⟨_, _, rfl, ⟨[], by rw [HF.out]; exact Fg.nil w3 y3.size⟩, y3⟩
 ·
  have HF : Hid (faceP m = faceC m) := by show faceP m = _; unfold faceP; rw [hf]; rfl
  rw [hf] at H1
  clear hf
  go_wp2_with fail
  refine H1.mono ?_
  rintro e w2 ⟨rfl, hg⟩
  have x2 := x0.below (below_grown hg) x0.lt
  have z2 := z0.below (below_grown hg) z0.lt
  have y2 : Below w.heap.size w w2 := y0.trans ((below_grown hg).mono y0.size)
  clear H1 q0 q1 q2 q3 x0 z0 y0 hg
  have q0 := x2.cell (i := 0) rfl
  have HC := cloneC a0 m.name.length c0 m.name w2 (BRow.below HB0.out y2) hz0 hnn
  go_wp2_with fail
  refine HC.mono ?_
  rintro e w3 ⟨nv, rfl, on, bn⟩
  have hnb : isB m.name := HB0.out.2.1
  have G3 : Fg w3 w.heap.size w3.heap.size nv (.slice none 0 0) [] ⟨m.name, []⟩ := Fg.first (on.wide y2.size (Nat.le_refl _)) hnb (Nat.le_trans y2.size bn.size)
  obtain ⟨an, cn, rfl, _, _, _, _⟩ := owns_shape on.own
  have x3 := x2.below bn x2.lt
  have z3 := z2.below bn z2.lt
  have y3 : Below w.heap.size w w3 := y2.trans (bn.mono y2.size)
  clear HC q0 x2 z2 y2 on bn
  have f4 := Blk.new w3 31 [.slice an m.name.length cn, .slice none 0 0]
  have b4 : Below w3.heap.size w3 (w3.alloc (.cells #[.slice an m.name.length cn, .slice none 0 0] 31 (0, 0))) := (Below.refl _ _).alloc (Nat.le_refl _) _
  have S4 : Hid (∃ pv l, FSt w w.heap.size (w.heap.size + 1) w3.heap.size [.slice a0 m.name.length c0, v1, v2, .slice a3 np c3] (.slice an m.name.length cn) m.name m.procs (w3.alloc (.cells #[.slice an m.name.length cn, .slice none 0 0] 31 (0, 0))) 0 pv l) :=
   ⟨_, _, ⟨x3.below b4 x3.lt, z3.below b4 z3.lt, f4, by have := (G3.stays (Stays.of b4 (Nat.le_refl _))).wide (Nat.le_refl _) b4.size; simpa [fpsOf] using this, y3.trans (b4.mono y3.size), by have := x3.lt; omega, by have := z3.lt; omega, y3.size⟩⟩
  have X4 := x3.below b4 x3.lt
  have k3 := X4.cell (i := 3) rfl
  clear x3 z3 y3 f4 b4 G3 hnb
  go_upto_region 4 with fail
  generalize w3.alloc (.cells #[.slice an m.name.length cn, .slice none 0 0] 31 (0, 0)) = w4 at *
  generalize w3.heap.size = gF at *
  clear X4
  go_wp2_with fail
  clear k3
  go_loopw [17] (fun i wr => ∃ j : Nat, j ≤ np ∧ i = .int .i64 j ∧ Hid (∃ pv l, FSt w w.heap.size (w.heap.size + 1) gF [.slice a0 m.name.length c0, v1, v2, .slice a3 np c3] (.slice an m.name.length cn) m.name m.procs wr j pv l)) (fun i _ => np - (intOf i).toNat)
  case atStart => exact ⟨0, Nat.zero_le _, rfl, S4⟩
  case round =>
   obtain ⟨j, hj, rfl, hst⟩ := hrel
   obtain ⟨pv, l, st⟩ := hst.out
   clear S4 hst
   by_cases hlt : j < np
   ·
    obtain ⟨q, hq⟩ : ∃ q, m.procs[j]? = some q := ⟨_, List.getElem?_eq_getElem (by rw [HNP.out]; exact hlt)⟩
    obtain ⟨bx, offx, rfl⟩ := LRow.addr HL.out (by rw [List.length_map, HNP.out]; omega)
    obtain ⟨vs, hvs, hcl⟩ := (LRow.el HL.out (show (m.procs.map Pr.fl)[j]? = some q.fl by rw [List.getElem?_map, hq]; rfl)).vals
    obtain ⟨u0, _, rfl, ⟨aq, cq, rfl, hbq, _, _, hzq⟩, u1, _, rfl, rfl, u2, _, rfl, hp2, u3, _, rfl, hp3, u4, _, rfl, hp4, rfl⟩ := hvs
    obtain ⟨ap, cp, rfl, hLp⟩ := hp2.list
    obtain ⟨al, cl, rfl, _⟩ := hp3.list
    obtain ⟨ab, cb, rfl, _⟩ := hp4.list
    generalize (txts q.locals).length = nl at *
    generalize (sts q.body).length = nb at *
    have hqm := HMl.out q (List.mem_of_getElem? hq)
    have HQ : Hid (m.procs[j]? = some q) := hq
    obtain ⟨pp, hpp⟩ : ∃ z, z = q.params.length := ⟨_, rfl⟩
    have HPP : Hid (q.params.length = pp) := hpp.symm
    rw [List.length_map, ← hpp] at hcl
    rw [← hpp] at hqm
    have hb := st.b
    have r0 := cell_on (hcl 0 _ rfl) hb
    have r1 := cell_on (hcl 1 _ rfl) hb
    have r2 := cell_on (hcl 2 _ rfl) hb
    have r3 := cell_on (hcl 3 _ rfl) hb
    have r4 := cell_on (hcl 4 _ rfl) hb
    rw [Nat.add_zero] at r0
    have x5 := Blk.new wr 62 [.slice aq q.name.length cq, .bool q.opn, .slice ap pp cp, .slice al nl cl, .slice ab nb cb]
    have b5 : Below wr.heap.size wr (wr.alloc (.cells #[.slice aq q.name.length cq, .bool q.opn, .slice ap pp cp, .slice al nl cl, .slice ab nb cb] 62 (0, 0))) := (Below.refl _ _).alloc (Nat.le_refl _) _
    have ST5 : Hid _ := st.grow b5
    simp only [List.toArray] at x5
    have hg5 := x5.lt
    clear hcl hq hpp hb hp2 hp3 hp4 b5 st
    go_upto_region 7 with fail
    generalize wr.alloc (.cells #[.slice aq q.name.length cq, .bool q.opn, .slice ap pp cp, .slice al nl cl, .slice ab nb cb] 62 (0, 0)) = w5 at *
    generalize wr.heap.size = gQ at *
    clear r0 r1 r2 r3 r4
    have k1 := x5.cell (i := 1) rfl
    cases ho : q.opn
    ·
     rw [ho] at k1
     have HS : Hid (∃ pv l, FSt w w.heap.size (w.heap.size + 1) gF [.slice a0 m.name.length c0, v1, v2, .slice (some ⟨bx, offx, none⟩) np c3] (.slice an m.name.length cn) m.name m.procs w5 (j + 1) pv l) := ⟨_, _, ST5.out.skip HQ.out ho⟩
     clear ST5 x5 ho
     go_wp2_with fail
     go_roundw
     case rel => exact ⟨j + 1, by omega, by go_num, HS⟩
     case measure => simp [intOf]; omega
    ·
     rw [ho] at k1
     have st := ST5.out
     have bw := st.b
     have HBq : Hid (BRow w5 aq q.name.length q.name) := hbq.below bw
     have HLp : Hid (LRow w5 ap cp 2 (q.params.map Pa.fl)) := hLp.below bw
     have xF := st.f
     obtain ⟨aP, cP, hpv, _, _, _, _⟩ := owns_shape st.g.row
     simp only at hpv
     subst hpv
     obtain ⟨nf, hnf⟩ : ∃ z, z = (fpsOf (m.procs.take j)).length := ⟨_, rfl⟩
     have HNF : Hid ((fpsOf (m.procs.take j)).length = nf) := hnf.symm
     have hnf9 : nf ≤ 1048576 := by have h1 := fpsOf_len (m.procs.take j); rw [List.length_take] at h1; have := HNP.out; omega
     have hkl : (kindsP q.params).length = pp := by unfold kindsP; rw [List.length_map, HPP.out]
     rw [← hnf] at xF
     have xF0 := xF
     have HROW : Hid (w5.ownsRow w.heap.size 66 2 (.slice aP nf cP) nf (flat2 l)) := by have := st.g.row; simp only at this; rw [HNF.out] at this; exact this
     have HST : Hid (FSt w w.heap.size (w.heap.size + 1) gF [.slice a0 m.name.length c0, v1, v2, .slice (some ⟨bx, offx, none⟩) np c3] (.slice an m.name.length cn) m.name m.procs w5 j (.slice aP nf cP) l) := by have := st; rw [HNF.out] at this; exact this
     have bws := bw.size
     clear ST5 st hnf
     have HSB : ∀ wl, Blk wl gF 31 [.slice an m.name.length cn, .slice aP nf cP] → Blk wl gQ 62 [.slice aq q.name.length cq, .bool q.opn, .slice ap pp cp, .slice al nl cl, .slice ab nb cb] → wl.cell? ⟨gF, 1, none⟩ = some (.slice aP nf cP) ∧ wl.cell? ⟨gQ, 0, none⟩ = some (.slice aq q.name.length cq) ∧ wl.cell? ⟨gQ, 2, none⟩ = some (.slice ap pp cp) := fun wl b1 b2 => ⟨b1.cell (i := 1) rfl, b2.cell (i := 0) rfl, b2.cell (i := 2) rfl⟩
     have HC := cloneC aq q.name.length cq q.name w5.drew HBq.out hzq (by omega)
     go_wp2_with fail
     have hS0 := HSB w5.drew xF x5
     refine rl 12 (S := fun wl => wl.cell? ⟨gF, 1, none⟩ = some (.slice aP nf cP) ∧ wl.cell? ⟨gQ, 0, none⟩ = some (.slice aq q.name.length cq) ∧ wl.cell? ⟨gQ, 2, none⟩ = some (.slice ap pp cp)) (by kernel_rfl) hS0 (fun hHeld => ?_)
     refine la 0 ?_ hHeld
     refine la 1 ?_ hHeld
     refine la 2 ?_ hHeld
     try simp only [nrm]
     refine la 3 ?_ hHeld
     refine la 5 ?_ hHeld
     refine la 6 ?_ hHeld
     try simp only [nrm]
     try simp only [nrm]
     refine da 4 fun K hK => ?_
     go_simp
     (with_reducible refine HC.mono ?_)
     rintro e wa ⟨va, rfl, oa, ba⟩
     have ba' : Below w5.heap.size w5 wa := (Below.refl w5.heap.size w5).drew.trans ba
     have hSa := HSB wa (xF.below ba' xF.lt) (x5.below ba' x5.lt)
     obtain ⟨ay, cy, rfl, _, _, _, _⟩ := owns_shape oa.own
     have HK := kindsC q.params ap pp cp wa HPP.out (HLp.out.below ba') (by omega)
     go_wp2_with fail
     refine hK.out _ _ (hSa) (fun hHeld => ?_)
     clear hK K
     try simp only [Act.put, List.getElem_toArray, List.getElem_cons_zero, List.getElem_cons_succ, List.setIfInBounds_toArray, List.set_cons_zero, List.set_cons_succ]
     refine da 7 fun K hK => ?_
     go_simp
     (with_reducible refine HK.mono ?_)
     rintro e wb ⟨vb, rfl, ob, bb⟩
     have bb' : Below w5.heap.size w5 wb := ba'.trans (bb.mono ba'.size)
     have hSb := HSB wb (xF.below bb' xF.lt) (x5.below bb' x5.lt)
     obtain ⟨az, cz, rfl, _, _, _, _⟩ := owns_shape ob.own
     go_wp2_with fail
     refine hK.out _ _ (hSb) (fun hHeld => ?_)
     clear hK K
     try simp only [Act.put, List.getElem_toArray, List.getElem_cons_zero, List.getElem_cons_succ, List.setIfInBounds_toArray, List.set_cons_zero, List.set_cons_succ]
     refine la 8 ?_ hHeld
     try simp only [nrm]
     have xC := Blk.new wb 66 [.slice ay q.name.length cy, .slice az pp cz]
     have bc : Below wb.heap.size wb (wb.alloc (.cells #[.slice ay q.name.length cy, .slice az pp cz] 66 (0, 0))) := (Below.refl _ _).alloc (Nat.le_refl _) _
     have bc' : Below w5.heap.size w5 (wb.alloc (.cells #[.slice ay q.name.length cy, .slice az pp cz] 66 (0, 0))) := bb'.trans (bc.mono bb'.size)
     have hSc := HSB _ (xF.below bc' xF.lt) (x5.below bc' x5.lt)
     have ROWC := owns_stays HROW.out (fun g hg => bc'.block g (HROW.out.lt g hg).2)
     simp only [List.toArray] at xC
     refine da 9 fun K hK => ?_
     go_simp
     refine hK.out _ _ (hSc) (fun hHeld => ?_)
     clear hK K
     try simp only [Act.put, List.getElem_toArray, List.getElem_cons_zero, List.getElem_cons_succ, List.setIfInBounds_toArray, List.set_cons_zero, List.set_cons_succ]
     generalize wb.alloc (.cells #[.slice ay q.name.length cy, .slice az pp cz] 66 (0, 0)) = wc at *
     refine da 10 fun K hK => ?_
     rw [if_pos (by kernel_rfl)]
     refine wp_appendF _ _ rfl w.heap.size _ nf l rfl ROWC wb.heap.size (.slice ay q.name.length cy) (.slice az pp cz) rfl xC rfl rfl hnf9 (Nat.le_trans bws bc'.size) ?_
     intro v4 w4' ho4 hg4
     have hob : Ob wb 3 wa.heap.size wb.heap.size (.slice az pp cz) (kindsP q.params).length (iV (kindsP q.params)) := by rw [hkl]; exact ob
     obtain ⟨HST4, xF4⟩ := HST.out.push HQ.out ho ba' oa HBq.out.2.1 bb hob bc (by rw [HNF.out]; exact ho4) hg4
     have x54 := (x5.below bc' x5.lt).below_row hg4 (row_face ROWC (x5.below bc' x5.lt) (by decide))
     obtain ⟨a4, c4, rfl, _, _, _, _⟩ := owns_shape ho4
     refine hK.out _ _ ((HSB _ xF4 x54)) (fun hHeld => ?_)
     clear hK K
     try simp only [Act.put, List.getElem_toArray, List.getElem_cons_zero, List.getElem_cons_succ, List.setIfInBounds_toArray, List.set_cons_zero, List.set_cons_succ]
     refine la 11 ?_ hHeld
     try simp only [nrm]
     have hc4 := xF4.cell (i := 1) rfl
     have hf4 := xF4.free 1
     have HS : Hid (∃ pv l, FSt w w.heap.size (w.heap.size + 1) gF [.slice a0 m.name.length c0, v1, v2, .slice (some ⟨bx, offx, none⟩) np c3] (.slice an m.name.length cn) m.name m.procs (w4'.setCell ⟨gF, 1, none⟩ (.slice a4 (nf + 1) c4)) (j + 1) pv l) := ⟨_, _, HST4⟩
     refine ea fun K hK => ?_
     go_simp
     refine hK.out _ _ ?_
     clear hK K hHeld HSB hS0 hSa hSb hSc hc4 hf4 HST4 xF4 x54 ho4 hg4 xC bc bc' ROWC oa ob hob ba ba' bb bb' HC HK xF xF0 x5 k1 HST HROW
     go_wp2_with fail
     go_roundw
     case rel => exact ⟨j + 1, by omega, by go_num, HS⟩
     case measure => simp [intOf]; omega
   ·
    have : np = j := by omega
    subst this
    obtain ⟨aP, cP, hpv, _, _, _, _⟩ := owns_shape st.g.row
    simp only at hpv
    subst hpv
    have hG := st.g
    have e1 : m.procs.take np = m.procs := List.take_of_length_le (by rw [HNP.out]; exact Nat.le_refl _)
    rw [e1] at hG
    have sF := st.f
    have sR := st.r
    have sb := st.b
    rw [e1] at sF
    generalize (fpsOf m.procs).length = nf at *
    obtain ⟨q0, q1⟩ := sF.c2
    obtain ⟨d0, d1⟩ := sR.c2
    have f0 := sR.free 0
    have f1 := sR.free 1
    have z9 := (sR.set (i := 0) (.slice an m.name.length cn)).set (i := 1) (.slice aP nf cP)
    have G9 : Hid (Fg ((wr.setCell ⟨w.heap.size + 1, 0, none⟩ (.slice an m.name.length cn)).setCell ⟨w.heap.size + 1, 1, none⟩ (.slice aP nf cP)) w.heap.size wr.heap.size (.slice an m.name.length cn) (.slice aP nf cP) l ⟨m.name, fpsOf m.procs⟩) := (hG.other sR).other (sR.set (i := 0) (.slice an m.name.length cn))
    have y9 : Below w.heap.size w ((wr.setCell ⟨w.heap.size + 1, 0, none⟩ (.slice an m.name.length cn)).setCell ⟨w.heap.size + 1, 1, none⟩ (.slice aP nf cP)) := (sb.setCell (Nat.le_succ _) _).setCell (Nat.le_succ _) _
    have hsz9 : ((wr.setCell ⟨w.heap.size + 1, 0, none⟩ (.slice an m.name.length cn)).setCell ⟨w.heap.size + 1, 1, none⟩ (.slice aP nf cP)).heap.size = wr.heap.size := by simp
    go_wp2_with fail
    generalize (wr.setCell ⟨w.heap.size + 1, 0, none⟩ (.slice an m.name.length cn)).setCell ⟨w.heap.size + 1, 1, none⟩ (.slice aP nf cP) = w9 at *
    simp only [List.set_cons_zero, List.set_cons_succ] at z9
    obtain ⟨e0, e2⟩ := z9.c2
    refine bodyPost_ret (v := .agg #[.slice an m.name.length cn, .slice aP nf cP]) (by simp only [results, Tryz.results8]; simp [go_sem, e0, e2]) rfl ⟨_, _, rfl, ⟨l, by rw [HF.out, hsz9]; exact G9.out⟩, y9⟩
end Go.Proofs.YtopnodadggohiaaGreatDoor

/- What others see of a module: the specification. -/
namespace Go.Proofs.YtopnodadggohiaaGreatDoor
open Go.RowKit
set_option linter.unusedVariables false
set_option linter.unusedSimpArgs false
set_option maxRecDepth 100000

/-- append of bytes, whatever the source, as one operation of a drawn region. -/
theorem wp_appendBG {w : World} {o : Oper} {a : Act} {K : Act → World → Prop} {Q : Exit → Act → World → Prop} (s x : Operand)
  (ho : o.op = .call { callee := .builtin .append, args := #[s, x], argTypes := #[22, 22] })
  (base : Nat) (v : Value) (n : Nat) (l : List Int) (hs : a.eval s = v) (hown : Own w base v n l)
  (ao : Option Addr) (m c : Nat) (l2 : List Int) (hx : a.eval x = .slice ao m c) (hr : BRow w ao m l2) (hnil : ao = none → c = 0) (hsz : n + m ≤ 1099511627776) (hbase : base ≤ w.heap.size)
  (h : ∀ v' w', Own w' base v' (n + m) (l ++ l2) → w.grownBy w' v.ownBlock → K (a.put o.dst v') w') : Oper.wp Tryz.prog o a w K Q := by
 obtain ⟨i0, hi, hz0, hz1, hz2⟩ := info_parts info5
 have hby : ∀ x ∈ l ++ l2, 0 ≤ x ∧ x ≤ 255 := fun x hx => (List.mem_append.1 hx).elim (hown.2 x) (hr.2.1 x)
 cases ao with
 | none =>
  obtain rfl := hnil rfl
  have hm : m = 0 := by
   rcases Nat.eq_zero_or_pos m with h0 | hp
   ·
    exact h0
   ·
    obtain ⟨b, off, e, _⟩ := hr.2.2 hp; cases e
  subst hm
  obtain rfl : l2 = [] := List.eq_nil_of_length_eq_zero hr.1
  have hrun := run_append_owned_none (P := Tryz.prog) (w := w) base 22 o.type 5 i0 1 Tryz.underlying22 hi v n _ hown.1
  unfold Oper.wp execOp
  simp only [ho, resolve, invoke, builtin, Sem.run_bind, Sem.run_pure, Result.andThen_ok, List.map_toArray, List.map_cons, List.map_nil, hs, hx, hrun]
  exact h v w (by simpa using hown) (World.grownBy.refl _ _)
 | some ad =>
  refine wp_append_own w s x 22 ho base 5 i0 (.int .u8 0) 1 1 Tryz.underlying22 hi hz0 hz1 hz2 rfl (by decide) v n _ hs hown.1 ad m c (l2.map (Value.int .u8)) hx (by simp [hr.1]) ?_ (ints_oneCell _ _) (by unfold maxLen; omega) (by omega) hbase ?_
  ·
   intro j u hu
   have hp : 0 < (l2.map (Value.int .u8)).length := Nat.lt_of_le_of_lt (Nat.zero_le j) (List.getElem?_eq_some_iff.1 hu).1
   obtain ⟨ad', e, hc⟩ := hr.pos hp
   cases e
   exact hc j u hu
  ·
   intro v' w' ho' hg' _
   exact h v' w' ⟨by simpa using ho', hby⟩ hg'

set_option maxHeartbeats 8000000 in
theorem l7faceC (m : Mo) (vs : List Value) (w : World) (h : RdVals w m.fl vs) (hs : recLen m.fl ≤ 1048576) :
  Calls Tryz.prog 24 #[agg vs] w fun e w' => ∃ nv pv, e = .returned (.agg #[nv, pv]) ∧ Seen w w' nv pv (faceC m) := by
 obtain ⟨v0, _, rfl, ⟨a0, c0, rfl, hB0, hc0, _, hz0⟩, v1, _, rfl, _, v2, _, rfl, _, v3, _, rfl, h3, rfl⟩ := h
 obtain ⟨a3, c3, rfl, hL⟩ := h3.list
 have hnp : m.procs.length ≤ 1048576 := by
  have : (m.procs.map Pr.fl).length ≤ recLen m.fl := by simp [Mo.fl, recLen, Fl.len]; omega
  rw [List.length_map] at this
  omega
 have hnn : m.name.length ≤ 1048576 := by have : m.name.length ≤ recLen m.fl := (by simp [Mo.fl, recLen, Fl.len]); omega
 have HMl : Hid (∀ q ∈ m.procs, q.name.length + q.params.length ≤ 1048576) := fun q hq => by have := procs_le m hq; omega
 have x0 := (Blk.new w 36 [.slice a0 m.name.length c0, v1, v2, .slice a3 (m.procs.map Pr.fl).length c3]).old (o := .cells #[.slice none 0 0, .slice none 0 0] 31 (0, 0))
 have z0 := Blk.new (w.alloc (.cells #[.slice a0 m.name.length c0, v1, v2, .slice a3 (m.procs.map Pr.fl).length c3] 36 (0, 0))) 31 [.slice none 0 0, .slice none 0 0]
 have y0 : Below w.heap.size w ((w.alloc (.cells #[.slice a0 m.name.length c0, v1, v2, .slice a3 (m.procs.map Pr.fl).length c3] 36 (0, 0))).alloc (.cells #[.slice none 0 0, .slice none 0 0] 31 (0, 0))) := ((Below.refl _ _).alloc (Nat.le_refl _) _).alloc (by simp) _
 simp only [List.toArray] at x0 z0
 have hgz : (w.alloc (.cells #[.slice a0 m.name.length c0, v1, v2, .slice a3 (m.procs.map Pr.fl).length c3] 36 (0, 0))).heap.size = w.heap.size + 1 := by simp
 rw [hgz] at z0
 clear hgz
 obtain ⟨np, hNP⟩ : ∃ z, z = m.procs.length := ⟨_, rfl⟩
 have HNP : Hid (m.procs.length = np) := hNP.symm
 rw [List.length_map, ← hNP] at x0 z0 y0
 rw [List.length_map]
 rw [← hNP] at hnp ⊢
 clear h3 hNP
 simp only [agg]
 have HL : Hid (LRow w a3 c3 5 (m.procs.map Pr.fl)) := hL
 have HB0 : Hid (BRow w a0 m.name.length m.name) := hB0
 clear hL hB0
 go_enter Tryz.func24, Tryz.ntmps24
 go_upto_region 1 with fail
 generalize (w.alloc (.cells #[.slice a0 m.name.length c0, v1, v2, .slice a3 np c3] 36 (0, 0))).alloc (.cells #[.slice none 0 0, .slice none 0 0] 31 (0, 0)) = w1 at *
 have hE := own_empty w1
 have hBe := below_empty w1
 have xe := x0.below hBe x0.lt
 have q0 := xe.cell (i := 0) rfl
 have hye : Below w.heap.size w (w1.alloc (.cells #[] 5)) := y0.trans (hBe.mono y0.size)
 have hR := BRow.below HB0.out hye
 go_wp2_with (at_builtin; refine wpList_appendB rfl _ _ rfl w1.heap.size _ 0 [] rfl hE _ m.name.length c0 m.name rfl hR hz0 (by omega) (by simp) ?_)
 intro nv w3 on hg3
 have hnb : isB m.name := HB0.out.2.1
 try simp only [Nat.zero_add, List.nil_append] at on
 have bn : Below w1.heap.size w1 w3 := hBe.grown hg3 hBe.size (fun k hk => (hE.1.lt k hk).1)
 have G3 : Fg w3 w.heap.size w3.heap.size nv (.slice none 0 0) [] ⟨m.name, []⟩ := Fg.first ⟨owns_mono on.1 y0.size, fun k hk => (on.1.lt k hk).2⟩ hnb (Nat.le_trans y0.size bn.size)
 obtain ⟨an, cn, rfl, _, _, _, _⟩ := owns_shape on.1
 have x3 := x0.below bn x0.lt
 have z3 := z0.below bn z0.lt
 have y3 : Below w.heap.size w w3 := y0.trans (bn.mono y0.size)
 clear q0 x0 z0 y0 on bn hE hBe xe hye hR hg3
 have f4 := Blk.new w3 31 [.slice an m.name.length cn, .slice none 0 0]
 have b4 : Below w3.heap.size w3 (w3.alloc (.cells #[.slice an m.name.length cn, .slice none 0 0] 31 (0, 0))) := (Below.refl _ _).alloc (Nat.le_refl _) _
 have S4 : Hid (∃ pv l, FSt w w.heap.size (w.heap.size + 1) w3.heap.size [.slice a0 m.name.length c0, v1, v2, .slice a3 np c3] (.slice an m.name.length cn) m.name m.procs (w3.alloc (.cells #[.slice an m.name.length cn, .slice none 0 0] 31 (0, 0))) 0 pv l) :=
  ⟨_, _, ⟨x3.below b4 x3.lt, z3.below b4 z3.lt, f4, by have := (G3.stays (Stays.of b4 (Nat.le_refl _))).wide (Nat.le_refl _) b4.size; simpa [fpsOf] using this, y3.trans (b4.mono y3.size), by have := x3.lt; omega, by have := z3.lt; omega, y3.size⟩⟩
 clear x3 z3 y3 f4 b4 G3 hnb
 go_upto_region 2 with fail
 generalize w3.alloc (.cells #[.slice an m.name.length cn, .slice none 0 0] 31 (0, 0)) = w4 at *
 generalize w3.heap.size = gF at *
 go_wp2_with fail
 go_loopw [4] (fun i wr => ∃ j : Nat, j ≤ np ∧ i = .int .i64 j ∧ Hid (∃ pv l, FSt w w.heap.size (w.heap.size + 1) gF [.slice a0 m.name.length c0, v1, v2, .slice a3 np c3] (.slice an m.name.length cn) m.name m.procs wr j pv l)) (fun i _ => np - (intOf i).toNat)
 case atStart => exact ⟨0, Nat.zero_le _, rfl, S4⟩
 case round =>
  obtain ⟨j, hj, rfl, hst⟩ := hrel
  obtain ⟨pv, l, st⟩ := hst.out
  clear S4 hst
  have xM := st.m
  have k3 := xM.cell (i := 3) rfl
  by_cases hlt : j < np
  ·
   obtain ⟨q, hq⟩ : ∃ q, m.procs[j]? = some q := ⟨_, List.getElem?_eq_getElem (by rw [HNP.out]; exact hlt)⟩
   obtain ⟨bx, offx, rfl⟩ := LRow.addr HL.out (by rw [List.length_map, HNP.out]; omega)
   obtain ⟨vs, hvs, hcl⟩ := (LRow.el HL.out (show (m.procs.map Pr.fl)[j]? = some q.fl by rw [List.getElem?_map, hq]; rfl)).vals
   have hvv := hvs
   obtain ⟨u0, _, rfl, ⟨aq, cq, rfl, hbq, _, _, hzq⟩, u1, _, rfl, rfl, u2, _, rfl, hp2, u3, _, rfl, hp3, u4, _, rfl, hp4, rfl⟩ := hvs
   obtain ⟨ap, cp, rfl, hLp⟩ := hp2.list
   obtain ⟨al, cl, rfl, _⟩ := hp3.list
   obtain ⟨ab, cb, rfl, _⟩ := hp4.list
   generalize (txts q.locals).length = nl at *
   generalize (sts q.body).length = nb at *
   have hqm := HMl.out q (List.mem_of_getElem? hq)
   have HQ : Hid (m.procs[j]? = some q) := hq
   obtain ⟨pp, hpp⟩ : ∃ z, z = q.params.length := ⟨_, rfl⟩
   have HPP : Hid (q.params.length = pp) := hpp.symm
   rw [List.length_map, ← hpp] at hcl hvv
   rw [← hpp] at hqm
   have hb := st.b
   have HV : Hid (RdVals w q.fl [.slice aq q.name.length cq, .bool q.opn, .slice ap pp cp, .slice al nl cl, .slice ab nb cb]) := hvv
   have HR : Hid (∀ i v, [Value.slice aq q.name.length cq, .bool q.opn, .slice ap pp cp, .slice al nl cl, .slice ab nb cb][i]? = some v → w.cell? ⟨bx, offx + j * 5 + i, none⟩ = some v) := hcl
   have r1 := cell_on (hcl 1 _ rfl) hb
   clear hcl hq hpp hp2 hp3 hp4 hvv
   cases ho : q.opn
   ·
    rw [ho] at r1
    have HS : Hid (∃ pv l, FSt w w.heap.size (w.heap.size + 1) gF [.slice a0 m.name.length c0, v1, v2, .slice (some ⟨bx, offx, none⟩) np c3] (.slice an m.name.length cn) m.name m.procs wr (j + 1) pv l) := ⟨_, _, st.skip HQ.out ho⟩
    clear st xM ho
    go_wp2_with fail
    go_roundw
    case rel => exact ⟨j + 1, by omega, by go_num, HS⟩
    case measure => simp [intOf]; omega
   ·
    rw [ho] at r1
    have HBq : Hid (BRow wr aq q.name.length q.name) := hbq.below hb
    have xF := st.f
    obtain ⟨aP, cP, hpv, _, _, _, _⟩ := owns_shape st.g.row
    simp only at hpv
    subst hpv
    obtain ⟨nf, hnf⟩ : ∃ z, z = (fpsOf (m.procs.take j)).length := ⟨_, rfl⟩
    have HNF : Hid ((fpsOf (m.procs.take j)).length = nf) := hnf.symm
    have hnf9 : nf ≤ 1048576 := by have h1 := fpsOf_len (m.procs.take j); rw [List.length_take] at h1; have := HNP.out; omega
    have hkl : (kindsP q.params).length = pp := by unfold kindsP; rw [List.length_map, HPP.out]
    rw [← hnf] at xF
    have HROW : Hid (wr.ownsRow w.heap.size 66 2 (.slice aP nf cP) nf (flat2 l)) := by have := st.g.row; simp only at this; rw [HNF.out] at this; exact this
    have HST : Hid (FSt w w.heap.size (w.heap.size + 1) gF [.slice a0 m.name.length c0, v1, v2, .slice (some ⟨bx, offx, none⟩) np c3] (.slice an m.name.length cn) m.name m.procs wr j (.slice aP nf cP) l) := by have := st; rw [HNF.out] at this; exact this
    have bws := hb.size
    clear st hnf
    have HSB : ∀ wl, Blk wl gF 31 [.slice an m.name.length cn, .slice aP nf cP] → Blk wl w.heap.size 36 [.slice a0 m.name.length c0, v1, v2, .slice (some ⟨bx, offx, none⟩) np c3] → Below w.heap.size w wl → wl.cell? ⟨gF, 1, none⟩ = some (.slice aP nf cP) ∧ wl.cell? ⟨w.heap.size, 3, none⟩ = some (.slice (some ⟨bx, offx, none⟩) np c3) ∧ wl.cell? ⟨bx, offx + j * 5, none⟩ = some (.slice aq q.name.length cq) ∧ wl.cell? ⟨bx, offx + j * 5 + 1, none⟩ = some (.bool true) ∧ wl.cell? ⟨bx, offx + j * 5 + 2, none⟩ = some (.slice ap pp cp) ∧ wl.cell? ⟨bx, offx + j * 5 + 3, none⟩ = some (.slice al nl cl) ∧ wl.cell? ⟨bx, offx + j * 5 + 4, none⟩ = some (.slice ab nb cb) := fun wl b1 b2 b3 => ⟨b1.cell (i := 1) rfl, b2.cell (i := 3) rfl, cell_on (HR.out 0 _ rfl) b3, cell_on (HR.out 1 _ (by rw [ho]; rfl)) b3, cell_on (HR.out 2 _ rfl) b3, cell_on (HR.out 3 _ rfl) b3, cell_on (HR.out 4 _ rfl) b3⟩
    go_wp2_with fail
    have hS0 := HSB wr.drew xF xM hb.drew
    refine rl 20 (S := fun wl => wl.cell? ⟨gF, 1, none⟩ = some (.slice aP nf cP) ∧ wl.cell? ⟨w.heap.size, 3, none⟩ = some (.slice (some ⟨bx, offx, none⟩) np c3) ∧ wl.cell? ⟨bx, offx + j * 5, none⟩ = some (.slice aq q.name.length cq) ∧ wl.cell? ⟨bx, offx + j * 5 + 1, none⟩ = some (.bool true) ∧ wl.cell? ⟨bx, offx + j * 5 + 2, none⟩ = some (.slice ap pp cp) ∧ wl.cell? ⟨bx, offx + j * 5 + 3, none⟩ = some (.slice al nl cl) ∧ wl.cell? ⟨bx, offx + j * 5 + 4, none⟩ = some (.slice ab nb cb)) (by kernel_rfl) hS0 (fun hHeld => ?_)
    refine la 0 ?_ hHeld
    refine la 1 ?_ hHeld
    refine la 3 ?_ hHeld
    try simp only [nrm]
    refine la 4 ?_ hHeld
    refine la 5 ?_ hHeld
    refine la 6 ?_ hHeld
    try simp only [nrm]
    refine la 7 ?_ hHeld
    refine la 8 ?_ hHeld
    refine la 10 ?_ hHeld
    try simp only [nrm]
    refine la 11 ?_ hHeld
    refine la 12 ?_ hHeld
    refine la 13 ?_ hHeld
    try simp only [nrm]
    refine la 14 ?_ hHeld
    try simp only [nrm]
    have be0 := below_empty wr.drew
    have be : Below wr.heap.size wr (wr.drew.alloc (.cells #[] 5)) := (Below.refl wr.heap.size wr).drew.trans be0
    have oe := own_empty wr.drew
    have hSe := HSB _ (xF.below be xF.lt) (xM.below be xM.lt) (hb.trans (be.mono bws))
    refine da 2 fun K hK => ?_
    go_simp
    refine hK.out _ _ (hSe) (fun hHeld => ?_)
    clear hK K
    try simp only [Act.put, List.getElem_toArray, List.getElem_cons_zero, List.getElem_cons_succ, List.setIfInBounds_toArray, List.set_cons_zero, List.set_cons_succ]
    have hRq := HBq.out.below be
    refine da 9 fun K hK => ?_
    rw [if_pos (by kernel_rfl)]
    refine wp_appendBG _ _ rfl wr.heap.size _ 0 [] rfl oe _ q.name.length cq q.name rfl hRq hzq (by omega) (by simp) ?_
    intro va wa oa hga
    try simp only [Nat.zero_add, List.nil_append] at oa
    have ba : Below wr.heap.size wr wa := be.grown hga be.size (fun k hk => (oe.1.lt k hk).1)
    obtain ⟨ay, cy, rfl, _, _, _, _⟩ := owns_shape oa.1
    have hwa := hb.trans (ba.mono bws)
    have hSa := HSB wa (xF.below ba xF.lt) (xM.below ba xM.lt) hwa
    have OA : Ob wa 5 wr.heap.size wa.heap.size (.slice ay q.name.length cy) q.name.length (bV q.name) := ⟨oa.1, fun k hk => (oa.1.lt k hk).2⟩
    refine hK.out _ _ (hSa) (fun hHeld => ?_)
    clear hK K
    try simp only [Act.put, List.getElem_toArray, List.getElem_cons_zero, List.getElem_cons_succ, List.setIfInBounds_toArray, List.set_cons_zero, List.set_cons_succ]
    have HK := l7kindsC q _ wa (RdVals.below HV.out hwa) (by rw [HPP.out]; omega)
    rw [HPP.out, ho] at HK
    simp only [agg, List.toArray] at HK
    refine da 15 fun K hK => ?_
    go_simp
    (with_reducible refine HK.mono ?_)
    rintro e wb ⟨vb, rfl, ob, bb⟩
    have bb' : Below wr.heap.size wr wb := ba.trans (bb.mono ba.size)
    have hSb := HSB wb (xF.below bb' xF.lt) (xM.below bb' xM.lt) (hb.trans (bb'.mono bws))
    obtain ⟨az, cz, rfl, _, _, _, _⟩ := owns_shape ob.own
    go_wp2_with fail
    refine hK.out _ _ (hSb) (fun hHeld => ?_)
    clear hK K
    try simp only [Act.put, List.getElem_toArray, List.getElem_cons_zero, List.getElem_cons_succ, List.setIfInBounds_toArray, List.set_cons_zero, List.set_cons_succ]
    refine la 16 ?_ hHeld
    try simp only [nrm]
    have xC := Blk.new wb 66 [.slice ay q.name.length cy, .slice az pp cz]
    have bc : Below wb.heap.size wb (wb.alloc (.cells #[.slice ay q.name.length cy, .slice az pp cz] 66 (0, 0))) := (Below.refl _ _).alloc (Nat.le_refl _) _
    have bc' : Below wr.heap.size wr (wb.alloc (.cells #[.slice ay q.name.length cy, .slice az pp cz] 66 (0, 0))) := bb'.trans (bc.mono bb'.size)
    have hSc := HSB _ (xF.below bc' xF.lt) (xM.below bc' xM.lt) (hb.trans (bc'.mono bws))
    have ROWC := owns_stays HROW.out (fun g hg => bc'.block g (HROW.out.lt g hg).2)
    simp only [List.toArray] at xC
    refine da 17 fun K hK => ?_
    go_simp
    refine hK.out _ _ (hSc) (fun hHeld => ?_)
    clear hK K
    try simp only [Act.put, List.getElem_toArray, List.getElem_cons_zero, List.getElem_cons_succ, List.setIfInBounds_toArray, List.set_cons_zero, List.set_cons_succ]
    generalize wb.alloc (.cells #[.slice ay q.name.length cy, .slice az pp cz] 66 (0, 0)) = wc at *
    refine da 18 fun K hK => ?_
    rw [if_pos (by kernel_rfl)]
    refine wp_appendF _ _ rfl w.heap.size _ nf l rfl ROWC wb.heap.size (.slice ay q.name.length cy) (.slice az pp cz) rfl xC rfl rfl hnf9 (Nat.le_trans bws bc'.size) ?_
    intro v4 w4' ho4 hg4
    have hob : Ob wb 3 wa.heap.size wb.heap.size (.slice az pp cz) (kindsP q.params).length (iV (kindsP q.params)) := by rw [hkl]; exact ob
    obtain ⟨HST4, xF4⟩ := HST.out.push HQ.out ho ba OA HBq.out.2.1 bb hob bc (by rw [HNF.out]; exact ho4) hg4
    have xM4 := (xM.below bc' xM.lt).below_row hg4 (row_face ROWC (xM.below bc' xM.lt) (by decide))
    have hw4 : Below w.heap.size w w4' := (hb.trans (bc'.mono bws)).grown hg4 (Nat.le_trans bws bc'.size) (fun k hk => (ROWC.lt k hk).1)
    obtain ⟨a4, c4, rfl, _, _, _, _⟩ := owns_shape ho4
    refine hK.out _ _ ((HSB _ xF4 xM4 hw4)) (fun hHeld => ?_)
    clear hK K
    try simp only [Act.put, List.getElem_toArray, List.getElem_cons_zero, List.getElem_cons_succ, List.setIfInBounds_toArray, List.set_cons_zero, List.set_cons_succ]
    refine la 19 ?_ hHeld
    try simp only [nrm]
    have hc4 := xF4.cell (i := 1) rfl
    have hf4 := xF4.free 1
    have HS : Hid (∃ pv l, FSt w w.heap.size (w.heap.size + 1) gF [.slice a0 m.name.length c0, v1, v2, .slice (some ⟨bx, offx, none⟩) np c3] (.slice an m.name.length cn) m.name m.procs (w4'.setCell ⟨gF, 1, none⟩ (.slice a4 (nf + 1) c4)) (j + 1) pv l) := ⟨_, _, HST4⟩
    refine ea fun K hK => ?_
    go_simp
    refine hK.out _ _ ?_
    clear hK K hHeld HSB hS0 hSa hSb hSc hSe hc4 hf4 HST4 xF4 xM4 ho4 hg4 xC bc bc' ROWC oa OA ob hob ba be be0 oe bb bb' HK xF xM k3 r1 HST HROW hw4 hwa hga hRq
    go_wp2_with fail
    go_roundw
    case rel => exact ⟨j + 1, by omega, by go_num, HS⟩
    case measure => simp [intOf]; omega
  ·
   have : np = j := by omega
   subst this
   obtain ⟨aP, cP, hpv, _, _, _, _⟩ := owns_shape st.g.row
   simp only at hpv
   subst hpv
   have hG := st.g
   have e1 : m.procs.take np = m.procs := List.take_of_length_le (by rw [HNP.out]; exact Nat.le_refl _)
   rw [e1] at hG
   have sF := st.f
   have sR := st.r
   have sb := st.b
   rw [e1] at sF
   generalize (fpsOf m.procs).length = nf at *
   obtain ⟨q0, q1⟩ := sF.c2
   obtain ⟨d0, d1⟩ := sR.c2
   have f0 := sR.free 0
   have f1 := sR.free 1
   have z9 := (sR.set (i := 0) (.slice an m.name.length cn)).set (i := 1) (.slice aP nf cP)
   have G9 : Hid (Fg ((wr.setCell ⟨w.heap.size + 1, 0, none⟩ (.slice an m.name.length cn)).setCell ⟨w.heap.size + 1, 1, none⟩ (.slice aP nf cP)) w.heap.size wr.heap.size (.slice an m.name.length cn) (.slice aP nf cP) l ⟨m.name, fpsOf m.procs⟩) := (hG.other sR).other (sR.set (i := 0) (.slice an m.name.length cn))
   have y9 : Below w.heap.size w ((wr.setCell ⟨w.heap.size + 1, 0, none⟩ (.slice an m.name.length cn)).setCell ⟨w.heap.size + 1, 1, none⟩ (.slice aP nf cP)) := (sb.setCell (Nat.le_succ _) _).setCell (Nat.le_succ _) _
   have hsz9 : ((wr.setCell ⟨w.heap.size + 1, 0, none⟩ (.slice an m.name.length cn)).setCell ⟨w.heap.size + 1, 1, none⟩ (.slice aP nf cP)).heap.size = wr.heap.size := by simp
   go_wp2_with fail
   generalize (wr.setCell ⟨w.heap.size + 1, 0, none⟩ (.slice an m.name.length cn)).setCell ⟨w.heap.size + 1, 1, none⟩ (.slice aP nf cP) = w9 at *
   simp only [List.set_cons_zero, List.set_cons_succ] at z9
   obtain ⟨e0, e2⟩ := z9.c2
   refine bodyPost_ret (v := .agg #[.slice an m.name.length cn, .slice aP nf cP]) (by simp only [results, Tryz.results24]; simp [go_sem, e0, e2]) rfl ⟨_, _, rfl, ⟨l, by rw [hsz9]; exact G9.out⟩, y9⟩

set_option maxHeartbeats 4000000 in
theorem specFaceOf (m : Mo) (vs : List Value) (w : World) (h : RdVals w m.fl vs) (hs : recLen m.fl ≤ 1048576) :
  Calls Tryz.prog 6 #[agg vs] w fun e w' => ∃ nv pv, e = .returned (.agg #[nv, pv]) ∧ Seen w w' nv pv (faceP m) := by
 obtain ⟨v0, v1, v2, v3, rfl⟩ := four_of (h.len.trans (show m.fl.length = 4 from rfl))
 have x0 := (Blk.new w 36 [v0, v1, v2, v3]).old (o := .cells #[.slice none 0 0, .slice none 0 0] 31 (0, 0))
 have z0 := Blk.new (w.alloc (.cells #[v0, v1, v2, v3] 36 (0, 0))) 31 [.slice none 0 0, .slice none 0 0]
 have y0 : Below w.heap.size w ((w.alloc (.cells #[v0, v1, v2, v3] 36 (0, 0))).alloc (.cells #[.slice none 0 0, .slice none 0 0] 31 (0, 0))) := ((Below.refl _ _).alloc (Nat.le_refl _) _).alloc (by simp) _
 simp only [List.toArray] at x0 z0
 have hgz : (w.alloc (.cells #[v0, v1, v2, v3] 36 (0, 0))).heap.size = w.heap.size + 1 := by simp
 rw [hgz] at z0
 clear hgz
 have HR : Hid (RdVals w m.fl [v0, v1, v2, v3]) := h
 clear h
 simp only [agg]
 go_enter Tryz.func6, Tryz.ntmps6
 go_upto_region 1 with fail
 generalize (w.alloc (.cells #[v0, v1, v2, v3] 36 (0, 0))).alloc (.cells #[.slice none 0 0, .slice none 0 0] 31 (0, 0)) = w1 at *
 have H1 := specModB m w1 _ (RdVals.below HR.out y0) hs
 simp only [List.toArray] at H1
 obtain ⟨q0, q1, q2, q3⟩ := x0.c4
 cases hf : moOk m
 ·
  have HF : Hid (faceP m = ⟨[], []⟩) := by show faceP m = _; unfold faceP; rw [hf]; rfl
  rw [hf] at H1
  clear hf
  go_wp2_with fail
  refine H1.mono ?_
  rintro e w2 ⟨rfl, hg⟩
  have z2 := z0.below (below_grown hg) z0.lt
  have y2 : Below w.heap.size w w2 := y0.trans ((below_grown hg).mono y0.size)
  clear H1 q0 q1 q2 q3 x0 z0 y0 hg
  obtain ⟨d0, d1⟩ := z2.c2
  have f0 := z2.free 0
  have f1 := z2.free 1
  have z3 := (z2.set (i := 0) (.slice none 0 0)).set (i := 1) (.slice none 0 0)
  have y3 : Below w.heap.size w ((w2.setCell ⟨w.heap.size + 1, 0, none⟩ (.slice none 0 0)).setCell ⟨w.heap.size + 1, 1, none⟩ (.slice none 0 0)) := (y2.setCell (Nat.le_succ _) _).setCell (Nat.le_succ _) _
  go_wp2_with fail
  generalize (w2.setCell ⟨w.heap.size + 1, 0, none⟩ (.slice none 0 0)).setCell ⟨w.heap.size + 1, 1, none⟩ (.slice none 0 0) = w3 at *
  obtain ⟨e0, e1⟩ := z3.c2
  refine bodyPost_ret (v := .agg #[.slice none 0 0, .slice none 0 0]) (by simp only [results, Tryz.results6]; simp [go_sem, e0, e1]) rfl ⟨_, _, rfl, ⟨[], by rw [HF.out]; exact Fg.nil w3 y3.size⟩, y3⟩
 ·
  have HF : Hid (faceP m = faceC m) := by show faceP m = _; unfold faceP; rw [hf]; rfl
  rw [hf] at H1
  clear hf
  go_wp2_with fail
  refine H1.mono ?_
  rintro e w2 ⟨rfl, hg⟩
  have x2 := x0.below (below_grown hg) x0.lt
  have z2 := z0.below (below_grown hg) z0.lt
  have y2 : Below w.heap.size w w2 := y0.trans ((below_grown hg).mono y0.size)
  clear H1 q0 q1 q2 q3 x0 z0 y0 hg
  obtain ⟨q0, q1, q2, q3⟩ := x2.c4
  have H2 := l7faceC m _ w2 (RdVals.below HR.out y2) hs
  simp only [agg, List.toArray] at H2
  go_wp2_with fail
  refine H2.mono ?_
  rintro e w3 ⟨nv, pv, rfl, ⟨l, hG⟩, bn⟩
  obtain ⟨m1, _, _, on, _, _⟩ := hG.name
  obtain ⟨an, cn, rfl, _, _, _, _⟩ := owns_shape on.own
  obtain ⟨aP, cP, rfl, _, _, _, _⟩ := owns_shape hG.row
  have sR := z2.below bn z2.lt
  have y3 : Below w.heap.size w w3 := y2.trans (bn.mono y2.size)
  have hw2 := y2.size
  clear H2 q0 q1 q2 q3 x2 z2 y2 on bn
  generalize (faceC m).procs.length = nf at *
  generalize (faceC m).name.length = nn at *
  obtain ⟨d0, d1⟩ := sR.c2
  have f0 := sR.free 0
  have f1 := sR.free 1
  have z9 := (sR.set (i := 0) (.slice an nn cn)).set (i := 1) (.slice aP nf cP)
  have G9 : Hid (Fg ((w3.setCell ⟨w.heap.size + 1, 0, none⟩ (.slice an nn cn)).setCell ⟨w.heap.size + 1, 1, none⟩ (.slice aP nf cP)) w2.heap.size w3.heap.size (.slice an nn cn) (.slice aP nf cP) l (faceC m)) := (hG.other sR).other (sR.set (i := 0) (.slice an nn cn))
  have y9 : Below w.heap.size w ((w3.setCell ⟨w.heap.size + 1, 0, none⟩ (.slice an nn cn)).setCell ⟨w.heap.size + 1, 1, none⟩ (.slice aP nf cP)) := (y3.setCell (Nat.le_succ _) _).setCell (Nat.le_succ _) _
  have hsz9 : ((w3.setCell ⟨w.heap.size + 1, 0, none⟩ (.slice an nn cn)).setCell ⟨w.heap.size + 1, 1, none⟩ (.slice aP nf cP)).heap.size = w3.heap.size := by simp
  go_wp2_with fail
  generalize (w3.setCell ⟨w.heap.size + 1, 0, none⟩ (.slice an nn cn)).setCell ⟨w.heap.size + 1, 1, none⟩ (.slice aP nf cP) = w9 at *
  simp only [List.set_cons_zero, List.set_cons_succ] at z9
  obtain ⟨e0, e2⟩ := z9.c2
  refine bodyPost_ret (v := .agg #[.slice an nn cn, .slice aP nf cP]) (by simp only [results, Tryz.results6]; simp [go_sem, e0, e2]) rfl ⟨_, _, rfl, ⟨l, by rw [HF.out, hsz9]; exact G9.out.wide hw2 (Nat.le_refl _)⟩, y9⟩
end Go.Proofs.YtopnodadggohiaaGreatDoor

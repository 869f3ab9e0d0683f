/- A text of one's own that grows, while blocks that are no bytes stay. -/
import Derived.Test.YtopnodadggohiaaGreatDoorSpDig
import Derived.Test.YtopnodadggohiaaGreatDoorPackJ
namespace Go.Proofs.YtopnodadggohiaaGreatDoor
open Go.RowKit
set_option linter.unusedVariables false
set_option linter.unusedSimpArgs false
set_option maxRecDepth 100000

/-- Nothing that was there has changed, but blocks of bytes from base on that hold n or more. -/
structure Wr (n base : Nat) (w w' : World) : Prop where
 wr : Wrote base none w w'
 small : ∀ (k : Nat) (cs : Array Value), w.heap[k]? = some (Obj.cells cs 5 (0, 0)) → cs.size < n → w'.heap[k]? = w.heap[k]?
theorem Wr.refl (n base : Nat) (w : World) : Wr n base w w := ⟨Wrote.refl _ _ _, fun _ _ _ _ => rfl⟩
theorem Wr.trans {n base : Nat} {a b c : World} (h : Wr n base a b) (k : Wr n base b c) : Wr n base a c :=
 ⟨h.wr.trans k.wr, fun i cs hi hs => by
  have h1 := h.small i cs hi hs
  exact (k.small i cs (h1.trans hi) hs).trans h1⟩
theorem Wr.mono {n m base : Nat} {a b : World} (h : Wr n base a b) (hm : m ≤ n) : Wr m base a b := ⟨h.wr, fun k cs hk hs => h.small k cs hk (by omega)⟩
theorem Wr.of {n base : Nat} {w w' : World} (h : w.grownBy w' none) : Wr n base w w' :=
 ⟨Wrote.of h, fun k cs hk _ => h.block k (Array.getElem?_eq_some_iff.1 hk).1 (by simp)⟩
theorem Wr.own {base : Nat} {w w' : World} {v : Value} {n : Nat} {l : List Int} (ho : Own w base v n l) (h : w.grownBy w' v.ownBlock) : Wr n base w w' := by
 refine ⟨Wrote.own ho h, fun k cs hk hs => h.block k (Array.getElem?_eq_some_iff.1 hk).1 (fun e => ?_)⟩
 rcases ho.1.2 with ⟨rfl, _⟩ | ⟨g, cap, cur, rfl, hg, hh, hc, _, hcs, _⟩
 ·
  simp [Value.ownBlock] at e
 ·
  simp only [Value.ownBlock, Option.some.injEq] at e
  subst e
  have := hk.symm.trans hh
  simp only [Option.some.injEq, Obj.cells.injEq] at this
  rw [this.1] at hs
  omega

/-- The text L so far; B: what else is known of the blocks; ws: where the writing began; w0: where the tree was read. -/
structure Sg (w0 ws : World) (n0 base : Nat) (B : World → Prop) (w : World) (L : List Int) (v : Value) : Prop where
 own : Own w base v L.length L
 b : B w
 keep : ∀ x y, B x → Wrote base none x y → B y
 wrote : Wr n0 base ws w
 hn : n0 ≤ L.length
 bel : Below w0.heap.size w0 w
 le : base ≤ w.heap.size
 h0 : w0.heap.size ≤ base

theorem Sg.step {w0 ws w w' : World} {n0 base : Nat} {B : World → Prop} {L L' : List Int} {v v' : Value} (h : Sg w0 ws n0 base B w L v) (hw : Wr L.length base w w') (ho : Own w' base v' (L ++ L').length (L ++ L')) : Sg w0 ws n0 base B w' (L ++ L') v' :=
 ⟨ho, h.keep _ _ h.b hw.wr, h.keep, h.wrote.trans (hw.mono h.hn), by have := h.hn; rw [List.length_append]; omega, hw.wr.below h.bel h.h0 (by simp), Nat.le_trans h.le hw.wr.size, h.h0⟩
theorem Sg.grown {w0 ws w w' : World} {n0 base : Nat} {B : World → Prop} {L : List Int} {v : Value} (h : Sg w0 ws n0 base B w L v) (hg : w.grownBy w' none) : Sg w0 ws n0 base B w' L v := by
 have := h.step (L' := []) (v' := v) (Wr.of hg) (by rw [List.append_nil]; exact h.own.below (below_grown hg))
 rwa [List.append_nil] at this
theorem Sg.alloc {w0 ws w : World} {n0 base : Nat} {B : World → Prop} {L : List Int} {v : Value} (h : Sg w0 ws n0 base B w L v) (o : Obj) : Sg w0 ws n0 base B (w.alloc o) L v := h.grown (grown_alloc w o none)
theorem Sg.drew {w0 ws w : World} {n0 base : Nat} {B : World → Prop} {L : List Int} {v : Value} (h : Sg w0 ws n0 base B w L v) : Sg w0 ws n0 base B w.drew L v :=
 h.grown ⟨rfl, rfl, rfl, Nat.le_refl _, fun _ _ _ => rfl⟩
/-- The same, with more known of the blocks. -/
theorem Sg.more {w0 ws w : World} {n0 base : Nat} {B C : World → Prop} {L : List Int} {v : Value} (h : Sg w0 ws n0 base B w L v) (hc : C w) (hk : ∀ x y, C x → Wrote base none x y → C y) : Sg w0 ws n0 base (fun x => B x ∧ C x) w L v :=
 ⟨h.own, ⟨h.b, hc⟩, fun x y hb hw => ⟨h.keep x y hb.1 hw, hk x y hb.2 hw⟩, h.wrote, h.hn, h.bel, h.le, h.h0⟩
theorem Sg.less {w0 ws w : World} {n0 base : Nat} {B C : World → Prop} {L : List Int} {v : Value} (h : Sg w0 ws n0 base (fun x => B x ∧ C x) w L v) (hk : ∀ x y, B x → Wrote base none x y → B y) : Sg w0 ws n0 base B w L v :=
 ⟨h.own, h.b.1, hk, h.wrote, h.hn, h.bel, h.le, h.h0⟩
theorem keep_blk {base g : Nat} {T : TypeId} {vs : List Value} (hT : T ≠ 5) : ∀ x y, Blk x g T vs → Wrote base none x y → Blk y g T vs := fun x y hb hw => hw.blk hb hT (by simp)
theorem Sg.row {w0 ws w : World} {n0 base : Nat} {B : World → Prop} {L : List Int} {v : Value} (h : Sg w0 ws n0 base B w L v) {a : Option Addr} {n : Nat} {l : List Int} (hr : BRow w0 a n l) : BRow w a n l := hr.below h.bel
theorem Sg.free {w0 ws w : World} {n0 base : Nat} {B : World → Prop} {L : List Int} {v : Value} (h : Sg w0 ws n0 base B w L v) : v.ownBlock ≠ some w.heap.size := fun e => by have := (h.own.1.lt _ e).2; omega

theorem Sg.cast {w0 ws w : World} {n0 base : Nat} {B : World → Prop} {L M : List Int} {v : Value} (h : Sg w0 ws n0 base B w L v) (e : L = M) : Sg w0 ws n0 base B w M v := e ▸ h

/-- A new block of one byte, as a block. -/
theorem one_blk {w : World} {g : Nat} {x : Int} (h0 : 0 ≤ x) (h1 : x ≤ 255) (h : w.heap[g]? = some (.cells #[.int .u8 x] 5 (0, 0))) : BRow w (some ⟨g, 0, none⟩) 1 [x] := by
 refine ⟨rfl, by simp; omega, fun _ => ⟨g, 0, rfl, fun i hi => ?_⟩⟩
 obtain rfl : i = 0 := by omega
 have := Blk.cell (T := 5) (vs := [.int .u8 x]) (i := 0) (show Blk w g 5 [.int .u8 x] from h) rfl
 simpa using this

/-- A row of bytes behind it, as one operation of a region. -/
theorem Sg.row_wp {w0 ws w : World} {n0 base : Nat} {B : World → Prop} {L : List Int} {v : Value} {o : Oper} {a : Act} {K : Act → World → Prop} {Q : Exit → Act → World → Prop} (hg : Sg w0 ws n0 base B w L v) (s x : Operand)
  (ho : o.op = .call { callee := .builtin .append, args := #[s, x], argTypes := #[22, 22] }) (hs : a.eval s = v)
  (ad : Option Addr) (m c : Nat) (l2 : List Int) (hx : a.eval x = .slice ad m c) (hr : BRow w ad m l2) (hp : 0 < m) (hsz : L.length + m ≤ 1099511627776)
  (h : ∀ v' w', Sg w0 ws n0 base B w' (L ++ l2) v' → w.grownBy w' v.ownBlock → K (a.put o.dst v') w') : Oper.wp Tryz.prog o a w K Q := by
 obtain ⟨i0, hi, hz0, hz1, hz2⟩ := info_parts info5
 have hby : ∀ x ∈ L ++ l2, 0 ≤ x ∧ x ≤ 255 := fun x hx => (List.mem_append.1 hx).elim (hg.own.2 x) (hr.2.1 x)
 obtain ⟨b, off, rfl, hc⟩ := hr.2.2 hp
 refine wp_append_own w s x 22 ho base 5 i0 (.int .u8 0) 1 1 Tryz.underlying22 hi hz0 hz1 hz2 rfl (by decide) v L.length _ hs hg.own.1 ⟨b, off, none⟩ m c (l2.map (Value.int .u8)) hx (by simp [hr.1]) ?_ (ints_oneCell _ _) (by unfold maxLen; omega) (by omega) hg.le ?_
 ·
  intro j u hu
  have hp : 0 < (l2.map (Value.int .u8)).length := Nat.lt_of_le_of_lt (Nat.zero_le j) (List.getElem?_eq_some_iff.1 hu).1
  obtain ⟨ad', e, hc⟩ := hr.pos hp
  cases e
  exact hc j u hu
 ·
  intro v' w' ho' hg' _
  have hl : (L ++ l2).length = L.length + m := by rw [List.length_append, hr.1]
  exact h v' w' (hg.step (Wr.own hg.own hg') ⟨by rw [hl]; simpa using ho', hby⟩) hg'

/-- A string behind it, as one operation of a region. -/
theorem Sg.str_wp {w0 ws w : World} {n0 base : Nat} {B : World → Prop} {L : List Int} {v : Value} {o : Oper} {a : Act} {K : Act → World → Prop} {Q : Exit → Act → World → Prop} (hg : Sg w0 ws n0 base B w L v) (s x : Operand)
  (ho : o.op = .call { callee := .builtin .append, args := #[s, x], argTypes := #[22, 9] }) (hs : a.eval s = v)
  (t : ByteArray) (hx : a.eval x = .string t) (hsz : L.length + t.size ≤ 1099511627776)
  (h : ∀ v' w', Sg w0 ws n0 base B w' (L ++ sI t) v' → w.grownBy w' v.ownBlock → K (a.put o.dst v') w') : Oper.wp Tryz.prog o a w K Q := by
 obtain ⟨i0, hi, hz0, hz1, hz2⟩ := info_parts info5
 obtain ⟨v', w', hr, h2, h3, h4⟩ := Lib.run_append_own_string (P := Tryz.prog) w base 22 9 o.type 5 i0 Tryz.underlying22 Tryz.underlying9 hi hz0 hz1 hz2 v L.length _ hg.own.1 t (by unfold maxLen; omega) (by omega) hg.le
 have e : (L ++ sI t).map (Value.int .u8) = L.map (Value.int .u8) ++ Lib.strCells t := by
  rw [List.map_append]
  congr 1
  unfold sI Lib.strCells
  rw [List.map_map]
  rfl
 have hl : (L ++ sI t).length = L.length + t.size := by rw [List.length_append, size_sI]
 have hs' : Sg w0 ws n0 base B w' (L ++ sI t) v' := hg.step (Wr.own hg.own h3) ⟨by rw [hl, e]; exact h2, fun x hx => (List.mem_append.1 hx).elim (hg.own.2 x) (sI_byte t x)⟩
 unfold Oper.wp execOp
 simp only [ho, resolve, invoke, builtin, Sem.run_bind, Sem.run_pure, Result.andThen_ok, List.map_toArray, List.map_cons, List.map_nil, hs, hx, hr]
 exact h v' w' hs' h3

theorem Sg.row_list {w0 ws w : World} {n0 base : Nat} {B : World → Prop} {L : List Int} {v : Value} {ops : Array Oper} {rest : List Oper} {o : Oper} {a : Act} {Q : Exit → Act → World → Prop} (hg : Sg w0 ws n0 base B w L v) (hgd : o.guard = none) (s x : Operand)
  (ho : o.op = .call { callee := .builtin .append, args := #[s, x], argTypes := #[22, 22] }) (hs : a.eval s = v)
  (ad : Option Addr) (m c : Nat) (l2 : List Int) (hx : a.eval x = .slice ad m c) (hr : BRow w ad m l2) (hp : 0 < m) (hsz : L.length + m ≤ 1099511627776)
  (h : ∀ v' w', Sg w0 ws n0 base B w' (L ++ l2) v' → w.grownBy w' v.ownBlock → wpList Tryz.prog ops Q rest (a.put o.dst v') w') : wpList Tryz.prog ops Q (o :: rest) a w :=
 wpList_plain hgd fun _ hK => hg.row_wp s x ho hs ad m c l2 hx hr hp hsz fun v' w' h' hb' => hK _ _ (h v' w' h' hb')

theorem Sg.str_list {w0 ws w : World} {n0 base : Nat} {B : World → Prop} {L : List Int} {v : Value} {ops : Array Oper} {rest : List Oper} {o : Oper} {a : Act} {Q : Exit → Act → World → Prop} (hg : Sg w0 ws n0 base B w L v) (hgd : o.guard = none) (s x : Operand)
  (ho : o.op = .call { callee := .builtin .append, args := #[s, x], argTypes := #[22, 9] }) (hs : a.eval s = v)
  (t : ByteArray) (hx : a.eval x = .string t) (hsz : L.length + t.size ≤ 1099511627776)
  (h : ∀ v' w', Sg w0 ws n0 base B w' (L ++ sI t) v' → w.grownBy w' v.ownBlock → wpList Tryz.prog ops Q rest (a.put o.dst v') w') : wpList Tryz.prog ops Q (o :: rest) a w :=
 wpList_plain hgd fun _ hK => hg.str_wp s x ho hs t hx hsz fun v' w' h' hb' => hK _ _ (h v' w' h' hb')
end Go.Proofs.YtopnodadggohiaaGreatDoor

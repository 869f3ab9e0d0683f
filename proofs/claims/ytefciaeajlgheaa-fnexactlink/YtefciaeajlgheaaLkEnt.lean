/- Entries for all that is imported. -/
import Derived.Test.YtefciaeajlgheaaLkSeq
namespace Go.Proofs.Ytefciaeajlgheaa
open Go.RowKit Go.Shelf
set_option linter.unusedVariables false
set_option linter.unusedSimpArgs false
set_option maxRecDepth 100000
attribute [local go_sem] Oper.semAt_some

theorem importsOfC (a : Option Addr) (n c : Nat) (w : World) :
    Calls Try.prog 54 #[.slice a n c] w fun e w' => e = .returned (.func (.func 80) #[] #[.pointer (some ⟨w.heap.size, 0, none⟩)]) ∧ w' = w.alloc (.cells #[.slice a n c] 30 (0, 0)) := by
  have hmf : ∀ (fn : Fn) (first cap : Array Value) (w : World), (Instr.makeFunc fn first cap).run Try.prog w = .ok (.func fn first cap) w := fun _ _ _ _ => rfl
  go_enter Try.func54, Try.ntmps54
  go_wp2_with fail
  go_ret
  exact ⟨rfl, rfl⟩

theorem kt_b {n0 : Nat} {w : World} (hn : n0 ≤ w.heap.size) (W : World) (l : Nat) (o o' : Obj) (hl : w.heap.size ≤ l) (h : W.heap[l]? = some o) (hc : o.isCells = false) (_ : o.isWalk = false) : Kt n0 W (W.putObj l o') := by
  have hg := grownBy_putObj' W l o'
  refine ⟨hg.os, hg.tape, hg.output, hg.size, fun k hk => ?_, fun k c T f hk _ => ?_⟩
  · have hl2 := (Array.getElem?_eq_some_iff.1 h).1
    exact hg.block k (by omega) (by simp; omega)
  · refine hg.block k (Array.getElem?_eq_some_iff.1 hk).1 (by
      simp only [ne_eq, Option.some.injEq]
      intro e
      subst e
      rw [hk] at h
      cases h
      cases hc)
theorem blk_own {A C : World} {row : Option Nat} {g : Nat} {T : TypeId} {vs : List Value} (h : Blk A g T vs) (hg : A.grownBy C row) (hr : ∀ r, row = some r → ∃ o : Obj, A.heap[r]? = some o ∧ o.isCells = false) : Blk C g T vs :=
  (hg.block g h.lt (fun e => by
    obtain ⟨o, ho, hc⟩ := hr g e.symm
    have h' : A.heap[g]? = _ := h
    rw [h'] at ho
    cases ho
    cases hc)).trans h
theorem row_own {A C : World} {row : Option Nat} {T k base n : Nat} {v : Value} {xs : List Value} (h : A.ownsRow base T k v n xs) (hg : A.grownBy C row) (hr : ∀ r, row = some r → ∃ o : Obj, A.heap[r]? = some o ∧ o.isCells = false) : C.ownsRow base T k v n xs :=
  owns_stays h fun g hv => hg.block g (h.lt g hv).2 (fun e => by
    obtain ⟨o, ho, hc⟩ := hr g e.symm
    obtain ⟨cur, h'⟩ := owns_type h hv
    rw [h'] at ho
    cases ho
    cases hc)

def entsAll (l : List Oj) : Nat → List Wo
  | 0 => []
  | j + 1 => entsAll l j ++ entsAt l j
def impOf (l : List Oj) (x : Nat × Ip) : Option Wo := impW (l.take x.1) x.2
theorem map_some_append {α β : Type} (f : α → Option β) : ∀ (a b : List α) (ws : List β), (a ++ b).map f = ws.map some → ∃ u v, ws = u ++ v ∧ a.map f = u.map some ∧ b.map f = v.map some := by
  intro a
  induction a with
  | nil => intro b ws h; exact ⟨[], ws, rfl, rfl, by simpa using h⟩
  | cons x a ih =>
    intro b ws h
    cases ws with
    | nil => simp at h
    | cons y ws =>
      simp only [List.cons_append, List.map_cons, List.cons.injEq] at h
      obtain ⟨u, v, rfl, h1, h2⟩ := ih b ws h.2
      exact ⟨y :: u, v, rfl, by simp [h.1, h1], h2⟩
theorem pairs_good (l : List Oj) : ∀ (n : Nat) (ws : List Wo), (pairsTo l n).map (impOf l) = ws.map some → goodTo l n ∧ ws = entsAll l n := by
  intro n
  induction n with
  | zero =>
    intro ws h
    simp only [pairsTo, List.map_nil] at h
    exact ⟨fun j hj => by omega, by cases ws with | nil => rfl | cons x l => simp at h⟩
  | succ n ih =>
    intro ws h
    obtain ⟨u, v, rfl, h1, h2⟩ := map_some_append (impOf l) (pairsTo l n) (pairsAt l n) ws h
    obtain ⟨g1, e1⟩ := ih u h1
    have h3 : ∀ (is : List Ip) (v : List Wo), (is.map fun i => (n, i)).map (impOf l) = v.map some → (∀ i ∈ is, impW (l.take n) i ≠ none) ∧ v = is.map fun i => (impW (l.take n) i).getD zeroWo := by
      intro is
      induction is with
      | nil => intro v hv; exact ⟨by simp, by cases v with | nil => rfl | cons x l => simp at hv⟩
      | cons i is ih2 =>
        intro v hv
        cases v with
        | nil => simp at hv
        | cons y v =>
          simp only [List.map_cons, List.cons.injEq] at hv
          obtain ⟨p1, p2⟩ := ih2 v hv.2
          have hi : impW (l.take n) i = some y := hv.1
          refine ⟨fun z hz => ?_, by simp [hi, p2]⟩
          rcases List.mem_cons.1 hz with rfl | hz
          · rw [hi]; simp
          · exact p1 z hz
    obtain ⟨g2, e2⟩ := h3 (ojAt l n).im v h2
    refine ⟨fun j hj i hi => ?_, by rw [e1, e2]; rfl⟩
    by_cases e : j = n
    · subst e; exact g2 i hi
    · exact g1 j (by omega) i hi
theorem pairs_bad {l : List Oj} {n : Nat} {x : Nat × Ip} (hx : x ∈ pairsTo l n) (h : impOf l x = none) : ¬ goodTo l n := by
  intro hg
  induction n with
  | zero => simp [pairsTo] at hx
  | succ n ih =>
    rw [pairsTo, List.mem_append] at hx
    rcases hx with hx | hx
    · exact ih hx fun j hj => hg j (by omega)
    · obtain ⟨i, hi, rfl⟩ := List.mem_map.1 hx
      exact hg n (by omega) i hi h

theorem impW_hit {l : List Oj} {own m x : Nat} {o : Oj} {i : Ip} (hu : unlO l) (hm : m < own) (ho : l[m]? = some o) (hn : o.name = i.mod) (hx : findX o i.name i.print = some x) : impW (l.take own) i = some (entWo m x) := by
  have hf : findO (l.take own) i.mod = some m := by
    refine find_hit (x := o) (by rw [List.getElem?_take, if_pos hm]; exact ho) (by simpa using hn) fun k y hk hy => ?_
    obtain ⟨_, hy'⟩ := take_get hy
    have := hu m (List.getElem?_eq_some_iff.1 ho).1
    rw [ojAt_some ho] at this
    obtain ⟨_, _, _, hno⟩ := find_some this
    have := hno k y hk hy'
    rw [hn] at this
    exact this
  unfold impW
  rw [hf]
  simp only [List.getElem?_take, if_pos hm, ho, Option.getD_some, hx]
theorem impW_miss {l : List Oj} {own : Nat} {i : Ip} (h : ∀ (m : Nat) (o : Oj), m < own → l[m]? = some o → o.name = i.mod → findX o i.name i.print = none) : impW (l.take own) i = none := by
  unfold impW
  cases hf : findO (l.take own) i.mod with
  | none => rfl
  | some f =>
    obtain ⟨o, ho, hp, _⟩ := find_some hf
    obtain ⟨hl, ho'⟩ := take_get ho
    simp only [ho, Option.getD_some, h f o hl ho' (by simpa using hp)]

/-- Where the entries stand. -/
structure En (l : List Oj) (w : World) (a : Option Addr) (n c : Nat) (pre : List (IrR w n)) (W : World) : Prop where
  box : Blk W w.heap.size 30 [.slice a n c]
  r1 : Blk W (w.heap.size + 1) 25 [.slice none 0 0]
  r2 : Blk W (w.heap.size + 1 + 1) 4 [.bool false]
  ev : ∃ v ws, Blk W (w.heap.size + 1 + 1 + 1) 25 [v] ∧ W.ownsRow w.heap.size 55 7 v pre.length (flatW ws) ∧ (pre.map IrR.key).map (impOf l) = ws.map some
  y : Below w.heap.size w W
theorem En.grown {l : List Oj} {w W C : World} {a : Option Addr} {n c : Nat} {pre : List (IrR w n)} (h : En l w a n c pre W) (hg : W.grownBy C none) : En l w a n c pre C := by
  have b := below_grown hg
  obtain ⟨v, ws, h1, h2, h3⟩ := h.ev
  exact ⟨h.box.below b h.box.lt, h.r1.below b h.r1.lt, h.r2.below b h.r2.lt, ⟨v, ws, h1.below b h1.lt, owns_stays h2 (fun g hv => b.block g (h2.lt g hv).2), h3⟩, h.y.trans (b.mono h.y.size)⟩
theorem En.own {l : List Oj} {w A C : World} {a : Option Addr} {n c : Nat} {pre : List (IrR w n)} {row : Option Nat} (h : En l w a n c pre A) (hg : A.grownBy C row) (hr : ∀ r, row = some r → w.heap.size ≤ r ∧ ∃ o : Obj, A.heap[r]? = some o ∧ o.isCells = false) : En l w a n c pre C := by
  have hr' := fun r e => (hr r e).2
  obtain ⟨v, ws, h1, h2, h3⟩ := h.ev
  exact ⟨blk_own h.box hg hr', blk_own h.r1 hg hr', blk_own h.r2 hg hr', ⟨v, ws, blk_own h1 hg hr', row_own h2 hg hr', h3⟩, h.y.grown hg h.y.size (fun k hk => (hr k hk).1)⟩
/-- An entry more. -/
theorem En.push {l : List Oj} {w W C : World} {a : Option Addr} {n c : Nat} {pre : List (IrR w n)} {x : IrR w n} {v v' : Value} {ws : List Wo} {e : Wo} (h : En l w a n c pre W) (h1 : Blk W (w.heap.size + 1 + 1 + 1) 25 [v]) (h2 : W.ownsRow w.heap.size 55 7 v pre.length (flatW ws)) (h3 : (pre.map IrR.key).map (impOf l) = ws.map some)
    (hx : impOf l x.key = some e) (hr : C.ownsRow w.heap.size 55 7 v' (pre.length + 1) (flatW ws ++ flatW [e])) (hg : W.grownBy C v.ownBlock) : En l w a n c (pre ++ [x]) (C.setCell ⟨w.heap.size + 1 + 1 + 1, 0, none⟩ v') ∧ Blk C (w.heap.size + 1 + 1 + 1) 25 [v] ∧ KeepsOthers W (C.setCell ⟨w.heap.size + 1 + 1 + 1, 0, none⟩ v') ∧ Kt w.heap.size W (C.setCell ⟨w.heap.size + 1 + 1 + 1, 0, none⟩ v') := by
  have o1 : ∀ {g T : Nat} {vs : List Value}, Blk W g T vs → T ≠ 55 → Blk C g T vs := fun hb hT => (grown_other h2 hg hT ⟨_, hb⟩).trans hb
  have e3 := o1 h1 (by decide)
  refine ⟨⟨(o1 h.box (by decide)).other (by omega), (o1 h.r1 (by decide)).other (by omega), (o1 h.r2 (by decide)).other (by omega), ⟨v', ws ++ [e], e3.set (i := 0) v', ?_, ?_⟩, ?_⟩, e3, ?_, ?_⟩
  · rw [List.length_append, flatW_append]
    refine owns_stays hr fun g hv => heap_setCell_other C ⟨w.heap.size + 1 + 1 + 1, 0, none⟩ g v' fun e => ?_
    have e' : g = w.heap.size + 1 + 1 + 1 := e
    obtain ⟨cur, hc⟩ := owns_type hr hv
    rw [e'] at hc
    exact absurd (typ_ne hc e3) (by decide)
  · rw [List.map_append, List.map_append, h3, List.map_append]
    simp [hx]
  · exact (h.y.grown hg h.y.size (fun k hk => (h2.lt k hk).1)).setCell (p := ⟨w.heap.size + 1 + 1 + 1, 0, none⟩) (by show w.heap.size ≤ w.heap.size + 1 + 1 + 1; omega) _
  · exact (KeepsOthers.of_grownBy hg (fun j o hj ho => by
      obtain ⟨cur, hc⟩ := owns_type h2 hj
      rw [hc] at ho
      cases ho
      rfl)).trans (KeepsOthers.setCell _ _ _)
  · have hs : (C.setCell ⟨w.heap.size + 1 + 1 + 1, 0, none⟩ v').heap.size = C.heap.size := by simp
    refine ⟨hg.os, hg.tape, hg.output, by rw [hs]; exact hg.size, fun k hk => ?_, fun k cc T f hc hT => ?_⟩
    · rw [heap_setCell_other C ⟨w.heap.size + 1 + 1 + 1, 0, none⟩ k v' (by show k ≠ w.heap.size + 1 + 1 + 1; omega)]
      exact hg.block k (Nat.lt_of_lt_of_le hk h.y.size) (fun e => by have := (h2.lt k e.symm).1; omega)
    · have hne : k ≠ w.heap.size + 1 + 1 + 1 := fun e => by
        subst e
        rw [show W.heap[w.heap.size + 1 + 1 + 1]? = _ from h1] at hc
        simp only [Option.some.injEq, Obj.cells.injEq] at hc
        rcases hT with h9 | h9 | h9 <;> (rw [h9] at hc; exact absurd hc.2.1 (by decide))
      rw [heap_setCell_other C ⟨w.heap.size + 1 + 1 + 1, 0, none⟩ k v' hne]
      refine hg.block k (Array.getElem?_eq_some_iff.1 hc).1 fun e => ?_
      obtain ⟨cur, hc'⟩ := owns_type h2 e.symm
      rw [hc'] at hc
      simp only [Option.some.injEq, Obj.cells.injEq] at hc
      rcases hT with h9 | h9 | h9 <;> (rw [h9] at hc; exact absurd hc.2.1 (by decide))

/-- What is told of imports. -/
def EnFin (l : List Oj) (n : Nat) (w : World) (e : Ending) (w' : World) : Prop :=
  Below w.heap.size w w' ∧ ((∃ v, e = .returned (.tuple #[v, .bool true]) ∧ goodTo l n ∧ w'.ownsRow w.heap.size 55 7 v (entsAll l n).length (flatW (entsAll l n))) ∨ (e = .returned (.tuple #[.slice none 0 0, .bool false]) ∧ ¬ goodTo l n))

theorem pairs_len (l : List Oj) (h : ∀ o ∈ l, o.im.length ≤ 8) : ∀ n, n ≤ l.length → (pairsTo l n).length ≤ n * 8 := by
  intro n
  induction n with
  | zero => intro _; simp [pairsTo]
  | succ n ih =>
    intro hn
    have h1 := ih (by omega)
    have h2 := h (l[n]'(by omega)) (List.getElem_mem _)
    have h3 : ojAt l n = l[n]'(by omega) := ojAt_some (List.getElem?_eq_getElem _)
    simp only [pairsTo, List.length_append, pairsAt, List.length_map, h3]
    omega
theorem entM_yes {m x : Nat} (hm : m ≤ 7) (hx : x ≤ 4000) (W : World) : Calls Try.prog 56 #[.int .i64 (m : Int), .int .i64 (x : Int)] W fun e w' => e = .returned (.tuple #[.agg #[.bool true, .int .i64 0, .int .i64 0, .int .i64 0, .int .i64 (x : Int), .int .i64 16, .int .i64 ((m : Int) + 1)], .bool true]) ∧ Below W.heap.size W w' := by
  have h := entryM (m : Int) (x : Int) W
  rw [entB_yes hm hx] at h
  exact h
theorem entM_no (m : Nat) (W : World) : Calls Try.prog 56 #[.int .i64 (m : Int), .int .i64 (-1)] W fun e w' => e = .returned (.tuple #[.agg #[.bool false, .int .i64 0, .int .i64 0, .int .i64 0, .int .i64 0, .int .i64 0, .int .i64 0], .bool false]) ∧ Below W.heap.size W w' := by
  have h := entryM (m : Int) (-1) W
  rw [show entB (m : Int) (-1) = false by simp [entB, inR]] at h
  exact h

theorem wpListIn_appendWo {F : Fence} {fn : Nat} {w : World} {ops : Array Oper} {rest : List Oper} {o : Oper} {a : Act} {Q : Exit → Act → World → Prop} (hgd : o.guard = none) (s x : Operand)
    (ho : o.op = .call { callee := .builtin .append, args := #[s, x], argTypes := #[25, 25] })
    (base : Nat) (v : Value) (n : Nat) (ws : List Wo) (hs : a.eval s = v) (hown : w.ownsRow base 55 7 v n (flatW ws))
    (g : Nat) (e : Wo) (hx : a.eval x = .slice (some ⟨g, 0, none⟩) 1 1) (hr : Blk w g 55 e.vals) (hsz : n ≤ 1048576) (hbase : base ≤ w.heap.size)
    (h : ∀ v' w', w'.ownsRow base 55 7 v' (n + 1) (flatW ws ++ flatW [e]) → w.grownBy w' v.ownBlock → wpListIn F fn Try.prog ops Q rest (a.put o.dst v') w') : wpListIn F fn Try.prog ops Q (o :: rest) a w := by
  obtain ⟨i0, hi, hz0, hz1, hz2⟩ := info_parts infoWo
  refine wpListIn_append_own w hgd s x 25 ho base 55 i0 _ 7 56 Try.underlying25 hi hz0 hz1 hz2 rfl (by decide) v n _ hs hown ⟨g, 0, none⟩ 1 1 (flatW [e]) hx (by rw [flatW_len]; rfl) ?_ (flatW_one _) (by unfold maxLen; omega) (by omega) hbase ?_
  · intro j u hu
    rw [Addr.add_lit, Nat.zero_add]
    exact hr.cell (by simpa [flatW] using hu)
  · intro v' w' ho' hg' _
    exact h v' w' ho' hg'

theorem En.start (l : List Oj) (w : World) (a : Option Addr) (n c : Nat) : En l w a n c [] (((((w.alloc (.cells #[.slice a n c] 30 (0, 0))).alloc (.cells #[.slice none 0 0] 25 (0, 0))).alloc (.cells #[.bool false] 4 (0, 0))).alloc (.cells #[.slice none 0 0] 25 (0, 0))).alloc (.cells #[.slice a n c] 30 (0, 0))) ∧ Blk (((((w.alloc (.cells #[.slice a n c] 30 (0, 0))).alloc (.cells #[.slice none 0 0] 25 (0, 0))).alloc (.cells #[.bool false] 4 (0, 0))).alloc (.cells #[.slice none 0 0] 25 (0, 0))).alloc (.cells #[.slice a n c] 30 (0, 0))) (w.heap.size + 1 + 1 + 1 + 1) 30 [.slice a n c] ∧ (((((w.alloc (.cells #[.slice a n c] 30 (0, 0))).alloc (.cells #[.slice none 0 0] 25 (0, 0))).alloc (.cells #[.bool false] 4 (0, 0))).alloc (.cells #[.slice none 0 0] 25 (0, 0))).alloc (.cells #[.slice a n c] 30 (0, 0))).heap.size = w.heap.size + 5 := by
  have b0 := (((((Blk.new w 30 [.slice a n c]).old (o := .cells #[.slice none 0 0] 25 (0, 0))).old (o := .cells #[.bool false] 4 (0, 0))).old (o := .cells #[.slice none 0 0] 25 (0, 0))).old (o := .cells #[.slice a n c] 30 (0, 0)))
  have b1 := (((Blk.new (w.alloc (.cells #[.slice a n c] 30 (0, 0))) 25 [.slice none 0 0]).old (o := .cells #[.bool false] 4 (0, 0))).old (o := .cells #[.slice none 0 0] 25 (0, 0))).old (o := .cells #[.slice a n c] 30 (0, 0))
  have b2 := ((Blk.new ((w.alloc (.cells #[.slice a n c] 30 (0, 0))).alloc (.cells #[.slice none 0 0] 25 (0, 0))) 4 [.bool false]).old (o := .cells #[.slice none 0 0] 25 (0, 0))).old (o := .cells #[.slice a n c] 30 (0, 0))
  have b3 := (Blk.new (((w.alloc (.cells #[.slice a n c] 30 (0, 0))).alloc (.cells #[.slice none 0 0] 25 (0, 0))).alloc (.cells #[.bool false] 4 (0, 0))) 25 [.slice none 0 0]).old (o := .cells #[.slice a n c] 30 (0, 0))
  have b4 := Blk.new ((((w.alloc (.cells #[.slice a n c] 30 (0, 0))).alloc (.cells #[.slice none 0 0] 25 (0, 0))).alloc (.cells #[.bool false] 4 (0, 0))).alloc (.cells #[.slice none 0 0] 25 (0, 0))) 30 [.slice a n c]
  simp only [List.toArray, World.size_alloc] at b0 b1 b2 b3 b4
  refine ⟨⟨b0, b1, b2, ⟨.slice none 0 0, [], b3, World.ownsRow_nil _ _ _ _, rfl⟩, ?_⟩, b4, by simp⟩
  exact (((((Below.refl _ w).alloc (Nat.le_refl _) _).alloc (by simp) _).alloc (by simp; omega) _).alloc (by simp; omega) _).alloc (by simp; omega) _

set_option maxHeartbeats 8000000 in
theorem entriesOfC (l : List Oj) (a : Option Addr) (n c : Nat) (w : World) (hL : LRow w a c 5 (l.map Oj.fl)) (hn : l.length = n) (hn8 : n ≤ 8) (hu : unlO l) (hf : ∀ o ∈ l, objOk o.ob = true) :
    Calls Try.prog 25 #[.slice a n c] w (EnFin l n w) := by
  have HL : Hid (LRow w a c 5 (l.map Oj.fl)) := hL
  have HN : Hid (l.length = n) := hn
  have HU : Hid (unlO l) := hu
  have HFo : Hid (∀ o ∈ l, objOk o.ob = true) := hf
  have hcap := hL.cap
  rw [List.length_map, hn] at hcap
  obtain ⟨e0, bB, hsz⟩ := En.start l w a n c
  clear hu hf
  refine callsIn_wide (n := 5) |>.1 ?_
  refine callsIn_of_wp_marks Try.func25 rfl trivial ?_ rfl
  simp only [Try.ntmps25, List.size_toArray, List.length_cons, List.length_nil, Nat.reduceAdd, Nat.reduceSub, Array.replicate_succ, Array.replicate_zero, List.push_toArray, List.append_toArray, List.nil_append, List.cons_append]
  gi_wp2_with fail
  refine wpIn_wide.2 (wp_scope_straight ((wpIn_wide (n := 5)).1 ?_))
  gi_wp2_with fail
  refine wpIn_label ?_
  gi_wp2_with (refine ⟨trivial, ?_⟩; gi_at_call 54; refine (callsIn_wide.2 (importsOfC _ _ _ _)).mono ?_; rintro e w' ⟨rfl, rfl⟩)
  have hB0 := e0.y
  obtain ⟨W0, hW0⟩ : ∃ W0, (((((w.alloc (.cells #[.slice a n c] 30 (0, 0))).alloc (.cells #[.slice none 0 0] 25 (0, 0))).alloc (.cells #[.bool false] 4 (0, 0))).alloc (.cells #[.slice none 0 0] 25 (0, 0))).alloc (.cells #[.slice a n c] 30 (0, 0))) = W0 := ⟨_, rfl⟩
  rw [hW0] at e0 bB hsz hB0
  have hW0' : ((((w.alloc (.cells { toList := [.slice a n c] } 30 (0, 0))).alloc (.cells #[.slice none 0 0] 25 (0, 0))).alloc (.cells #[.bool false] 4 (0, 0))).alloc (.cells #[.slice none 0 0] 25 (0, 0))).alloc (.cells #[.slice a n c] 30 (0, 0)) = W0 := hW0
  first | rw [hW0] | rw [hW0']
  clear hW0 hW0'
  refine wpIn_rangeFunc_ownH rfl (by omega) (gf := 80) (lb := #[.pointer (some ⟨w.heap.size + 1 + 1 + 1 + 1, 0, none⟩)]) rfl trivial (enters_of Try.func80 (by kernel_rfl) rfl)
    (importsSeq w W0 4 w.heap.size (w.heap.size + 1 + 1 + 1 + 1) l a n c hL hn hB0 (Nat.le_refl _) hB0.size bB) Kt.trans (kt_b hB0.size) (Below.refl _ _) (fun _ => rfl)
    (fun pre W => En l w a n c pre W)
    (fun cd pre W => cd = .ret ∧ (∃ x ∈ pre, impOf l x.key = none) ∧ Blk W (w.heap.size + 1) 25 [.slice none 0 0] ∧ Blk W (w.heap.size + 1 + 1) 4 [.bool false] ∧ Below w.heap.size w W)
    (fun s A C row hs hg hr => hs.own hg (fun r e => ⟨Nat.le_trans hB0.size (hr r e).1, (hr r e).2⟩))
    (fun cd s A C row hs hg hr => ⟨hs.1, hs.2.1, blk_own hs.2.2.1 hg (fun r e => (hr r e).2), blk_own hs.2.2.2.1 hg (fun r e => (hr r e).2), hs.2.2.2.2.grown hg hs.2.2.2.2.size (fun k hk => Nat.le_trans hB0.size (hr k hk).1)⟩)
    e0
    (fun x a' W => ∃ Bx, Blk W Bx 52 [.slice x.am x.ip.mod.length x.cm, .slice x.an x.ip.name.length x.cn, .int .i64 x.ip.print] ∧ a' = { tmps := #[.slice a n c, .pointer (some ⟨w.heap.size, 0, none⟩), .pointer (some ⟨w.heap.size + 1, 0, none⟩), .pointer (some ⟨w.heap.size + 1 + 1, 0, none⟩), .pointer (some ⟨w.heap.size + 1 + 1 + 1, 0, none⟩), .int .i64 x.own, .pointer (some ⟨Bx, 0, none⟩), undef, undef, undef, undef, .slice a n c, .func (.func 80) #[] #[.pointer (some ⟨w.heap.size + 1 + 1 + 1 + 1, 0, none⟩)], .int .i64 x.own, .agg #[.slice x.am x.ip.mod.length x.cm, .slice x.an x.ip.name.length x.cn, .int .i64 x.ip.print], undef, undef, undef, undef, undef, undef, undef, undef, undef, undef, undef, undef, undef, undef, undef, undef, undef, undef, undef, undef, undef, undef, undef, undef, undef, undef, undef, undef, undef, undef, undef, undef, undef], defers := [] })
    (fun x a' _ A C row hs hg hr => by obtain ⟨Bx, h2, h3⟩ := hs; exact ⟨Bx, blk_own h2 hg (fun r e => (hr r e).2), h3⟩)
    ?assign ?body ?done ?stop
  case assign =>
    rintro l' pre x W K hE hK
    have HK : Hid (∀ a' W', KeepsFrom W0.heap.size W W' → Kt w.heap.size W W' → En l w a n c pre W' → (∃ Bx, Blk W' Bx 52 [.slice x.am x.ip.mod.length x.cm, .slice x.an x.ip.name.length x.cn, .int .i64 x.ip.print] ∧ a' = { tmps := #[.slice a n c, .pointer (some ⟨w.heap.size, 0, none⟩), .pointer (some ⟨w.heap.size + 1, 0, none⟩), .pointer (some ⟨w.heap.size + 1 + 1, 0, none⟩), .pointer (some ⟨w.heap.size + 1 + 1 + 1, 0, none⟩), .int .i64 x.own, .pointer (some ⟨Bx, 0, none⟩), undef, undef, undef, undef, .slice a n c, .func (.func 80) #[] #[.pointer (some ⟨w.heap.size + 1 + 1 + 1 + 1, 0, none⟩)], .int .i64 x.own, .agg #[.slice x.am x.ip.mod.length x.cm, .slice x.an x.ip.name.length x.cn, .int .i64 x.ip.print], undef, undef, undef, undef, undef, undef, undef, undef, undef, undef, undef, undef, undef, undef, undef, undef, undef, undef, undef, undef, undef, undef, undef, undef, undef, undef, undef, undef, undef, undef, undef, undef, undef], defers := [] }) → K a' W') := hK
    clear hK
    simp only [IrR.enc]
    gi_wp2_with fail
    exact HK.out _ _ ((KeepsOthers.alloc _ _).from _) (Kt.grown (grown_alloc W _ none) hE.y.size) (hE.grown (grown_alloc W _ none)) ⟨W.heap.size, Blk.new W 52 [.slice x.am x.ip.mod.length x.cm, .slice x.an x.ip.name.length x.cn, .int .i64 x.ip.print], rfl⟩
  case body =>
    rintro l' pre x a' W hl ⟨r, hr⟩ hE ⟨Bx, bX, rfl⟩ hlt
    have hpl : pre.length ≤ 64 := by
      have h1 := pairs_len l (fun o ho => (objOk_parts (HFo.out o ho)).2.1) n (by rw [HN.out]; exact Nat.le_refl _)
      omega
    clear hl hr hlt bB hsz hL hn e0 hB0
    have HXI : Hid (x.key = (x.own, x.ip)) := rfl
    have HBM : Hid (BRow w x.am x.ip.mod.length x.ip.mod) := x.hm
    have HBN : Hid (BRow w x.an x.ip.name.length x.ip.name) := x.hn
    have hown := x.lt
    obtain ⟨xo, hxo⟩ : ∃ z, z = x.own := ⟨_, rfl⟩
    obtain ⟨ip, hip⟩ : ∃ z, z = x.ip := ⟨_, rfl⟩
    rw [← hxo, ← hip] at HXI
    rw [← hip] at HBM HBN bX ⊢
    rw [← hxo] at hown ⊢
    obtain ⟨am, ham⟩ : ∃ z, z = x.am := ⟨_, rfl⟩
    obtain ⟨an, han⟩ : ∃ z, z = x.an := ⟨_, rfl⟩
    obtain ⟨cm, hcm⟩ : ∃ z, z = x.cm := ⟨_, rfl⟩
    obtain ⟨cn, hcn⟩ : ∃ z, z = x.cn := ⟨_, rfl⟩
    rw [← ham] at HBM bX ⊢
    rw [← han] at HBN bX ⊢
    rw [← hcm] at bX ⊢
    rw [← hcn] at bX ⊢
    clear ham han hcm hcn hxo hip
    obtain ⟨b, off, rfl⟩ := LRow.addr HL.out (by rw [List.length_map, HN.out]; omega)
    generalize ip.mod.length = nm at *
    generalize ip.name.length = nn at *
    have cB := hE.box.cell (i := 0) rfl
    have z0 : (0 : Int) ≤ (xo : Int) := by omega
    have z1 : (xo : Int) ≤ (c : Int) := by omega
    have z2 : (xo : Int) ≤ (n : Int) := by omega
    have HE : Hid (En l w (some ⟨b, off, none⟩) n c pre W) := hE
    have HBX : Hid (Blk W Bx 52 [.slice am nm cm, .slice an nn cn, .int .i64 ip.print]) := bX
    have HY : Hid (Below w.heap.size w W) := hE.y
    clear hE bX
    gi_wp2_with fail
    gi_loopw [7, 8, 9, 10, 19] (fun _ _ _ _ i wr => ∃ m : Nat, m ≤ xo ∧ i = .int .i64 m ∧ Hid (∀ (m' : Nat) (o : Oj), m' < m → l[m']? = some o → o.name = ip.mod → findX o ip.name ip.print = none) ∧ Hid (W.grownBy wr none)) (fun _ _ _ _ i _ => xo - (intOf i).toNat)
    case atStart => exact ⟨0, Nat.zero_le _, rfl, (by show ∀ _ _, _; omega), grown_refl _ _⟩
    case round =>
      obtain ⟨m, hm, rfl, hno, hgr⟩ := hrel
      clear cB
      by_cases hlm : m < xo
      · obtain ⟨o, v0, v1, v2, v3, v4, ho, hv, c0, c1, c2, c3, c4⟩ := objCells HL.out HN.out m (by omega)
        have yw : Below w.heap.size w wr := HY.out.trans ((below_grown hgr.out).mono HY.out.size)
        have b0 := cell_on c0 yw
        have b1 := cell_on c1 yw
        have b2 := cell_on c2 yw
        have b3 := cell_on c3 yw
        have b4 := cell_on c4 yw
        have HV : Hid (RdVals w o.fl [v0, v1, v2, v3, v4]) := hv
        obtain ⟨a0, e0, a1, e1, a2, e2, a4, e4, rfl, rfl, rfl, rfl, rfl, hB0, _⟩ := objShape hv
        have HO : Hid (l[m]? = some o) := ho
        have HB0 : Hid (BRow w a0 o.name.length o.name) := hB0
        have HUE := (objOk_parts (HFo.out o (List.mem_of_getElem? ho))).2.2.2.2.2.1
        have HX8 : Hid (∀ (x : Nat) (z : Xp), o.ex[x]? = some z → x ≤ 4000) := fun x z hz => by have h1 := (List.getElem?_eq_some_iff.1 hz).1; have h2 := (objOk_parts (HFo.out o (List.mem_of_getElem? ho))).1; omega
        have HXP : Hid (∀ (W1 : World), Below w.heap.size w W1 → Calls Try.prog 26 #[.agg #[.slice a0 o.name.length e0, .slice a1 o.ex.length e1, .slice a2 o.im.length e2, .int .i64 o.data, .slice a4 o.code.length e4], .slice an nn cn, .int .i64 ip.print] W1 fun e w' => e = .returned (.int .i64 (intO (findX o ip.name ip.print))) ∧ W1.grownBy w' none) := fun W1 hb => exportPlaceC o _ _ _ _ _ W1 (RdVals.below HV.out hb) HUE an nn cn ip.name (BRow.below HBN.out hb) ip.print
        have hm' : (m : Int) < (xo : Int) := by omega
        have hmn : (m : Int) < (n : Int) := by omega
        generalize o.name.length = n0 at *
        generalize o.ex.length = n1 at *
        generalize o.im.length = n2 at *
        generalize o.code.length = n4 at *
        generalize o.data = d3 at *
        have yO := grown_alloc wr (.cells #[.slice a0 n0 e0, .slice a1 n1 e1, .slice a2 n2 e2, .int .i64 d3, .slice a4 n4 e4] 47 (0, 0)) none
        have oB := Blk.new wr 47 [.slice a0 n0 e0, .slice a1 n1 e1, .slice a2 n2 e2, .int .i64 d3, .slice a4 n4 e4]
        have bX1 := HBX.out.below (below_grown (grown_trans hgr.out yO)) HBX.out.lt
        have g1 := grown_trans hgr.out yO
        simp only [List.toArray] at oB
        clear c0 c1 c2 c3 c4 ho hv hB0 HUE yO
        gi_upto_region 8 with fail
        generalize wr.alloc (.cells #[.slice a0 n0 e0, .slice a1 n1 e1, .slice a2 n2 e2, .int .i64 d3, .slice a4 n4 e4] 47 (0, 0)) = w1 at *
        generalize wr.heap.size = gO at *
        clear b0 b1 b2 b3 b4 yw hgr
        have y1 : Below w.heap.size w w1 := HY.out.trans ((below_grown g1).mono HY.out.size)
        have oc0 := oB.cell (i := 0) rfl
        have xc0 := bX1.cell (i := 0) rfl
        have HEQ := bytesEqualM a0 n0 e0 o.name am nm cm ip.mod w1 (BRow.below HB0.out y1) (BRow.below HBM.out y1)
        have G1 : Hid (W.grownBy w1 none) := g1
        by_cases hne : o.name = ip.mod
        · rw [decide_eq_true hne] at HEQ
          have HNE : Hid (o.name = ip.mod) := hne
          clear hne g1
          have oc1 := oB.cell (i := 1) rfl
          have oc2 := oB.cell (i := 2) rfl
          have oc3 := oB.cell (i := 3) rfl
          have oc4 := oB.cell (i := 4) rfl
          have xc1 := bX1.cell (i := 1) rfl
          have xc2 := bX1.cell (i := 2) rfl
          have H2 := HXP.out w1 y1
          obtain ⟨fx, hfx⟩ : ∃ z, z = findX o ip.name ip.print := ⟨_, rfl⟩
          rw [← hfx] at H2
          have HFX : Hid (findX o ip.name ip.print = fx) := hfx.symm
          clear hfx HXP
          cases fx with
          | none =>
            have HN9 : Hid (∀ (m' : Nat) (o : Oj), m' < m + 1 → l[m']? = some o → o.name = ip.mod → findX o ip.name ip.print = none) := fun m' o' h1 h2 h3 => by
              by_cases e : m' = m
              · subst e
                have := HO.out
                rw [h2] at this
                cases this
                exact HFX.out
              · exact hno.out m' o' (by omega) h2 h3
            simp only [intO] at H2
            clear hno
            gi_wp2_with (first
              | (refine ⟨trivial, ?_⟩; gi_at_call 55; refine (CallsIn.inRound l' (callsIn_wide.2 HEQ)).mono ?_; rintro e w' ⟨rfl, rfl⟩)
              | (refine ⟨trivial, ?_⟩; gi_at_call 26; refine (CallsIn.inRound l' (callsIn_wide.2 H2)).mono ?_; rintro e w2 ⟨rfl, hg2⟩)
              | (refine ⟨trivial, ?_⟩; gi_at_call 56; refine (CallsIn.inRound l' (callsIn_wide.2 (entM_no m w2))).mono ?_; rintro e w3 ⟨rfl, hb3⟩))
            have G9 : Hid (W.grownBy (w3.alloc (.cells #[.bool false, .int .i64 0, .int .i64 0, .int .i64 0, .int .i64 0, .int .i64 0, .int .i64 0] 55 (0, 0))) none) := grown_trans (grown_trans (grown_trans G1.out hg2) (grown_below hb3 none)) (grown_alloc w3 _ none)
            go_roundw
            case rel => exact ⟨m + 1, by omega, by go_num, HN9, G9⟩
            case measure => simp [intOf]; omega
          | some x9 =>
            obtain ⟨_, hxe, _, _⟩ := find_some HFX.out
            have hx8 := HX8.out x9 _ hxe
            have HIM : Hid (impOf l x.key = some (entWo m x9)) := by
              show _ = _
              rw [HXI.out]
              exact impW_hit HU.out hlm HO.out HNE.out HFX.out
            simp only [intO] at H2
            clear hno hxe
            gi_upto_region 11 with (first
              | (refine ⟨trivial, ?_⟩; gi_at_call 55; refine (CallsIn.inRound l' (callsIn_wide.2 HEQ)).mono ?_; rintro e w' ⟨rfl, rfl⟩)
              | (refine ⟨trivial, ?_⟩; gi_at_call 26; refine (CallsIn.inRound l' (callsIn_wide.2 H2)).mono ?_; rintro e w2 ⟨rfl, hg2⟩)
              | (refine ⟨trivial, ?_⟩; gi_at_call 56; refine (CallsIn.inRound l' (callsIn_wide.2 (entM_yes (show m ≤ 7 by omega) hx8 w2))).mono ?_; rintro e w3 ⟨rfl, hb3⟩))
            have g9 : W.grownBy (w3.alloc (.cells #[.bool true, .int .i64 0, .int .i64 0, .int .i64 0, .int .i64 x9, .int .i64 16, .int .i64 ((m : Int) + 1)] 55 (0, 0))) none := grown_trans (grown_trans (grown_trans G1.out hg2) (grown_below hb3 none)) (grown_alloc w3 _ none)
            have wB := Blk.new w3 55 [.bool true, .int .i64 0, .int .i64 0, .int .i64 0, .int .i64 x9, .int .i64 16, .int .i64 ((m : Int) + 1)]
            simp only [List.toArray] at wB
            clear HEQ H2 oc0 oc1 oc2 oc3 oc4 xc0 xc1 xc2 hg2 hb3 oB bX1 y1 G1 HX8
            generalize w3.alloc (.cells #[.bool true, .int .i64 0, .int .i64 0, .int .i64 0, .int .i64 x9, .int .i64 16, .int .i64 ((m : Int) + 1)] 55 (0, 0)) = w4 at *
            generalize w3.heap.size = gW at *
            have q0 := wB.cell (i := 0) rfl
            have q1 := wB.cell (i := 1) rfl
            have q2 := wB.cell (i := 2) rfl
            have q3 := wB.cell (i := 3) rfl
            have q4 := wB.cell (i := 4) rfl
            have q5 := wB.cell (i := 5) rfl
            have q6 := wB.cell (i := 6) rfl
            have g5 := grown_trans g9 (grown_alloc w4 (.cells #[.bool true, .int .i64 0, .int .i64 0, .int .i64 0, .int .i64 x9, .int .i64 16, .int .i64 ((m : Int) + 1)] 55 (0, 0)) none)
            have e5 := HE.out.grown g5
            obtain ⟨v, ws, k1, k2, k3⟩ := e5.ev
            have E5 : Hid (En l w (some ⟨b, off, none⟩) n c pre (w4.alloc (.cells #[.bool true, .int .i64 0, .int .i64 0, .int .i64 0, .int .i64 x9, .int .i64 16, .int .i64 ((m : Int) + 1)] 55 (0, 0)))) := e5
            have e4 := (HE.out.grown g9).ev
            have ec : w4.cell? ⟨w.heap.size + 1 + 1 + 1, 0, none⟩ = some v := by
              obtain ⟨v4, _, j1, _⟩ := e4
              have := j1.below (below_grown (grown_alloc w4 (.cells #[.bool true, .int .i64 0, .int .i64 0, .int .i64 0, .int .i64 x9, .int .i64 16, .int .i64 ((m : Int) + 1)] 55 (0, 0)) none)) j1.lt
              have h9 := this.cell (i := 0) rfl
              rw [k1.cell (i := 0) rfl] at h9
              cases h9
              exact j1.cell (i := 0) rfl
            obtain ⟨av, cv, rfl, _⟩ := owns_shape k2
            have K1 : Hid _ := k1
            have K2 : Hid ((w4.alloc (.cells #[.bool true, .int .i64 0, .int .i64 0, .int .i64 0, .int .i64 x9, .int .i64 16, .int .i64 ((m : Int) + 1)] 55 (0, 0))).ownsRow w.heap.size 55 7 (.slice av pre.length cv) pre.length (flatW ws)) := k2
            have K3 : Hid _ := k3
            have KB : Hid (Blk (w4.alloc (.cells #[.bool true, .int .i64 0, .int .i64 0, .int .i64 0, .int .i64 x9, .int .i64 16, .int .i64 ((m : Int) + 1)] 55 (0, 0))) w4.heap.size 55 (entWo m x9).vals) := Blk.new w4 55 (entWo m x9).vals
            have KY : Hid (w.heap.size ≤ (w4.alloc (.cells #[.bool true, .int .i64 0, .int .i64 0, .int .i64 0, .int .i64 x9, .int .i64 16, .int .i64 ((m : Int) + 1)] 55 (0, 0))).heap.size) := e5.y.size
            have G5 : Hid _ := g5
            clear e5 k1 k2 k3 e4 g9 g5 wB
            gi_wp2_with (gi_at_builtin; refine wpListIn_appendWo rfl _ _ rfl w.heap.size _ pre.length ws rfl K2.out w4.heap.size (entWo m x9) rfl KB.out (by omega) KY.out ?_)
            intro v' w6 ho6 hg6
            obtain ⟨E6, B6, KO6, KT6⟩ := E5.out.push (x := x) K1.out K2.out K3.out HIM.out ho6 hg6
            have rc := B6.cell (i := 0) rfl
            have rf := B6.free 0
            obtain ⟨av', cv', rfl, _⟩ := owns_shape ho6
            have HFI : Hid (KeepsFrom W0.heap.size W (w6.setCell ⟨w.heap.size + 1 + 1 + 1, 0, none⟩ (.slice av' (pre.length + 1) cv')) ∧ Kt w.heap.size W (w6.setCell ⟨w.heap.size + 1 + 1 + 1, 0, none⟩ (.slice av' (pre.length + 1) cv')) ∧ En l w (some ⟨b, off, none⟩) n c (pre ++ [x]) (w6.setCell ⟨w.heap.size + 1 + 1 + 1, 0, none⟩ (.slice av' (pre.length + 1) cv'))) :=
              ⟨((KeepsOthers.of_grownBy G5.out (fun j o hj => by cases hj)).trans KO6).from _, (Kt.grown G5.out HY.out.size).trans KT6, E6⟩
            clear E6 B6 KO6 KT6 ho6 hg6 E5 K1 K2 K3 KB KY G5 q0 q1 q2 q3 q4 q5 q6 ec
            gi_wp2_with fail
            exact HFI.out
        · rw [decide_eq_false hne] at HEQ
          have HN9 : Hid (∀ (m' : Nat) (o : Oj), m' < m + 1 → l[m']? = some o → o.name = ip.mod → findX o ip.name ip.print = none) := fun m' o' h1 h2 h3 => by
            by_cases e : m' = m
            · subst e
              have := HO.out
              rw [h2] at this
              cases this
              exact absurd h3 hne
            · exact hno.out m' o' (by omega) h2 h3
          clear hne hno g1
          gi_wp2_with (refine ⟨trivial, ?_⟩; gi_at_call 55; refine (CallsIn.inRound l' (callsIn_wide.2 HEQ)).mono ?_; rintro e w' ⟨rfl, rfl⟩)
          go_roundw
          case rel => exact ⟨m + 1, by omega, by go_num, HN9, G1⟩
          case measure => simp [intOf]; omega
      · have : xo = m := by omega
        subst this
        have HMI : Hid (impOf l x.key = none) := by
          show _ = _
          rw [HXI.out]
          exact impW_miss hno.out
        have e9 := HE.out.grown hgr.out
        have r1 := e9.r1.cell (i := 0) rfl
        have f1 := e9.r1.free 0
        have r2 := e9.r2.cell (i := 0) rfl
        have f2 := e9.r2.free 0
        have HF : Hid (KeepsFrom W0.heap.size W ((wr.setCell ⟨w.heap.size + 1, 0, none⟩ (.slice none 0 0)).setCell ⟨w.heap.size + 1 + 1, 0, none⟩ (.bool false)) ∧ (∃ y ∈ pre ++ [x], impOf l y.key = none) ∧ Blk ((wr.setCell ⟨w.heap.size + 1, 0, none⟩ (.slice none 0 0)).setCell ⟨w.heap.size + 1 + 1, 0, none⟩ (.bool false)) (w.heap.size + 1) 25 [.slice none 0 0] ∧ Blk ((wr.setCell ⟨w.heap.size + 1, 0, none⟩ (.slice none 0 0)).setCell ⟨w.heap.size + 1 + 1, 0, none⟩ (.bool false)) (w.heap.size + 1 + 1) 4 [.bool false] ∧ Below w.heap.size w ((wr.setCell ⟨w.heap.size + 1, 0, none⟩ (.slice none 0 0)).setCell ⟨w.heap.size + 1 + 1, 0, none⟩ (.bool false))) := by
          have n12 : w.heap.size + 1 ≠ w.heap.size + 1 + 1 := by omega
          refine ⟨((KeepsOthers.of_grownBy hgr.out (fun j o hj => by cases hj)).trans ((KeepsOthers.setCell _ _ _).trans (KeepsOthers.setCell _ _ _))).from _, ⟨x, by simp, HMI.out⟩, (e9.r1.set (i := 0) _).other n12, (e9.r2.other (Ne.symm n12)).set (i := 0) _, ?_⟩
          exact (e9.y.setCell (p := ⟨w.heap.size + 1, 0, none⟩) (by show w.heap.size ≤ w.heap.size + 1; omega) _).setCell (p := ⟨w.heap.size + 1 + 1, 0, none⟩) (by show w.heap.size ≤ w.heap.size + 1 + 1; omega) _
        clear e9 hno hgr
        gi_wp2_with fail
        exact ⟨HF.out.1, rfl, HF.out.2⟩
  case done =>
    rintro D xs W hD hS hE hK
    obtain ⟨v, ws, k1, k2, k3⟩ := hE.ev
    rw [hS] at k3
    obtain ⟨hgd, hws⟩ := pairs_good l n ws k3
    have hlen : xs.length = ws.length := by
      have h1 := congrArg List.length hS
      have h2 := congrArg List.length k3
      rw [List.length_map] at h1 h2
      rw [List.length_map] at h2
      omega
    subst hws
    rw [hlen] at k2
    obtain ⟨av, cv, rfl, _⟩ := owns_shape k2
    have HG : Hid (goodTo l n) := hgd
    have c3 := k1.cell (i := 0) rfl
    have c1 := hE.r1.cell (i := 0) rfl
    have f1 := hE.r1.free 0
    have c2 := hE.r2.cell (i := 0) rfl
    have f2 := hE.r2.free 0
    have n12 : w.heap.size + 1 ≠ w.heap.size + 1 + 1 := by omega
    have B1 : Hid (Blk ((W.setCell ⟨w.heap.size + 1, 0, none⟩ (.slice av (entsAll l n).length cv)).setCell ⟨w.heap.size + 1 + 1, 0, none⟩ (.bool true)) (w.heap.size + 1) 25 [.slice av (entsAll l n).length cv]) := (hE.r1.set (i := 0) _).other n12
    have B2 : Hid (Blk ((W.setCell ⟨w.heap.size + 1, 0, none⟩ (.slice av (entsAll l n).length cv)).setCell ⟨w.heap.size + 1 + 1, 0, none⟩ (.bool true)) (w.heap.size + 1 + 1) 4 [.bool true]) := (hE.r2.other (Ne.symm n12)).set (i := 0) _
    have R9 : Hid (((W.setCell ⟨w.heap.size + 1, 0, none⟩ (.slice av (entsAll l n).length cv)).setCell ⟨w.heap.size + 1 + 1, 0, none⟩ (.bool true)).ownsRow w.heap.size 55 7 (.slice av (entsAll l n).length cv) (entsAll l n).length (flatW (entsAll l n))) := by
      refine owns_stays k2 fun g hv => ?_
      obtain ⟨cur, hc⟩ := owns_type k2 hv
      have n1 : g ≠ w.heap.size + 1 := fun e => by rw [e] at hc; exact absurd (typ_ne hc hE.r1) (by decide)
      have n2 : g ≠ w.heap.size + 1 + 1 := fun e => by rw [e] at hc; exact absurd (typ_ne hc hE.r2) (by decide)
      rw [heap_setCell_other _ ⟨w.heap.size + 1 + 1, 0, none⟩ g _ n2, heap_setCell_other _ ⟨w.heap.size + 1, 0, none⟩ g _ n1]
    have Y9 : Hid (Below w.heap.size w ((W.setCell ⟨w.heap.size + 1, 0, none⟩ (.slice av (entsAll l n).length cv)).setCell ⟨w.heap.size + 1 + 1, 0, none⟩ (.bool true))) := (hE.y.setCell (p := ⟨w.heap.size + 1, 0, none⟩) (by show w.heap.size ≤ w.heap.size + 1; omega) _).setCell (p := ⟨w.heap.size + 1 + 1, 0, none⟩) (by show w.heap.size ≤ w.heap.size + 1 + 1; omega) _
    have hK' := ((KeepsOthers.setCell W ⟨w.heap.size + 1, 0, none⟩ (.slice av (entsAll l n).length cv)).trans (KeepsOthers.setCell _ ⟨w.heap.size + 1 + 1, 0, none⟩ (.bool true))).same D _ hK rfl
    have HK' : Hid _ := hK'
    have hDw : w.heap.size ≤ D := Nat.le_trans hB0.size hD
    clear hE k1 k2 k3 hgd hK hK' hS
    gi_wp2_with fail
    generalize (W.setCell ⟨w.heap.size + 1, 0, none⟩ (.slice av (entsAll l n).length cv)).setCell ⟨w.heap.size + 1 + 1, 0, none⟩ (.bool true) = W9 at *
    refine ⟨by simp, .inl ⟨_, _, rfl, run_takeDeferred HK'.out, ?_⟩⟩
    have hrr : ∀ r, some D = some r → ∃ o : Obj, W9.heap[r]? = some o ∧ o.isCells = false := fun r e => by cases e; exact ⟨_, HK'.out, rfl⟩
    have d1 := (blk_own B1.out (grownBy_putObj' _ D (.deferred none)) hrr).cell (i := 0) rfl
    have d2 := (blk_own B2.out (grownBy_putObj' _ D (.deferred none)) hrr).cell (i := 0) rfl
    refine ⟨.tuple #[.slice av (entsAll l n).length cv, .bool true], ?_, ?_, .inl ⟨_, rfl, HG.out, row_own R9.out (grownBy_putObj' _ D (.deferred none)) hrr⟩⟩
    · simp only [results, Try.results25]
      simp [go_sem, d1, d2]
    · exact Y9.out.grown (grownBy_putObj' W9 D (.deferred none)) Y9.out.size (fun k hk => by cases hk; exact hDw)
  case stop =>
    rintro D cd pre W hD hpre ⟨rfl, hin, b1, b2, hY⟩ hK
    have HG : Hid (¬ goodTo l n) := by
      obtain ⟨x, hx, hne⟩ := hin
      exact pairs_bad (hpre.subset (List.mem_map.2 ⟨x, hx, rfl⟩)) hne
    have hDw : w.heap.size ≤ D := Nat.le_trans hB0.size hD
    gi_wp2_with fail
    refine ⟨by simp, .inl ⟨_, _, rfl, run_takeDeferred hK, ?_⟩⟩
    have hrr : ∀ r, some D = some r → ∃ o : Obj, W.heap[r]? = some o ∧ o.isCells = false := fun r e => by cases e; exact ⟨_, hK, rfl⟩
    have d1 := (blk_own b1 (grownBy_putObj' _ D (.deferred none)) hrr).cell (i := 0) rfl
    have d2 := (blk_own b2 (grownBy_putObj' _ D (.deferred none)) hrr).cell (i := 0) rfl
    refine ⟨.tuple #[.slice none 0 0, .bool false], ?_, ?_, .inr ⟨rfl, HG.out⟩⟩
    · simp only [results, Try.results25]
      simp [go_sem, d1, d2]
    · exact hY.grown (grownBy_putObj' W D (.deferred none)) hY.size (fun k hk => by cases hk; exact hDw)
end Go.Proofs.Ytefciaeajlgheaa

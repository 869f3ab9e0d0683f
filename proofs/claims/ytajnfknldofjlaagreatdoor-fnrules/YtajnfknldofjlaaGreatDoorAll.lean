/- Searches with a function handed over, by type of element, whatever the function is. By mkall.py. -/
import Derived.Test.YtajnfknldofjlaaGreatDoorTreeSz
import Derived.Deep.Cut
import Derived.Deep.CutRange
namespace Go.Proofs.YtajnfknldofjlaaGreatDoor
open Go.RowKit
set_option linter.unusedVariables false
set_option linter.unusedSimpArgs false
set_option maxRecDepth 100000

theorem RdVals.len {w : World} : ∀ {r : List Fl} {vs : List Value}, RdVals w r vs → vs.length = r.length := by
  intro r
  induction r with
  | nil => intro vs h; rw [show vs = [] from h]; rfl
  | cons f r ih => intro vs h; obtain ⟨v, us, rfl, _, h2⟩ := h; simp [ih h2]

theorem grown_refl (w : World) (row : Option Nat) : w.grownBy w row := ⟨rfl, rfl, rfl, Nat.le_refl _, fun _ _ _ => rfl⟩
theorem grown_trans {a b c : World} {row : Option Nat} (h : a.grownBy b row) (k : b.grownBy c row) : a.grownBy c row :=
  ⟨k.os.trans h.os, k.tape.trans h.tape, k.output.trans h.output, Nat.le_trans h.size k.size, fun i hi hr => (k.block i (Nat.lt_of_lt_of_le hi h.size) hr).trans (h.block i hi hr)⟩
theorem below_grown {a b : World} (h : a.grownBy b none) : Below a.heap.size a b := ⟨h.os, h.tape, h.output, h.size, fun k hk => h.block k hk (by simp)⟩
theorem grown_below {a b : World} (h : Below a.heap.size a b) (row : Option Nat) : a.grownBy b row := ⟨h.os, h.tape, h.output, h.size, fun k hk _ => h.block k hk⟩
theorem grown_alloc (w : World) (x : Obj) (row : Option Nat) : w.grownBy (w.alloc x) row := grown_below ((Below.refl _ _).alloc (Nat.le_refl _) x) row
theorem grown_any {a b : World} (h : a.grownBy b none) (row : Option Nat) : a.grownBy b row := ⟨h.os, h.tape, h.output, h.size, fun k hk _ => h.block k hk (by simp)⟩

/-- The function is one with a body. -/
def Ent (C : Nat) : Prop := ∀ args w, Sem.run Tryz.prog (callFunc C args) w = .ok (.enter C args) w

/-- These values lie there. -/
def CellsAt (w : World) (a : Option Addr) (o : Nat) (vs : List Value) : Prop := ∃ b off, a = some ⟨b, off, none⟩ ∧ ∀ i v, vs[i]? = some v → w.cell? ⟨b, off + o + i, none⟩ = some v

theorem CellsAt.below {w w' : World} {a : Option Addr} {o : Nat} {vs : List Value} (h : CellsAt w a o vs) (hb : Below w.heap.size w w') : CellsAt w' a o vs := by
  obtain ⟨b, off, e, hc⟩ := h
  exact ⟨b, off, e, fun i v hv => cell_on (hc i v hv) hb⟩

/-- What lies there now and lay there ahead is the same. -/
theorem vals_back {w0 wr : World} {a : Option Addr} {c K j : Nat} {rs : List (List Fl)} {r : List Fl} {vs : List Value} (hr : LRow w0 a c K rs) (hb : Below w0.heap.size w0 wr) (hj : rs[j]? = some r) (hlen : vs.length = r.length) (hc : CellsAt wr a (j * K) vs) : RdVals w0 r vs := by
  obtain ⟨b, off, rfl, hc⟩ := hc
  obtain ⟨vs0, h0, hc0⟩ := (hr.el hj).vals
  have hl0 : vs0.length = r.length := h0.len
  have : vs = vs0 := by
    apply List.ext_getElem?
    intro i
    by_cases hi : i < r.length
    · have h1 := hc0 i _ (List.getElem?_eq_getElem (by omega : i < vs0.length))
      have h2 := hc i _ (List.getElem?_eq_getElem (by omega : i < vs.length))
      have h3 := cell_on h1 hb
      rw [h2] at h3
      rw [List.getElem?_eq_getElem (by omega : i < vs.length), List.getElem?_eq_getElem (by omega : i < vs0.length)]
      exact h3
    · rw [List.getElem?_eq_none (by omega), List.getElem?_eq_none (by omega)]
  rw [this]; exact h0

/-- The function G, with caps behind its argument, says P of each record, one behind the other; as long as it does not say s, Inv goes on; where it says s, Q. -/
structure Asks (s : Bool) (G : Nat) (caps : Array Value) (row : Option Nat) (mkv : List Value → Value) (a : Option Addr) (c K : Nat) (rs : List (List Fl)) (P : Nat → Bool) (Inv Q : Nat → World → Prop) : Prop where
  ent : Ent G
  rows : ∀ j wr, Inv j wr → LRow wr a c K rs
  each : ∀ r ∈ rs, r.length = K
  go : ∀ j r wr vs, rs[j]? = some r → Inv j wr → RdVals wr r vs → CellsAt wr a (j * K) vs → Calls Tryz.prog G (#[mkv vs] ++ caps) wr fun e w' => e = .returned (.bool (P j)) ∧ wr.grownBy w' row ∧ (P j = (!s) → Inv (j + 1) w') ∧ (P j = s → Q j w')

/-- What is told by a search: where something was found, the first of it. -/
structure Told (s : Bool) (n : Nat) (P : Nat → Bool) (Inv Q : Nat → World → Prop) (b : Bool) (w : World) : Prop where
  yes : b = true → ∃ j, j < n ∧ P j = s ∧ (∀ i, i < j → P i = (!s)) ∧ Q j w
  no : b = false → (∀ i, i < n → P i = (!s)) ∧ Inv n w

def one (vs : List Value) : Value := vs[0]?.getD undef
def agg (vs : List Value) : Value := .agg vs.toArray

theorem ent_of {f : FuncId} {fn : Func} {c : Code} (hf : Tryz.prog.funcs[f]? = some fn) (hname : (fn.name == "runtime.NumGoroutine") = false) (hb : fn.body = some c) : Ent f := by
  intro args w
  have h1 : fn.name ≠ "runtime.NumGoroutine" := by simpa using hname
  simp [callFunc, go_sem, hf, h1, hb]

theorem told_any {n : Nat} {P : Nat → Bool} {Inv Q : Nat → World → Prop} {b : Bool} {w : World} (h : Told true n P Inv Q b w) : b = (List.range n).any P := by
  cases b with
  | true =>
    obtain ⟨j, hj, hp, _⟩ := h.yes rfl
    symm; rw [List.any_eq_true]
    exact ⟨j, by simpa using hj, hp⟩
  | false =>
    have := (h.no rfl).1
    symm; rw [List.any_eq_false]
    intro x hx
    simpa using this x (by simpa using hx)
theorem told_all {n : Nat} {P : Nat → Bool} {Inv Q : Nat → World → Prop} {b : Bool} {w : World} (h : Told false n P Inv Q (!b) w) : b = (List.range n).all P := by
  cases b with
  | true =>
    have := (h.no rfl).1
    symm; rw [List.all_eq_true]
    intro x hx
    simpa using this x (by simpa using hx)
  | false =>
    obtain ⟨j, hj, hp, _⟩ := h.yes rfl
    symm; rw [List.all_eq_false]
    exact ⟨j, by simpa using hj, by simp [hp]⟩
theorem range_any {α : Type} (l : List α) (d : α) (p : α → Bool) : ((List.range l.length).any fun j => p (l[j]?.getD d)) = l.any p := by
  rw [Bool.eq_iff_iff, List.any_eq_true, List.any_eq_true]
  constructor
  · rintro ⟨j, hj, hp⟩
    have hj : j < l.length := by simpa using hj
    rw [List.getElem?_eq_getElem hj] at hp
    exact ⟨l[j], List.getElem_mem hj, hp⟩
  · rintro ⟨x, hx, hp⟩
    obtain ⟨j, hj, rfl⟩ := List.mem_iff_getElem.1 hx
    exact ⟨j, by simpa using hj, by rw [List.getElem?_eq_getElem hj]; exact hp⟩
theorem range_all {α : Type} (l : List α) (d : α) (p : α → Bool) : ((List.range l.length).all fun j => p (l[j]?.getD d)) = l.all p := by
  rw [Bool.eq_iff_iff, List.all_eq_true, List.all_eq_true]
  constructor
  · intro h x hx
    obtain ⟨j, hj, rfl⟩ := List.mem_iff_getElem.1 hx
    have := h j (by simpa using hj)
    rwa [List.getElem?_eq_getElem hj] at this
  · intro h j hj
    have hj : j < l.length := by simpa using hj
    rw [List.getElem?_eq_getElem hj]
    exact h _ (List.getElem_mem hj)


theorem aln1 {α : Type} {l : List α} (h : l.length = 1) : ∃ v0, l = [v0] := by
  match l, h with
  | [v0], _ => exact ⟨v0, rfl⟩
theorem aln2 {α : Type} {l : List α} (h : l.length = 2) : ∃ v0 v1, l = [v0, v1] := by
  match l, h with
  | [v0, v1], _ => exact ⟨v0, v1, rfl⟩
theorem aln3 {α : Type} {l : List α} (h : l.length = 3) : ∃ v0 v1 v2, l = [v0, v1, v2] := by
  match l, h with
  | [v0, v1, v2], _ => exact ⟨v0, v1, v2, rfl⟩
theorem aln5 {α : Type} {l : List α} (h : l.length = 5) : ∃ v0 v1 v2 v3 v4, l = [v0, v1, v2, v3, v4] := by
  match l, h with
  | [v0, v1, v2, v3, v4], _ => exact ⟨v0, v1, v2, v3, v4, rfl⟩
theorem aln6 {α : Type} {l : List α} (h : l.length = 6) : ∃ v0 v1 v2 v3 v4 v5, l = [v0, v1, v2, v3, v4, v5] := by
  match l, h with
  | [v0, v1, v2, v3, v4, v5], _ => exact ⟨v0, v1, v2, v3, v4, v5, rfl⟩

/-- slices.IndexFunc: its function, how many cells a record has, and what value they make. -/
def IxAt (F K : Nat) (mkv : List Value → Value) : Prop := ∀ (C : Nat) (caps : Array Value) (row : Option Nat) (a : Option Addr) (n c : Nat) (rs : List (List Fl)) (P : Nat → Bool) (Inv Q : Nat → World → Prop) (w : World), Asks true C caps row mkv a c K rs P Inv Q → rs.length = n → Inv 0 w →
  Calls Tryz.prog F #[.slice a n c, .func (.func C) #[] caps] w fun e w' => ∃ r : Int, e = .returned (.int .i64 r) ∧ w.grownBy w' row ∧ Told true n P Inv Q (decide (0 ≤ r)) w'
def CxAt (F K : Nat) (mkv : List Value → Value) : Prop := ∀ (C : Nat) (caps : Array Value) (row : Option Nat) (a : Option Addr) (n c : Nat) (rs : List (List Fl)) (P : Nat → Bool) (Inv Q : Nat → World → Prop) (w : World), Asks true C caps row mkv a c K rs P Inv Q → rs.length = n → Inv 0 w →
  Calls Tryz.prog F #[.slice a n c, .func (.func C) #[] caps] w fun e w' => ∃ r : Bool, e = .returned (.bool r) ∧ w.grownBy w' row ∧ Told true n P Inv Q r w'

set_option maxHeartbeats 40000000 in
theorem ixAll : ∀ p ∈ ([
    (154, 1, one),
    (109, 1, one),
    (134, 2, agg),
    (104, 2, agg),
    (130, 2, agg),
    (95, 2, agg),
    (105, 5, agg),
    (198, 5, agg),
    (180, 6, agg),
    ] : List (Nat × Nat × (List Value → Value))), IxAt p.1 p.2.1 p.2.2 := by
  simp only [List.forall_mem_cons]
  repeat' apply And.intro
  all_goals first | (intro _ h; cases h; done) | skip
  all_goals
    intro C caps row a n c rs P Inv Q w H hn h0
    have Hd : Hid (rs.length = n) := hn
    have HA : Hid _ := H
    have hC : Ent C := H.ent
    have hl0 := H.rows 0 w h0
    have hcn : n ≤ 9223372036854775807 := by have h1 := hl0.cap; have h2 := hl0.most; unfold maxLen at h2; omega
    have H0 : Hid (Inv 0 w) := h0
    clear H h0
    rcases Nat.eq_zero_or_pos n with h0 | hpos
    · subst h0
      clear hl0 hn
      first
      | go_enter Tryz.func154, Tryz.ntmps154
      | go_enter Tryz.func109, Tryz.ntmps109
      | go_enter Tryz.func134, Tryz.ntmps134
      | go_enter Tryz.func104, Tryz.ntmps104
      | go_enter Tryz.func130, Tryz.ntmps130
      | go_enter Tryz.func95, Tryz.ntmps95
      | go_enter Tryz.func105, Tryz.ntmps105
      | go_enter Tryz.func198, Tryz.ntmps198
      | go_enter Tryz.func180, Tryz.ntmps180
      go_wp2_with fail
      refine wp_loop_rounds 1 ?_
      rw [rounds_succ]
      go_wp2_with fail
      go_ret
      exact ⟨_, rfl, grown_refl _ _, ⟨by simp, fun _ => ⟨by simp, H0.out⟩⟩⟩
    · obtain ⟨b, off, rfl⟩ := hl0.addr (by rw [hn]; exact hpos)
      clear hl0 hn
      first
      | go_enter Tryz.func154, Tryz.ntmps154
      | go_enter Tryz.func109, Tryz.ntmps109
      | go_enter Tryz.func134, Tryz.ntmps134
      | go_enter Tryz.func104, Tryz.ntmps104
      | go_enter Tryz.func130, Tryz.ntmps130
      | go_enter Tryz.func95, Tryz.ntmps95
      | go_enter Tryz.func105, Tryz.ntmps105
      | go_enter Tryz.func198, Tryz.ntmps198
      | go_enter Tryz.func180, Tryz.ntmps180
      go_wp2_with fail
      go_loopw [5, 8] (fun _ i wr => ∃ j : Nat, j ≤ n ∧ i = .int .i64 j ∧ Hid (∀ i, i < j → P i = false) ∧ Hid (w.grownBy wr row) ∧ Hid (Inv j wr)) (fun _ i _ => n - (intOf i).toNat)
      case atStart => exact ⟨0, Nat.zero_le _, rfl, by show ∀ _, _; omega, grown_refl _ _, H0⟩
      case round =>
        obtain ⟨j, hj, rfl, hno, hgr, hinv⟩ := hrel
        by_cases hlt : j < n
        · obtain ⟨r, hr⟩ : ∃ r, rs[j]? = some r := ⟨rs[j]'(by rw [Hd.out]; exact hlt), List.getElem?_eq_getElem _⟩
          obtain ⟨vs, hvs, hcl⟩ := ((Asks.rows HA.out j wr hinv.out).el hr).vals
          have HC := Asks.go HA.out j r wr vs hr hinv.out hvs ⟨b, off, rfl, hcl⟩
          have hlen : vs.length = _ := (hvs.len).trans (Asks.each HA.out r (List.mem_of_getElem? hr))
          first
          | (obtain ⟨v0, rfl⟩ := aln1 hlen; have q0 : wr.cell? ⟨b, off + j, none⟩ = some v0 := (by have := hcl 0 _ rfl; simpa using this))
          | (obtain ⟨v0, v1, rfl⟩ := aln2 hlen; have q0 : wr.cell? ⟨b, off + j * 2, none⟩ = some v0 := hcl 0 _ rfl; have q1 : wr.cell? ⟨b, off + j * 2 + 1, none⟩ = some v1 := hcl 1 _ rfl)
          | (obtain ⟨v0, v1, v2, rfl⟩ := aln3 hlen; have q0 : wr.cell? ⟨b, off + j * 3, none⟩ = some v0 := hcl 0 _ rfl; have q1 : wr.cell? ⟨b, off + j * 3 + 1, none⟩ = some v1 := hcl 1 _ rfl; have q2 : wr.cell? ⟨b, off + j * 3 + 2, none⟩ = some v2 := hcl 2 _ rfl)
          | (obtain ⟨v0, v1, v2, v3, v4, rfl⟩ := aln5 hlen; have q0 : wr.cell? ⟨b, off + j * 5, none⟩ = some v0 := hcl 0 _ rfl; have q1 : wr.cell? ⟨b, off + j * 5 + 1, none⟩ = some v1 := hcl 1 _ rfl; have q2 : wr.cell? ⟨b, off + j * 5 + 2, none⟩ = some v2 := hcl 2 _ rfl; have q3 : wr.cell? ⟨b, off + j * 5 + 3, none⟩ = some v3 := hcl 3 _ rfl; have q4 : wr.cell? ⟨b, off + j * 5 + 4, none⟩ = some v4 := hcl 4 _ rfl)
          | (obtain ⟨v0, v1, v2, v3, v4, v5, rfl⟩ := aln6 hlen; have q0 : wr.cell? ⟨b, off + j * 6, none⟩ = some v0 := hcl 0 _ rfl; have q1 : wr.cell? ⟨b, off + j * 6 + 1, none⟩ = some v1 := hcl 1 _ rfl; have q2 : wr.cell? ⟨b, off + j * 6 + 2, none⟩ = some v2 := hcl 2 _ rfl; have q3 : wr.cell? ⟨b, off + j * 6 + 3, none⟩ = some v3 := hcl 3 _ rfl; have q4 : wr.cell? ⟨b, off + j * 6 + 4, none⟩ = some v4 := hcl 4 _ rfl; have q5 : wr.cell? ⟨b, off + j * 6 + 5, none⟩ = some v5 := hcl 5 _ rfl)
          clear hvs hr
          clear hcl
          simp only [agg, one, List.getElem?_cons_zero, Option.getD_some] at HC
          go_wp2_with fail
          rw [hC, Oper.upon_enter]
          refine HC.mono ?_
          rintro e w2 ⟨rfl, hg2, hn2, hy2⟩
          have hgw : Hid (w.grownBy w2 row) := grown_trans hgr.out hg2
          have HN : Hid (P j = false → Inv (j + 1) w2) := hn2
          have HY : Hid (P j = true → Q j w2) := hy2
          first | clear q0 q1 q2 q3 q4 q5 | clear q0 q1 q2 q3 q4 | clear q0 q1 q2 | clear q0 q1 | clear q0
          clear hg2 HC hn2 hy2
          by_cases he : P j = true
          · rw [he]
            have HS : Hid (P j = true) := he
            clear he
            go_wp2_with fail
            go_ret
            exact ⟨_, rfl, hgw.out, ⟨fun _ => ⟨j, hlt, HS.out, hno.out, HY.out HS.out⟩, by simp⟩⟩
          · have he := Bool.not_eq_true _ ▸ he
            rw [he]
            have HS : Hid (P j = false) := he
            clear he
            go_wp2_with fail
            go_roundw
            case rel => exact ⟨j + 1, by omega, by go_num, (show ∀ i, i < j + 1 → P i = false from fun i hi => (Nat.lt_or_ge i j).elim (fun h => hno.out i h) (fun h => (show j = i by omega) ▸ HS.out)), hgw, HN.out HS.out⟩
            case measure => simp [intOf]; omega
        · have : j = n := by omega
          subst this
          go_wp2_with fail
          go_ret
          exact ⟨_, rfl, hgr.out, ⟨by simp, fun _ => ⟨hno.out, hinv.out⟩⟩⟩

set_option maxHeartbeats 8000000 in
theorem cxAll : ∀ p ∈ ([
    (131, 1, one),
    (73, 1, one),
    (106, 2, agg),
    (63, 2, agg),
    (99, 2, agg),
    (56, 2, agg),
    (65, 5, agg),
    (181, 5, agg),
    (156, 6, agg),
    ] : List (Nat × Nat × (List Value → Value))), CxAt p.1 p.2.1 p.2.2 := by
  simp only [List.forall_mem_cons]
  repeat' apply And.intro
  all_goals first | (intro _ h; cases h; done) | skip
  all_goals
    intro C caps row a n c rs P Inv Q w H hn h0
    first
    | (go_enter Tryz.func131, Tryz.ntmps131; have HI := ixAll (154, 1, one) (by simp) C caps row a n c rs P Inv Q w H hn h0)
    | (go_enter Tryz.func73, Tryz.ntmps73; have HI := ixAll (109, 1, one) (by simp) C caps row a n c rs P Inv Q w H hn h0)
    | (go_enter Tryz.func106, Tryz.ntmps106; have HI := ixAll (134, 2, agg) (by simp) C caps row a n c rs P Inv Q w H hn h0)
    | (go_enter Tryz.func63, Tryz.ntmps63; have HI := ixAll (104, 2, agg) (by simp) C caps row a n c rs P Inv Q w H hn h0)
    | (go_enter Tryz.func99, Tryz.ntmps99; have HI := ixAll (130, 2, agg) (by simp) C caps row a n c rs P Inv Q w H hn h0)
    | (go_enter Tryz.func56, Tryz.ntmps56; have HI := ixAll (95, 2, agg) (by simp) C caps row a n c rs P Inv Q w H hn h0)
    | (go_enter Tryz.func65, Tryz.ntmps65; have HI := ixAll (105, 5, agg) (by simp) C caps row a n c rs P Inv Q w H hn h0)
    | (go_enter Tryz.func181, Tryz.ntmps181; have HI := ixAll (198, 5, agg) (by simp) C caps row a n c rs P Inv Q w H hn h0)
    | (go_enter Tryz.func156, Tryz.ntmps156; have HI := ixAll (180, 6, agg) (by simp) C caps row a n c rs P Inv Q w H hn h0)
    clear H h0 hn
    go_wp2_with fail
    refine HI.mono ?_
    rintro e w2 ⟨r, rfl, hr, hb⟩
    go_wp2_with fail
    go_ret
    exact ⟨_, rfl, hr, hb⟩

theorem indexInt : IxAt 154 1 one := ixAll (154, 1, one) (by simp)

theorem containsInt : CxAt 131 1 one := cxAll (131, 1, one) (by simp)

theorem indexTxt : IxAt 109 1 one := ixAll (109, 1, one) (by simp)

theorem containsTxt : CxAt 73 1 one := cxAll (73, 1, one) (by simp)

theorem indexParam : IxAt 134 2 agg := ixAll (134, 2, agg) (by simp)

theorem containsParam : CxAt 106 2 agg := cxAll (106, 2, agg) (by simp)

theorem indexVar : IxAt 104 2 agg := ixAll (104, 2, agg) (by simp)

theorem containsVar : CxAt 63 2 agg := cxAll (63, 2, agg) (by simp)

theorem indexFaceProc : IxAt 130 2 agg := ixAll (130, 2, agg) (by simp)

theorem containsFaceProc : CxAt 99 2 agg := cxAll (99, 2, agg) (by simp)

theorem indexFace : IxAt 95 2 agg := ixAll (95, 2, agg) (by simp)

theorem containsFace : CxAt 56 2 agg := cxAll (56, 2, agg) (by simp)

theorem indexProc : IxAt 105 5 agg := ixAll (105, 5, agg) (by simp)

theorem containsProc : CxAt 65 5 agg := cxAll (65, 5, agg) (by simp)

theorem indexExpr : IxAt 198 5 agg := ixAll (198, 5, agg) (by simp)

theorem containsExpr : CxAt 181 5 agg := cxAll (181, 5, agg) (by simp)

theorem indexStmt : IxAt 180 6 agg := ixAll (180, 6, agg) (by simp)

theorem containsStmt : CxAt 156 6 agg := cxAll (156, 6, agg) (by simp)

/-- What impl.allOk hands on, at a type. -/
def OneAt (A K : Nat) (mkv : List Value → Value) (X : TypeId) : Prop := ∀ (T : TypeId), T = X → ∀ (G : Nat) (caps : Array Value) (vs : List Value) (g : Nat) (P : Bool) (R : World → Prop) (w : World), vs.length = K → w.cell? ⟨g, 0, none⟩ = some (.func (.func G) #[] caps) → Ent G →
  (∀ w1, w.grownBy w1 none → Calls Tryz.prog G (#[mkv vs] ++ caps) w1 fun e w' => e = .returned (.bool P) ∧ R w') → Calls Tryz.prog A #[mkv vs, .pointer (some ⟨g, 0, none⟩)] w fun e w' => e = .returned (.bool (!P)) ∧ R w'
def AlB (F B K : Nat) (mkv : List Value → Value) : Prop := ∀ (G : Nat) (caps : Array Value) (row : Option Nat) (a : Option Addr) (n c : Nat) (rs : List (List Fl)) (P : Nat → Bool) (Inv Q : Nat → World → Prop) (w : World),
  Asks false G caps row mkv a c K rs P Inv Q → rs.length = n → Inv 0 w → (∀ j w w', Inv j w → w.grownBy w' none → Inv j w') → (∀ k, row = some k → k < w.heap.size) → Ent B →
  Calls Tryz.prog F #[.slice a n c, .func (.func G) #[] caps] w fun e w' => ∃ r : Bool, e = .returned (.bool r) ∧ w.grownBy w' row ∧ Told false n P Inv Q (!r) w'
def AlAt (F A K C : Nat) (mkv : List Value → Value) (X FT : TypeId) : Prop := CxAt C K mkv → OneAt A K mkv X → ∀ (T : TypeId) (B : Nat), T = FT → B = A → AlB F B K mkv

set_option maxHeartbeats 8000000 in
theorem oneAll : ∀ p ∈ ([
    (107, 2, 98),
    (64, 2, 59),
    (100, 2, 90),
    (57, 2, 72),
    (66, 5, 64),
    (182, 5, 122),
    (157, 6, 133),
    ] : List (Nat × Nat × TypeId)), OneAt p.1 p.2.1 agg p.2.2 := by
  simp only [List.forall_mem_cons]
  repeat' apply And.intro
  all_goals first | (intro _ h; cases h; done) | skip
  all_goals
    intro T hT G caps vs g P R w hl hg hG H
    first
    | (obtain ⟨v0, v1, rfl⟩ := aln2 hl; have H1 := H _ (grown_alloc w (.cells #[v0, v1] T (0, 0)) none); have g1 := cell_on hg (show Below w.heap.size w (w.alloc (.cells #[v0, v1] T (0, 0))) from (Below.refl _ _).alloc (Nat.le_refl _) _); have q0 : (w.alloc (.cells #[v0, v1] T (0, 0))).cell? ⟨w.heap.size, 0, none⟩ = some v0 := cell_new w T #[v0, v1] 0 _ rfl; have q1 : (w.alloc (.cells #[v0, v1] T (0, 0))).cell? ⟨w.heap.size, 1, none⟩ = some v1 := cell_new w T #[v0, v1] 1 _ rfl; obtain ⟨w1, hw1⟩ : ∃ w1, w.alloc (.cells #[v0, v1] T (0, 0)) = w1 := ⟨_, rfl⟩; rw [hw1] at H1 g1 q0 q1)
    | (obtain ⟨v0, v1, v2, rfl⟩ := aln3 hl; have H1 := H _ (grown_alloc w (.cells #[v0, v1, v2] T (0, 0)) none); have g1 := cell_on hg (show Below w.heap.size w (w.alloc (.cells #[v0, v1, v2] T (0, 0))) from (Below.refl _ _).alloc (Nat.le_refl _) _); have q0 : (w.alloc (.cells #[v0, v1, v2] T (0, 0))).cell? ⟨w.heap.size, 0, none⟩ = some v0 := cell_new w T #[v0, v1, v2] 0 _ rfl; have q1 : (w.alloc (.cells #[v0, v1, v2] T (0, 0))).cell? ⟨w.heap.size, 1, none⟩ = some v1 := cell_new w T #[v0, v1, v2] 1 _ rfl; have q2 : (w.alloc (.cells #[v0, v1, v2] T (0, 0))).cell? ⟨w.heap.size, 2, none⟩ = some v2 := cell_new w T #[v0, v1, v2] 2 _ rfl; obtain ⟨w1, hw1⟩ : ∃ w1, w.alloc (.cells #[v0, v1, v2] T (0, 0)) = w1 := ⟨_, rfl⟩; rw [hw1] at H1 g1 q0 q1 q2)
    | (obtain ⟨v0, v1, v2, v3, v4, rfl⟩ := aln5 hl; have H1 := H _ (grown_alloc w (.cells #[v0, v1, v2, v3, v4] T (0, 0)) none); have g1 := cell_on hg (show Below w.heap.size w (w.alloc (.cells #[v0, v1, v2, v3, v4] T (0, 0))) from (Below.refl _ _).alloc (Nat.le_refl _) _); have q0 : (w.alloc (.cells #[v0, v1, v2, v3, v4] T (0, 0))).cell? ⟨w.heap.size, 0, none⟩ = some v0 := cell_new w T #[v0, v1, v2, v3, v4] 0 _ rfl; have q1 : (w.alloc (.cells #[v0, v1, v2, v3, v4] T (0, 0))).cell? ⟨w.heap.size, 1, none⟩ = some v1 := cell_new w T #[v0, v1, v2, v3, v4] 1 _ rfl; have q2 : (w.alloc (.cells #[v0, v1, v2, v3, v4] T (0, 0))).cell? ⟨w.heap.size, 2, none⟩ = some v2 := cell_new w T #[v0, v1, v2, v3, v4] 2 _ rfl; have q3 : (w.alloc (.cells #[v0, v1, v2, v3, v4] T (0, 0))).cell? ⟨w.heap.size, 3, none⟩ = some v3 := cell_new w T #[v0, v1, v2, v3, v4] 3 _ rfl; have q4 : (w.alloc (.cells #[v0, v1, v2, v3, v4] T (0, 0))).cell? ⟨w.heap.size, 4, none⟩ = some v4 := cell_new w T #[v0, v1, v2, v3, v4] 4 _ rfl; obtain ⟨w1, hw1⟩ : ∃ w1, w.alloc (.cells #[v0, v1, v2, v3, v4] T (0, 0)) = w1 := ⟨_, rfl⟩; rw [hw1] at H1 g1 q0 q1 q2 q3 q4)
    | (obtain ⟨v0, v1, v2, v3, v4, v5, rfl⟩ := aln6 hl; have H1 := H _ (grown_alloc w (.cells #[v0, v1, v2, v3, v4, v5] T (0, 0)) none); have g1 := cell_on hg (show Below w.heap.size w (w.alloc (.cells #[v0, v1, v2, v3, v4, v5] T (0, 0))) from (Below.refl _ _).alloc (Nat.le_refl _) _); have q0 : (w.alloc (.cells #[v0, v1, v2, v3, v4, v5] T (0, 0))).cell? ⟨w.heap.size, 0, none⟩ = some v0 := cell_new w T #[v0, v1, v2, v3, v4, v5] 0 _ rfl; have q1 : (w.alloc (.cells #[v0, v1, v2, v3, v4, v5] T (0, 0))).cell? ⟨w.heap.size, 1, none⟩ = some v1 := cell_new w T #[v0, v1, v2, v3, v4, v5] 1 _ rfl; have q2 : (w.alloc (.cells #[v0, v1, v2, v3, v4, v5] T (0, 0))).cell? ⟨w.heap.size, 2, none⟩ = some v2 := cell_new w T #[v0, v1, v2, v3, v4, v5] 2 _ rfl; have q3 : (w.alloc (.cells #[v0, v1, v2, v3, v4, v5] T (0, 0))).cell? ⟨w.heap.size, 3, none⟩ = some v3 := cell_new w T #[v0, v1, v2, v3, v4, v5] 3 _ rfl; have q4 : (w.alloc (.cells #[v0, v1, v2, v3, v4, v5] T (0, 0))).cell? ⟨w.heap.size, 4, none⟩ = some v4 := cell_new w T #[v0, v1, v2, v3, v4, v5] 4 _ rfl; have q5 : (w.alloc (.cells #[v0, v1, v2, v3, v4, v5] T (0, 0))).cell? ⟨w.heap.size, 5, none⟩ = some v5 := cell_new w T #[v0, v1, v2, v3, v4, v5] 5 _ rfl; obtain ⟨w1, hw1⟩ : ∃ w1, w.alloc (.cells #[v0, v1, v2, v3, v4, v5] T (0, 0)) = w1 := ⟨_, rfl⟩; rw [hw1] at H1 g1 q0 q1 q2 q3 q4 q5)
    subst hT
    clear H hg hl
    simp only [agg] at H1 ⊢
    first
    | go_enter Tryz.func107, Tryz.ntmps107
    | go_enter Tryz.func64, Tryz.ntmps64
    | go_enter Tryz.func100, Tryz.ntmps100
    | go_enter Tryz.func57, Tryz.ntmps57
    | go_enter Tryz.func66, Tryz.ntmps66
    | go_enter Tryz.func182, Tryz.ntmps182
    | go_enter Tryz.func157, Tryz.ntmps157
    go_upto_region 1 with fail
    try rw [hw1]
    clear hw1
    go_wp2_with fail
    rw [hG, Oper.upon_enter]
    refine H1.mono ?_
    rintro e w2 ⟨rfl, hR⟩
    first | clear g1 q0 q1 q2 q3 q4 q5 | clear g1 q0 q1 q2 q3 q4 | clear g1 q0 q1 q2 | clear g1 q0 q1
    go_wp2_with fail
    go_ret
    exact ⟨rfl, hR⟩

set_option maxHeartbeats 8000000 in
theorem oneAllP : ∀ p ∈ ([
    (132, 3),
    (108, 22),
    ] : List (Nat × TypeId)), OneAt p.1 1 one p.2 := by
  simp only [List.forall_mem_cons]
  repeat' apply And.intro
  all_goals first | (intro _ h; cases h; done) | skip
  all_goals
    intro T hT G caps vs g P R w hl hg hG H
    obtain ⟨v0, rfl⟩ := aln1 hl
    have H1 := H w (grown_refl w none)
    clear H hl hT
    simp only [one, List.getElem?_cons_zero, Option.getD_some] at H1 ⊢
    first
    | go_enter Tryz.func132, Tryz.ntmps132
    | go_enter Tryz.func108, Tryz.ntmps108
    go_wp2_with fail
    rw [hG, Oper.upon_enter]
    refine H1.mono ?_
    rintro e w2 ⟨rfl, hR⟩
    clear hg
    go_wp2_with fail
    go_ret
    exact ⟨rfl, hR⟩

set_option maxHeartbeats 8000000 in
theorem alAll : ∀ p ∈ ([
    (101, 132, 1, 131, one, 3, 141),
    (71, 108, 1, 73, one, 22, 24),
    (68, 107, 2, 106, agg, 98, 112),
    (29, 64, 2, 63, agg, 59, 82),
    (59, 100, 2, 99, agg, 90, 106),
    (25, 57, 2, 56, agg, 72, 73),
    (33, 66, 5, 65, agg, 64, 84),
    (158, 182, 5, 181, agg, 122, 186),
    (135, 157, 6, 156, agg, 133, 171),
    ] : List (Nat × Nat × Nat × Nat × (List Value → Value) × TypeId × TypeId)), AlAt p.1 p.2.1 p.2.2.1 p.2.2.2.1 p.2.2.2.2.1 p.2.2.2.2.2.1 p.2.2.2.2.2.2 := by
  simp only [List.forall_mem_cons]
  repeat' apply And.intro
  all_goals first | (intro _ h; cases h; done) | skip
  all_goals
    intro hcx hone T B hT hB G caps row a n c rs P Inv Q w H hn h0 hgrow hrow hE
    have x0 := cell_new w T #[.func (.func G) #[] caps] 0 _ rfl
    have hk : some w.heap.size ≠ row := fun h => Nat.lt_irrefl _ (hrow _ h.symm)
    have HC := hcx B #[.pointer (some ⟨w.heap.size, 0, none⟩)] row a n c rs (fun j => !P j) (fun j wr => Inv j wr ∧ wr.cell? ⟨w.heap.size, 0, none⟩ = some (.func (.func G) #[] caps)) Q (w.alloc (.cells #[.func (.func G) #[] caps] T (0, 0))) (by
      refine ⟨hE, fun j wr h => H.rows j wr h.1, H.each, ?_⟩
      intro j r wr vs hr hi hvs hca
      have hlen := (hvs.len).trans (H.each r (List.mem_of_getElem? hr))
      subst hB
      have h1 := hone _ rfl G caps vs w.heap.size (P j) (fun w' => wr.grownBy w' row ∧ (P j = true → Inv (j + 1) w' ∧ w'.cell? ⟨w.heap.size, 0, none⟩ = some (.func (.func G) #[] caps)) ∧ (P j = false → Q j w')) wr hlen hi.2 H.ent ?_
      · refine h1.mono ?_
        rintro e w' ⟨rfl, h2, h3, h4⟩
        refine ⟨rfl, h2, fun h => h3 (by simpa using h), fun h => h4 (by simpa using h)⟩
      · intro w1 hw1
        refine (H.go j r w1 vs hr (hgrow _ _ _ hi.1 hw1) (hvs.below (below_grown hw1)) (hca.below (below_grown hw1))).mono ?_
        rintro e w' ⟨rfl, h2, h3, h4⟩
        have h5 : wr.grownBy w' row := grown_trans (grown_any hw1 row) h2
        refine ⟨rfl, h5, fun h => ⟨h3 h, ?_⟩, h4⟩
        have hlt := World.block_lt_of_cell? wr _ hi.2
        rw [World.cell?_of_block (a := ⟨w.heap.size, 0, none⟩) (h5.block _ hlt hk)]
        exact hi.2) hn ⟨hgrow _ _ _ h0 (grown_alloc w _ none), x0⟩
    clear H hrow hgrow hn h0 hcx hone
    subst hT hB
    first
    | go_enter Tryz.func101, Tryz.ntmps101
    | go_enter Tryz.func71, Tryz.ntmps71
    | go_enter Tryz.func68, Tryz.ntmps68
    | go_enter Tryz.func29, Tryz.ntmps29
    | go_enter Tryz.func59, Tryz.ntmps59
    | go_enter Tryz.func25, Tryz.ntmps25
    | go_enter Tryz.func33, Tryz.ntmps33
    | go_enter Tryz.func158, Tryz.ntmps158
    | go_enter Tryz.func135, Tryz.ntmps135
    go_wp2_with fail
    refine HC.mono ?_
    rintro e w2 ⟨r, rfl, hg2, ht⟩
    have ht2 : Told false n P Inv Q r w2 := ⟨fun h => by
        obtain ⟨j, h1, h2, h3, h4⟩ := ht.yes h
        exact ⟨j, h1, by simpa using h2, fun i hi => by simpa using h3 i hi, h4⟩, fun h => ⟨fun i hi => by simpa using (ht.no h).1 i hi, (ht.no h).2.1⟩⟩
    clear ht HC
    go_wp2_with fail
    go_ret
    exact ⟨_, rfl, grown_trans (grown_alloc w _ row) hg2, by simpa using ht2⟩

theorem allInt : AlB 101 132 1 one := alAll (101, 132, 1, 131, one, 3, 141) (by simp) containsInt (oneAllP (132, 3) (by simp)) _ _ rfl rfl

theorem allTxt : AlB 71 108 1 one := alAll (71, 108, 1, 73, one, 22, 24) (by simp) containsTxt (oneAllP (108, 22) (by simp)) _ _ rfl rfl

theorem allParam : AlB 68 107 2 agg := alAll (68, 107, 2, 106, agg, 98, 112) (by simp) containsParam (oneAll (107, 2, 98) (by simp)) _ _ rfl rfl

theorem allVar : AlB 29 64 2 agg := alAll (29, 64, 2, 63, agg, 59, 82) (by simp) containsVar (oneAll (64, 2, 59) (by simp)) _ _ rfl rfl

theorem allFaceProc : AlB 59 100 2 agg := alAll (59, 100, 2, 99, agg, 90, 106) (by simp) containsFaceProc (oneAll (100, 2, 90) (by simp)) _ _ rfl rfl

theorem allFace : AlB 25 57 2 agg := alAll (25, 57, 2, 56, agg, 72, 73) (by simp) containsFace (oneAll (57, 2, 72) (by simp)) _ _ rfl rfl

theorem allProc : AlB 33 66 5 agg := alAll (33, 66, 5, 65, agg, 64, 84) (by simp) containsProc (oneAll (66, 5, 64) (by simp)) _ _ rfl rfl

theorem allExpr : AlB 158 182 5 agg := alAll (158, 182, 5, 181, agg, 122, 186) (by simp) containsExpr (oneAll (182, 5, 122) (by simp)) _ _ rfl rfl

theorem allStmt : AlB 135 157 6 agg := alAll (135, 157, 6, 156, agg, 133, 171) (by simp) containsStmt (oneAll (157, 6, 133) (by simp)) _ _ rfl rfl

end Go.Proofs.YtajnfknldofjlaaGreatDoor

/- Searches with a function handed over, by type of element, whatever the function is. By mkall.py. -/
import Derived.Test.YtefciaeajlgheaaTreeSz
import Derived.Deep.Cut
import Derived.Deep.CutRange
namespace Go.Proofs.Ytefciaeajlgheaa
open Go.RowKit
set_option linter.unusedVariables false
set_option linter.unusedSimpArgs false
set_option maxRecDepth 100000

theorem RdVals.len {w : World} : ∀ {r : List Fl} {vs : List Value}, RdVals w r vs → vs.length = r.length := by
  intro r
  induction r with
  | nil => intro vs h; rw [show vs = [] from h]; rfl
  | cons f r ih => intro vs h; obtain ⟨v, us, rfl, _, h2⟩ := h; simp [ih h2]

theorem grown_refl (w : World) (row : Option Nat) : w.grownBy w row := ⟨rfl, rfl, rfl, Nat.le_refl _, fun _ _ _ => rfl⟩
theorem grown_trans {a b c : World} {row : Option Nat} (h : a.grownBy b row) (k : b.grownBy c row) : a.grownBy c row :=
  ⟨k.os.trans h.os, k.tape.trans h.tape, k.output.trans h.output, Nat.le_trans h.size k.size, fun i hi hr => (k.block i (Nat.lt_of_lt_of_le hi h.size) hr).trans (h.block i hi hr)⟩
theorem below_grown {a b : World} (h : a.grownBy b none) : Below a.heap.size a b := ⟨h.os, h.tape, h.output, h.size, fun k hk => h.block k hk (by simp)⟩
theorem grown_below {a b : World} (h : Below a.heap.size a b) (row : Option Nat) : a.grownBy b row := ⟨h.os, h.tape, h.output, h.size, fun k hk _ => h.block k hk⟩
theorem grown_alloc (w : World) (x : Obj) (row : Option Nat) : w.grownBy (w.alloc x) row := grown_below ((Below.refl _ _).alloc (Nat.le_refl _) x) row
theorem grown_any {a b : World} (h : a.grownBy b none) (row : Option Nat) : a.grownBy b row := ⟨h.os, h.tape, h.output, h.size, fun k hk _ => h.block k hk (by simp)⟩

/-- The function is one with a body. -/
def Ent (C : Nat) : Prop := ∀ args w, Sem.run Try.prog (callFunc C args) w = .ok (.enter C args) w

/-- These values lie there. -/
def CellsAt (w : World) (a : Option Addr) (o : Nat) (vs : List Value) : Prop := ∃ b off, a = some ⟨b, off, none⟩ ∧ ∀ i v, vs[i]? = some v → w.cell? ⟨b, off + o + i, none⟩ = some v

theorem CellsAt.below {w w' : World} {a : Option Addr} {o : Nat} {vs : List Value} (h : CellsAt w a o vs) (hb : Below w.heap.size w w') : CellsAt w' a o vs := by
  obtain ⟨b, off, e, hc⟩ := h
  exact ⟨b, off, e, fun i v hv => cell_on (hc i v hv) hb⟩

/-- What lies there now and lay there ahead is the same. -/
theorem vals_back {w0 wr : World} {a : Option Addr} {c K j : Nat} {rs : List (List Fl)} {r : List Fl} {vs : List Value} (hr : LRow w0 a c K rs) (hb : Below w0.heap.size w0 wr) (hj : rs[j]? = some r) (hlen : vs.length = r.length) (hc : CellsAt wr a (j * K) vs) : RdVals w0 r vs := by
  obtain ⟨b, off, rfl, hc⟩ := hc
  obtain ⟨vs0, h0, hc0⟩ := (hr.el hj).vals
  have hl0 : vs0.length = r.length := h0.len
  have : vs = vs0 := by
    apply List.ext_getElem?
    intro i
    by_cases hi : i < r.length
    · have h1 := hc0 i _ (List.getElem?_eq_getElem (by omega : i < vs0.length))
      have h2 := hc i _ (List.getElem?_eq_getElem (by omega : i < vs.length))
      have h3 := cell_on h1 hb
      rw [h2] at h3
      rw [List.getElem?_eq_getElem (by omega : i < vs.length), List.getElem?_eq_getElem (by omega : i < vs0.length)]
      exact h3
    · rw [List.getElem?_eq_none (by omega), List.getElem?_eq_none (by omega)]
  rw [this]; exact h0

/-- The function G, with caps behind its argument, says P of each record, one behind the other; as long as it does not say s, Inv goes on; where it says s, Q. -/
structure Asks (s : Bool) (G : Nat) (caps : Array Value) (row : Option Nat) (mkv : List Value → Value) (a : Option Addr) (c K : Nat) (rs : List (List Fl)) (P : Nat → Bool) (Inv Q : Nat → World → Prop) : Prop where
  ent : Ent G
  rows : ∀ j wr, Inv j wr → LRow wr a c K rs
  each : ∀ r ∈ rs, r.length = K
  go : ∀ j r wr vs, rs[j]? = some r → Inv j wr → RdVals wr r vs → CellsAt wr a (j * K) vs → Calls Try.prog G (#[mkv vs] ++ caps) wr fun e w' => e = .returned (.bool (P j)) ∧ wr.grownBy w' row ∧ (P j = (!s) → Inv (j + 1) w') ∧ (P j = s → Q j w')

/-- What is told by a search: where something was found, the first of it. -/
structure Told (s : Bool) (n : Nat) (P : Nat → Bool) (Inv Q : Nat → World → Prop) (b : Bool) (w : World) : Prop where
  yes : b = true → ∃ j, j < n ∧ P j = s ∧ (∀ i, i < j → P i = (!s)) ∧ Q j w
  no : b = false → (∀ i, i < n → P i = (!s)) ∧ Inv n w

def one (vs : List Value) : Value := vs[0]?.getD undef
def agg (vs : List Value) : Value := .agg vs.toArray

theorem ent_of {f : FuncId} {fn : Func} {c : Code} (hf : Try.prog.funcs[f]? = some fn) (hname : (fn.name == "runtime.NumGoroutine") = false) (hb : fn.body = some c) : Ent f := by
  intro args w
  have h1 : fn.name ≠ "runtime.NumGoroutine" := by simpa using hname
  simp [callFunc, go_sem, hf, h1, hb]

theorem told_any {n : Nat} {P : Nat → Bool} {Inv Q : Nat → World → Prop} {b : Bool} {w : World} (h : Told true n P Inv Q b w) : b = (List.range n).any P := by
  cases b with
  | true =>
    obtain ⟨j, hj, hp, _⟩ := h.yes rfl
    symm; rw [List.any_eq_true]
    exact ⟨j, by simpa using hj, hp⟩
  | false =>
    have := (h.no rfl).1
    symm; rw [List.any_eq_false]
    intro x hx
    simpa using this x (by simpa using hx)
theorem told_all {n : Nat} {P : Nat → Bool} {Inv Q : Nat → World → Prop} {b : Bool} {w : World} (h : Told false n P Inv Q (!b) w) : b = (List.range n).all P := by
  cases b with
  | true =>
    have := (h.no rfl).1
    symm; rw [List.all_eq_true]
    intro x hx
    simpa using this x (by simpa using hx)
  | false =>
    obtain ⟨j, hj, hp, _⟩ := h.yes rfl
    symm; rw [List.all_eq_false]
    exact ⟨j, by simpa using hj, by simp [hp]⟩
theorem range_any {α : Type} (l : List α) (d : α) (p : α → Bool) : ((List.range l.length).any fun j => p (l[j]?.getD d)) = l.any p := by
  rw [Bool.eq_iff_iff, List.any_eq_true, List.any_eq_true]
  constructor
  · rintro ⟨j, hj, hp⟩
    have hj : j < l.length := by simpa using hj
    rw [List.getElem?_eq_getElem hj] at hp
    exact ⟨l[j], List.getElem_mem hj, hp⟩
  · rintro ⟨x, hx, hp⟩
    obtain ⟨j, hj, rfl⟩ := List.mem_iff_getElem.1 hx
    exact ⟨j, by simpa using hj, by rw [List.getElem?_eq_getElem hj]; exact hp⟩
theorem range_all {α : Type} (l : List α) (d : α) (p : α → Bool) : ((List.range l.length).all fun j => p (l[j]?.getD d)) = l.all p := by
  rw [Bool.eq_iff_iff, List.all_eq_true, List.all_eq_true]
  constructor
  · intro h x hx
    obtain ⟨j, hj, rfl⟩ := List.mem_iff_getElem.1 hx
    have := h j (by simpa using hj)
    rwa [List.getElem?_eq_getElem hj] at this
  · intro h j hj
    have hj : j < l.length := by simpa using hj
    rw [List.getElem?_eq_getElem hj]
    exact h _ (List.getElem_mem hj)

set_option maxHeartbeats 4000000 in
theorem indexObject (C : Nat) (caps : Array Value) (row : Option Nat) (a : Option Addr) (n c : Nat) (rs : List (List Fl)) (P : Nat → Bool) (Inv Q : Nat → World → Prop) (w : World)
    (H : Asks true C caps row agg a c 5 rs P Inv Q) (hn : rs.length = n) (h0 : Inv 0 w) :
    Calls Try.prog 73 #[.slice a n c, .func (.func C) #[] caps] w fun e w' => ∃ r : Int, e = .returned (.int .i64 r) ∧ w.grownBy w' row ∧ Told true n P Inv Q (decide (0 ≤ r)) w' := by
  have Hd : Hid (rs.length = n) := hn
  have HA : Hid (Asks true C caps row agg a c 5 rs P Inv Q) := H
  have hC : Ent C := H.ent
  have hl0 := H.rows 0 w h0
  have hcn : n ≤ 9223372036854775807 := by have h1 := hl0.cap; have h2 := hl0.most; unfold maxLen at h2; omega
  have H0 : Hid (Inv 0 w) := h0
  clear H h0
  rcases Nat.eq_zero_or_pos n with h0 | hpos
  · subst h0
    clear hl0 hn
    go_enter Try.func73, Try.ntmps73
    go_wp2_with fail
    refine wp_loop_rounds 1 ?_
    rw [rounds_succ]
    go_wp2_with fail
    go_ret
    exact ⟨_, rfl, grown_refl _ _, ⟨by simp, fun _ => ⟨by simp, H0.out⟩⟩⟩
  · obtain ⟨b, off, rfl⟩ := hl0.addr (by rw [hn]; exact hpos)
    clear hl0 hn
    go_enter Try.func73, Try.ntmps73
    go_wp2_with fail
    go_loopw [5, 8] (fun _ i wr => ∃ j : Nat, j ≤ n ∧ i = .int .i64 j ∧ Hid (∀ i, i < j → P i = false) ∧ Hid (w.grownBy wr row) ∧ Hid (Inv j wr)) (fun _ i _ => n - (intOf i).toNat)
    case atStart => exact ⟨0, Nat.zero_le _, rfl, by show ∀ _, _; omega, grown_refl _ _, H0⟩
    case round =>
      obtain ⟨j, hj, rfl, hno, hgr, hinv⟩ := hrel
      by_cases hlt : j < n
      · obtain ⟨r, hr⟩ : ∃ r, rs[j]? = some r := ⟨rs[j]'(by rw [Hd.out]; exact hlt), List.getElem?_eq_getElem _⟩
        obtain ⟨vs, hvs, hcl⟩ := ((Asks.rows HA.out j wr hinv.out).el hr).vals
        have HC := Asks.go HA.out j r wr vs hr hinv.out hvs ⟨b, off, rfl, hcl⟩
        have hlen : vs.length = 5 := (hvs.len).trans (Asks.each HA.out r (List.mem_of_getElem? hr))
        obtain ⟨v0, v1, v2, v3, v4, rfl⟩ : ∃ v0 v1 v2 v3 v4, vs = [v0, v1, v2, v3, v4] := by
          match vs, hlen with
          | [v0, v1, v2, v3, v4], _ => exact ⟨v0, v1, v2, v3, v4, rfl⟩
        clear hlen hvs hr
        have q0 : wr.cell? ⟨b, off + j * 5, none⟩ = some v0 := hcl 0 _ rfl
        have q1 : wr.cell? ⟨b, off + j * 5 + 1, none⟩ = some v1 := hcl 1 _ rfl
        have q2 : wr.cell? ⟨b, off + j * 5 + 2, none⟩ = some v2 := hcl 2 _ rfl
        have q3 : wr.cell? ⟨b, off + j * 5 + 3, none⟩ = some v3 := hcl 3 _ rfl
        have q4 : wr.cell? ⟨b, off + j * 5 + 4, none⟩ = some v4 := hcl 4 _ rfl
        clear hcl
        simp only [agg, List.getElem?_cons_zero, Option.getD_some] at HC
        go_wp2_with fail
        rw [hC, Oper.upon_enter]
        refine HC.mono ?_
        rintro e w2 ⟨rfl, hg2, hn2, hy2⟩
        have hgw : Hid (w.grownBy w2 row) := grown_trans hgr.out hg2
        have HN : Hid (P j = false → Inv (j + 1) w2) := hn2
        have HY : Hid (P j = true → Q j w2) := hy2
        clear q0 q1 q2 q3 q4 hg2 HC hn2 hy2
        by_cases he : P j = true
        · rw [he]
          have HS : Hid (P j = true) := he
          clear he
          go_wp2_with fail
          go_ret
          exact ⟨_, rfl, hgw.out, ⟨fun _ => ⟨j, hlt, HS.out, hno.out, HY.out HS.out⟩, by simp⟩⟩
        · have he := Bool.not_eq_true _ ▸ he
          rw [he]
          have HS : Hid (P j = false) := he
          clear he
          go_wp2_with fail
          go_roundw
          case rel => exact ⟨j + 1, by omega, by go_num, (show ∀ i, i < j + 1 → P i = false from fun i hi => (Nat.lt_or_ge i j).elim (fun h => hno.out i h) (fun h => (show j = i by omega) ▸ HS.out)), hgw, HN.out HS.out⟩
          case measure => simp [intOf]; omega
      · have : j = n := by omega
        subst this
        go_wp2_with fail
        go_ret
        exact ⟨_, rfl, hgr.out, ⟨by simp, fun _ => ⟨hno.out, hinv.out⟩⟩⟩

theorem containsObject (C : Nat) (caps : Array Value) (row : Option Nat) (a : Option Addr) (n c : Nat) (rs : List (List Fl)) (P : Nat → Bool) (Inv Q : Nat → World → Prop) (w : World)
    (H : Asks true C caps row agg a c 5 rs P Inv Q) (hn : rs.length = n) (h0 : Inv 0 w) :
    Calls Try.prog 48 #[.slice a n c, .func (.func C) #[] caps] w fun e w' => ∃ r : Bool, e = .returned (.bool r) ∧ w.grownBy w' row ∧ Told true n P Inv Q r w' := by
  have H := indexObject C caps row a n c rs P Inv Q w H hn h0
  clear h0 hn
  go_enter Try.func48, Try.ntmps48
  go_wp2_with fail
  refine H.mono ?_
  rintro e w2 ⟨r, rfl, hr, hb⟩
  go_wp2_with fail
  go_ret
  exact ⟨_, rfl, hr, hb⟩

set_option maxHeartbeats 1000000 in
theorem allOneObject (G : Nat) (caps : Array Value) (v0 v1 v2 v3 v4 : Value) (g : Nat) (P : Bool) (R : World → Prop) (w : World)
    (hg : w.cell? ⟨g, 0, none⟩ = some (.func (.func G) #[] caps)) (hG : Ent G)
    (H : ∀ w1, w.grownBy w1 none → Calls Try.prog G (#[.agg #[v0, v1, v2, v3, v4]] ++ caps) w1 fun e w' => e = .returned (.bool P) ∧ R w') :
    Calls Try.prog 49 #[.agg #[v0, v1, v2, v3, v4], .pointer (some ⟨g, 0, none⟩)] w fun e w' => e = .returned (.bool (!P)) ∧ R w' := by
  have H1 := H _ (grown_alloc w (.cells #[v0, v1, v2, v3, v4] 47 (0, 0)) none)
  have y0 : Below w.heap.size w (w.alloc (.cells #[v0, v1, v2, v3, v4] 47 (0, 0))) := (Below.refl _ _).alloc (Nat.le_refl _) _
  have g1 := cell_on hg y0
  have q0 := cell_new w 47 #[v0, v1, v2, v3, v4] 0 _ rfl
  have q1 := cell_new w 47 #[v0, v1, v2, v3, v4] 1 _ rfl
  have q2 := cell_new w 47 #[v0, v1, v2, v3, v4] 2 _ rfl
  have q3 := cell_new w 47 #[v0, v1, v2, v3, v4] 3 _ rfl
  have q4 := cell_new w 47 #[v0, v1, v2, v3, v4] 4 _ rfl
  clear H hg y0
  go_enter Try.func49, Try.ntmps49
  go_upto_region 1 with fail
  generalize w.alloc (.cells #[v0, v1, v2, v3, v4] 47 (0, 0)) = w1 at *
  go_wp2_with fail
  rw [hG, Oper.upon_enter]
  refine H1.mono ?_
  rintro e w2 ⟨rfl, hR⟩
  clear g1 q0 q1 q2 q3 q4
  go_wp2_with fail
  go_ret
  exact ⟨rfl, hR⟩

set_option maxHeartbeats 1000000 in
theorem allObject (G : Nat) (caps : Array Value) (row : Option Nat) (a : Option Addr) (n c : Nat) (rs : List (List Fl)) (P : Nat → Bool) (Inv Q : Nat → World → Prop) (w : World)
    (H : Asks false G caps row agg a c 5 rs P Inv Q) (hn : rs.length = n) (h0 : Inv 0 w) (hgrow : ∀ j w w', Inv j w → w.grownBy w' none → Inv j w') (hrow : ∀ k, row = some k → k < w.heap.size) (hE : Ent 49) :
    Calls Try.prog 21 #[.slice a n c, .func (.func G) #[] caps] w fun e w' => ∃ r : Bool, e = .returned (.bool r) ∧ w.grownBy w' row ∧ Told false n P Inv Q (!r) w' := by
  have x0 := cell_new w 43 #[.func (.func G) #[] caps] 0 _ rfl
  have hk : some w.heap.size ≠ row := fun h => Nat.lt_irrefl _ (hrow _ h.symm)
  have HA : Asks true 49 #[.pointer (some ⟨w.heap.size, 0, none⟩)] row agg a c 5 rs (fun j => !P j) (fun j wr => Inv j wr ∧ wr.cell? ⟨w.heap.size, 0, none⟩ = some (.func (.func G) #[] caps)) Q := by
    refine ⟨hE, fun j wr h => H.rows j wr h.1, H.each, ?_⟩
    intro j r wr vs hr hi hvs hca
    have hlen : vs.length = 5 := (hvs.len).trans (H.each r (List.mem_of_getElem? hr))
    obtain ⟨v0, v1, v2, v3, v4, rfl⟩ : ∃ v0 v1 v2 v3 v4, vs = [v0, v1, v2, v3, v4] := by
      match vs, hlen with
      | [v0, v1, v2, v3, v4], _ => exact ⟨v0, v1, v2, v3, v4, rfl⟩
    have h1 := allOneObject G caps v0 v1 v2 v3 v4 w.heap.size (P j) (fun w' => wr.grownBy w' row ∧ (P j = true → Inv (j + 1) w' ∧ w'.cell? ⟨w.heap.size, 0, none⟩ = some (.func (.func G) #[] caps)) ∧ (P j = false → Q j w')) wr hi.2 H.ent ?_
    · refine h1.mono ?_
      rintro e w' ⟨rfl, h2, h3, h4⟩
      refine ⟨rfl, h2, fun h => h3 (by simpa using h), fun h => h4 (by simpa using h)⟩
    · intro w1 hw1
      refine (H.go j r w1 [v0, v1, v2, v3, v4] hr (hgrow _ _ _ hi.1 hw1) (hvs.below (below_grown hw1)) (hca.below (below_grown hw1))).mono ?_
      rintro e w' ⟨rfl, h2, h3, h4⟩
      have h5 : wr.grownBy w' row := grown_trans (grown_any hw1 row) h2
      refine ⟨rfl, h5, fun h => ⟨h3 h, ?_⟩, h4⟩
      have hlt := World.block_lt_of_cell? wr _ hi.2
      rw [World.cell?_of_block (a := ⟨w.heap.size, 0, none⟩) (h5.block _ hlt hk)]
      exact hi.2
  have HC := containsObject 49 #[.pointer (some ⟨w.heap.size, 0, none⟩)] row a n c rs _ _ Q (w.alloc (.cells #[.func (.func G) #[] caps] 43 (0, 0))) HA hn ⟨hgrow _ _ _ h0 (grown_alloc w _ none), x0⟩
  clear HA H hrow hgrow hn h0
  go_enter Try.func21, Try.ntmps21
  go_wp2_with fail
  refine HC.mono ?_
  rintro e w2 ⟨r, rfl, hg2, ht⟩
  have ht2 : Told false n P Inv Q r w2 := ⟨fun h => by
      obtain ⟨j, h1, h2, h3, h4⟩ := ht.yes h
      exact ⟨j, h1, by simpa using h2, fun i hi => by simpa using h3 i hi, h4⟩, fun h => ⟨fun i hi => by simpa using (ht.no h).1 i hi, (ht.no h).2.1⟩⟩
  clear ht HC
  go_wp2_with fail
  go_ret
  exact ⟨_, rfl, grown_trans (grown_alloc w _ row) hg2, by simpa using ht2⟩

set_option maxHeartbeats 4000000 in
theorem indexExport (C : Nat) (caps : Array Value) (row : Option Nat) (a : Option Addr) (n c : Nat) (rs : List (List Fl)) (P : Nat → Bool) (Inv Q : Nat → World → Prop) (w : World)
    (H : Asks true C caps row agg a c 3 rs P Inv Q) (hn : rs.length = n) (h0 : Inv 0 w) :
    Calls Try.prog 81 #[.slice a n c, .func (.func C) #[] caps] w fun e w' => ∃ r : Int, e = .returned (.int .i64 r) ∧ w.grownBy w' row ∧ Told true n P Inv Q (decide (0 ≤ r)) w' := by
  have Hd : Hid (rs.length = n) := hn
  have HA : Hid (Asks true C caps row agg a c 3 rs P Inv Q) := H
  have hC : Ent C := H.ent
  have hl0 := H.rows 0 w h0
  have hcn : n ≤ 9223372036854775807 := by have h1 := hl0.cap; have h2 := hl0.most; unfold maxLen at h2; omega
  have H0 : Hid (Inv 0 w) := h0
  clear H h0
  rcases Nat.eq_zero_or_pos n with h0 | hpos
  · subst h0
    clear hl0 hn
    go_enter Try.func81, Try.ntmps81
    go_wp2_with fail
    refine wp_loop_rounds 1 ?_
    rw [rounds_succ]
    go_wp2_with fail
    go_ret
    exact ⟨_, rfl, grown_refl _ _, ⟨by simp, fun _ => ⟨by simp, H0.out⟩⟩⟩
  · obtain ⟨b, off, rfl⟩ := hl0.addr (by rw [hn]; exact hpos)
    clear hl0 hn
    go_enter Try.func81, Try.ntmps81
    go_wp2_with fail
    go_loopw [5, 8] (fun _ i wr => ∃ j : Nat, j ≤ n ∧ i = .int .i64 j ∧ Hid (∀ i, i < j → P i = false) ∧ Hid (w.grownBy wr row) ∧ Hid (Inv j wr)) (fun _ i _ => n - (intOf i).toNat)
    case atStart => exact ⟨0, Nat.zero_le _, rfl, by show ∀ _, _; omega, grown_refl _ _, H0⟩
    case round =>
      obtain ⟨j, hj, rfl, hno, hgr, hinv⟩ := hrel
      by_cases hlt : j < n
      · obtain ⟨r, hr⟩ : ∃ r, rs[j]? = some r := ⟨rs[j]'(by rw [Hd.out]; exact hlt), List.getElem?_eq_getElem _⟩
        obtain ⟨vs, hvs, hcl⟩ := ((Asks.rows HA.out j wr hinv.out).el hr).vals
        have HC := Asks.go HA.out j r wr vs hr hinv.out hvs ⟨b, off, rfl, hcl⟩
        have hlen : vs.length = 3 := (hvs.len).trans (Asks.each HA.out r (List.mem_of_getElem? hr))
        obtain ⟨v0, v1, v2, rfl⟩ : ∃ v0 v1 v2, vs = [v0, v1, v2] := by
          match vs, hlen with
          | [v0, v1, v2], _ => exact ⟨v0, v1, v2, rfl⟩
        clear hlen hvs hr
        have q0 : wr.cell? ⟨b, off + j * 3, none⟩ = some v0 := hcl 0 _ rfl
        have q1 : wr.cell? ⟨b, off + j * 3 + 1, none⟩ = some v1 := hcl 1 _ rfl
        have q2 : wr.cell? ⟨b, off + j * 3 + 2, none⟩ = some v2 := hcl 2 _ rfl
        clear hcl
        simp only [agg, List.getElem?_cons_zero, Option.getD_some] at HC
        go_wp2_with fail
        rw [hC, Oper.upon_enter]
        refine HC.mono ?_
        rintro e w2 ⟨rfl, hg2, hn2, hy2⟩
        have hgw : Hid (w.grownBy w2 row) := grown_trans hgr.out hg2
        have HN : Hid (P j = false → Inv (j + 1) w2) := hn2
        have HY : Hid (P j = true → Q j w2) := hy2
        clear q0 q1 q2 hg2 HC hn2 hy2
        by_cases he : P j = true
        · rw [he]
          have HS : Hid (P j = true) := he
          clear he
          go_wp2_with fail
          go_ret
          exact ⟨_, rfl, hgw.out, ⟨fun _ => ⟨j, hlt, HS.out, hno.out, HY.out HS.out⟩, by simp⟩⟩
        · have he := Bool.not_eq_true _ ▸ he
          rw [he]
          have HS : Hid (P j = false) := he
          clear he
          go_wp2_with fail
          go_roundw
          case rel => exact ⟨j + 1, by omega, by go_num, (show ∀ i, i < j + 1 → P i = false from fun i hi => (Nat.lt_or_ge i j).elim (fun h => hno.out i h) (fun h => (show j = i by omega) ▸ HS.out)), hgw, HN.out HS.out⟩
          case measure => simp [intOf]; omega
      · have : j = n := by omega
        subst this
        go_wp2_with fail
        go_ret
        exact ⟨_, rfl, hgr.out, ⟨by simp, fun _ => ⟨hno.out, hinv.out⟩⟩⟩

theorem containsExport (C : Nat) (caps : Array Value) (row : Option Nat) (a : Option Addr) (n c : Nat) (rs : List (List Fl)) (P : Nat → Bool) (Inv Q : Nat → World → Prop) (w : World)
    (H : Asks true C caps row agg a c 3 rs P Inv Q) (hn : rs.length = n) (h0 : Inv 0 w) :
    Calls Try.prog 77 #[.slice a n c, .func (.func C) #[] caps] w fun e w' => ∃ r : Bool, e = .returned (.bool r) ∧ w.grownBy w' row ∧ Told true n P Inv Q r w' := by
  have H := indexExport C caps row a n c rs P Inv Q w H hn h0
  clear h0 hn
  go_enter Try.func77, Try.ntmps77
  go_wp2_with fail
  refine H.mono ?_
  rintro e w2 ⟨r, rfl, hr, hb⟩
  go_wp2_with fail
  go_ret
  exact ⟨_, rfl, hr, hb⟩

end Go.Proofs.Ytefciaeajlgheaa

/- Trees in memory: fields that are bytes, slices of ints, ints, bools, or slices of records of k cells each; what reads there. No function is walked here. -/
import Derived.Test.YtajnfknldofjlaaGreatDoorInts
namespace Go.Proofs.YtajnfknldofjlaaGreatDoor
open Go.RowKit
set_option linter.unusedVariables false

/-- What a field holds. -/
inductive Fl where
  | b (l : List Int)
  | i (l : List Int)
  | n (x : Int)
  | t (x : Bool)
  | l (k : Nat) (rs : List (List Fl))

mutual
/-- The value reads as what the field holds. -/
def Fl.Rd (w : World) : Fl → Value → Prop
  | .b l, v => ∃ a c, v = .slice a l.length c ∧ BRow w a l.length l ∧ l.length ≤ c ∧ c ≤ maxLen ∧ (a = none → c = 0)
  | .i l, v => ∃ a c, v = .slice a l.length c ∧ NRow w a l.length l ∧ l.length ≤ c ∧ c ≤ maxLen ∧ (a = none → c = 0)
  | .n x, v => v = .int .i64 x
  | .t x, v => v = .bool x
  | .l k rs, v => ∃ a c, v = .slice a rs.length c ∧ rs.length ≤ c ∧ c ≤ maxLen ∧ (a = none → c = 0) ∧ (0 < rs.length → ∃ b off, a = some ⟨b, off, none⟩ ∧ RdRows w b k off rs)
/-- The cells from off on read as these fields. -/
def RdRec (w : World) (b : Nat) : Nat → List Fl → Prop
  | _, [] => True
  | off, f :: r => (∃ v, w.cell? ⟨b, off, none⟩ = some v ∧ f.Rd w v) ∧ RdRec w b (off + 1) r
/-- The cells from off on read as these records, k cells each. -/
def RdRows (w : World) (b k : Nat) : Nat → List (List Fl) → Prop
  | _, [] => True
  | off, r :: rs => RdRec w b off r ∧ RdRows w b k (off + k) rs
end

mutual
theorem Fl.Rd.below' {w w' : World} (hb : Below w.heap.size w w') : ∀ (f : Fl) (v : Value), f.Rd w v → f.Rd w' v
  | .b l, v, h => by
    obtain ⟨a, c, e, hr, r⟩ := h
    exact ⟨a, c, e, hr.below hb, r⟩
  | .i l, v, h => by
    obtain ⟨a, c, e, hr, r⟩ := h
    exact ⟨a, c, e, hr.below hb, r⟩
  | .n x, v, h => h
  | .t x, v, h => h
  | .l k rs, v, h => by
    obtain ⟨a, c, e, h1, h2, h3, h4⟩ := h
    refine ⟨a, c, e, h1, h2, h3, fun hp => ?_⟩
    obtain ⟨b, off, e2, h5⟩ := h4 hp
    exact ⟨b, off, e2, RdRows.below' hb b k off rs h5⟩
theorem RdRec.below' {w w' : World} (hb : Below w.heap.size w w') (b : Nat) : ∀ (off : Nat) (r : List Fl), RdRec w b off r → RdRec w' b off r
  | _, [], h => trivial
  | off, f :: r, h => by
    obtain ⟨⟨v, hc, hv⟩, h2⟩ := h
    exact ⟨⟨v, by rw [hb.cell (World.block_lt_of_cell? w _ hc)]; exact hc, Fl.Rd.below' hb f v hv⟩, RdRec.below' hb b (off + 1) r h2⟩
theorem RdRows.below' {w w' : World} (hb : Below w.heap.size w w') (b k : Nat) : ∀ (off : Nat) (rs : List (List Fl)), RdRows w b k off rs → RdRows w' b k off rs
  | _, [], h => trivial
  | off, r :: rs, h => ⟨RdRec.below' hb b off r h.1, RdRows.below' hb b k (off + k) rs h.2⟩
end

theorem Fl.Rd.below {w w' : World} {f : Fl} {v : Value} (h : f.Rd w v) (hb : Below w.heap.size w w') : f.Rd w' v := Fl.Rd.below' hb f v h
theorem RdRec.below {w w' : World} {b off : Nat} {r : List Fl} (h : RdRec w b off r) (hb : Below w.heap.size w w') : RdRec w' b off r := RdRec.below' hb b off r h
theorem RdRows.below {w w' : World} {b k off : Nat} {rs : List (List Fl)} (h : RdRows w b k off rs) (hb : Below w.heap.size w w') : RdRows w' b k off rs := RdRows.below' hb b k off rs h

theorem RdRows.el {w : World} {b k : Nat} {rs : List (List Fl)} {i : Nat} {r : List Fl} : ∀ {off : Nat}, RdRows w b k off rs → rs[i]? = some r → RdRec w b (off + i * k) r := by
  induction rs generalizing i with
  | nil => intro off _ h; simp at h
  | cons x rs ih =>
    intro off h hi
    cases i with
    | zero =>
      simp only [List.getElem?_cons_zero, Option.some.injEq] at hi
      subst hi
      rw [Nat.zero_mul, Nat.add_zero]; exact h.1
    | succ i =>
      rw [List.getElem?_cons_succ] at hi
      have := ih h.2 hi
      rw [show off + (i + 1) * k = off + k + i * k by rw [Nat.add_mul]; omega]
      exact this

/-- A slice of records, of n of them: the reading taken apart. -/
structure LRow (w : World) (a : Option Addr) (c k : Nat) (rs : List (List Fl)) : Prop where
  cap : rs.length ≤ c
  most : c ≤ maxLen
  nil : a = none → c = 0
  row : 0 < rs.length → ∃ b off, a = some ⟨b, off, none⟩ ∧ RdRows w b k off rs

theorem LRow.below {w w' : World} {a : Option Addr} {c k : Nat} {rs : List (List Fl)} (h : LRow w a c k rs) (hb : Below w.heap.size w w') : LRow w' a c k rs := by
  refine ⟨h.cap, h.most, h.nil, fun hp => ?_⟩
  obtain ⟨b, off, e, hr⟩ := h.row hp
  exact ⟨b, off, e, hr.below hb⟩

theorem Fl.Rd.list {w : World} {k : Nat} {rs : List (List Fl)} {v : Value} (h : (Fl.l k rs).Rd w v) : ∃ a c, v = .slice a rs.length c ∧ LRow w a c k rs := by
  obtain ⟨a, c, e, h1, h2, h3, h4⟩ := h
  exact ⟨a, c, e, h1, h2, h3, h4⟩
theorem LRow.rd {w : World} {a : Option Addr} {c k : Nat} {rs : List (List Fl)} (h : LRow w a c k rs) : (Fl.l k rs).Rd w (.slice a rs.length c) := ⟨a, c, rfl, h.cap, h.most, h.nil, h.row⟩

theorem LRow.addr {w : World} {a : Option Addr} {c k : Nat} {rs : List (List Fl)} (h : LRow w a c k rs) (hp : 0 < rs.length) : ∃ b off, a = some ⟨b, off, none⟩ := by
  obtain ⟨b, off, e, _⟩ := h.row hp
  exact ⟨b, off, e⟩

theorem LRow.el {w : World} {b off c k i : Nat} {rs : List (List Fl)} {r : List Fl} (h : LRow w (some ⟨b, off, none⟩) c k rs) (hi : rs[i]? = some r) : RdRec w b (off + i * k) r := by
  have hp : 0 < rs.length := Nat.lt_of_le_of_lt (Nat.zero_le _) (List.getElem?_eq_some_iff.1 hi).1
  obtain ⟨b', off', e, hr⟩ := h.row hp
  simp only [Option.some.injEq, Addr.mk.injEq, and_true] at e
  obtain ⟨rfl, rfl⟩ := e
  exact hr.el hi

/-- Values that read as these fields, one by one. -/
def RdVals (w : World) : List Fl → List Value → Prop
  | [], vs => vs = []
  | f :: r, vs => ∃ v us, vs = v :: us ∧ f.Rd w v ∧ RdVals w r us

theorem RdVals.below {w w' : World} {r : List Fl} {vs : List Value} (h : RdVals w r vs) (hb : Below w.heap.size w w') : RdVals w' r vs := by
  induction r generalizing vs with
  | nil => exact h
  | cons f r ih =>
    obtain ⟨v, us, e, h1, h2⟩ := h
    exact ⟨v, us, e, h1.below hb, ih h2⟩

/-! How much a field counts -/
mutual
def Fl.len : Fl → Nat
  | .b l => l.length
  | .i l => l.length
  | .n _ => 0
  | .t _ => 0
  | .l _ rs => rs.length + rowsLen rs
def recLen : List Fl → Nat
  | [] => 0
  | f :: r => f.len + recLen r
def rowsLen : List (List Fl) → Nat
  | [] => 0
  | r :: rs => recLen r + rowsLen rs
end

theorem rowsLen_append (l m : List (List Fl)) : rowsLen (l ++ m) = rowsLen l + rowsLen m := by
  induction l with
  | nil => simp [rowsLen]
  | cons x l ih => simp [rowsLen, ih]; omega

theorem rowsLen_next {rs : List (List Fl)} {k : Nat} {r : List Fl} (h : rs[k]? = some r) : rowsLen (rs.take (k + 1)) = rowsLen (rs.take k) + recLen r := by
  obtain ⟨hk, rfl⟩ := List.getElem?_eq_some_iff.1 h
  rw [List.take_succ_eq_append_getElem hk, rowsLen_append]
  simp [rowsLen]

theorem rowsLen_take (rs : List (List Fl)) (k : Nat) : rowsLen (rs.take k) ≤ rowsLen rs := by
  have := rowsLen_append (rs.take k) (rs.drop k)
  rw [List.take_append_drop] at this
  omega

theorem recLen_le {rs : List (List Fl)} {r : List Fl} (h : r ∈ rs) : recLen r ≤ rowsLen rs := by
  induction rs with
  | nil => simp at h
  | cons x l ih =>
    rcases List.mem_cons.1 h with rfl | h
    · simp [rowsLen]
    · have := ih h; simp [rowsLen]; omega

/-- What is left. -/
def szL (left : Int) (n : Nat) : Int := if (n : Int) ≤ left then left - (n : Int) else -1
theorem szL_yes {left : Int} {n : Nat} (h : (n : Int) ≤ left) : szL left n = left - (n : Int) := if_pos h
theorem szL_no {left : Int} {n : Nat} (h : ¬ (n : Int) ≤ left) : szL left n = -1 := if_neg h

/-! The trees of the language -/
inductive Ex where
  | mk (kind n : Int) (mod name : List Int) (kids : List Ex)

inductive St where
  | mk (kind n : Int) (name : List Int) (kids : List Ex) (body els : List St)

structure Pa where
  name : List Int
  arr : Bool

structure Pr where
  name : List Int
  opn : Bool
  params : List Pa
  locals : List (List Int)
  body : List St

structure Va where
  name : List Int
  size : Int

structure Fp where
  name : List Int
  kinds : List Int

structure Fa where
  name : List Int
  procs : List Fp

structure Mo where
  name : List Int
  uses : List (List Int)
  vars : List Va
  procs : List Pr

mutual
def Ex.fl : Ex → List Fl
  | .mk k n m a ks => [.n k, .n n, .b m, .b a, .l 5 (exs ks)]
def exs : List Ex → List (List Fl)
  | [] => []
  | e :: l => e.fl :: exs l
end

mutual
def St.fl : St → List Fl
  | .mk k n a ks bs es => [.n k, .n n, .b a, .l 5 (exs ks), .l 6 (sts bs), .l 6 (sts es)]
def sts : List St → List (List Fl)
  | [] => []
  | s :: l => s.fl :: sts l
end

def txts (l : List (List Int)) : List (List Fl) := l.map fun x => [.b x]
def Va.fl (v : Va) : List Fl := [.b v.name, .n v.size]
def Pa.fl (v : Pa) : List Fl := [.b v.name, .t v.arr]
def Pr.fl (q : Pr) : List Fl := [.b q.name, .t q.opn, .l 2 (q.params.map Pa.fl), .l 1 (txts q.locals), .l 6 (sts q.body)]
def Mo.fl (m : Mo) : List Fl := [.b m.name, .l 1 (txts m.uses), .l 2 (m.vars.map Va.fl), .l 5 (m.procs.map Pr.fl)]

def Fp.fl (q : Fp) : List Fl := [.b q.name, .i q.kinds]
def Fa.fl (f : Fa) : List Fl := [.b f.name, .l 2 (f.procs.map Fp.fl)]

/-! Objects, and what is linked -/
structure Xp where
  name : List Int
  print : Int
  pos : Int

structure Ip where
  mod : List Int
  name : List Int
  print : Int

structure Oj where
  name : List Int
  ex : List Xp
  im : List Ip
  data : Int
  code : List Int

structure Rg where
  lo : Int
  hi : Int
  own : Int
  code : List Int

structure Wo where
  t : Bool
  n : Int
  l : Int
  h : Int
  a : Int
  p : Int
  s : Int

structure Ig where
  mods : List Rg
  words : List Wo
  start : Int

def Xp.fl (x : Xp) : List Fl := [.b x.name, .n x.print, .n x.pos]
def Ip.fl (x : Ip) : List Fl := [.b x.mod, .b x.name, .n x.print]
def Oj.fl (x : Oj) : List Fl := [.b x.name, .l 3 (x.ex.map Xp.fl), .l 3 (x.im.map Ip.fl), .n x.data, .b x.code]
def Rg.fl (x : Rg) : List Fl := [.n x.lo, .n x.hi, .n x.own, .b x.code]
def Wo.fl (x : Wo) : List Fl := [.t x.t, .n x.n, .n x.l, .n x.h, .n x.a, .n x.p, .n x.s]
def Ig.fl (x : Ig) : List Fl := [.l 4 (x.mods.map Rg.fl), .l 7 (x.words.map Wo.fl), .n x.start]

/-! What happens: arguments, events, actions, a run's result -/
structure Ag where
  arr : Bool
  n : Int

structure Ev where
  kind : Int
  fr : Int
  to : Int
  proc : Int
  args : List Ag
  n : Int

structure Ac where
  kind : Int
  to : Int
  proc : Int
  args : List Ag
  n : Int

structure Rs where
  fin : Int
  code : Int
  who : Int
  mod : Int
  low : Int
  steps : Int
  ev : List Ev
  regs : List Wo
  words : List Wo
  wrote : List Int
  read : List Int

def Ag.fl (x : Ag) : List Fl := [.t x.arr, .n x.n]
def Ev.fl (x : Ev) : List Fl := [.n x.kind, .n x.fr, .n x.to, .n x.proc, .l 2 (x.args.map Ag.fl), .n x.n]
def Ac.fl (x : Ac) : List Fl := [.n x.kind, .n x.to, .n x.proc, .l 2 (x.args.map Ag.fl), .n x.n]
def Rs.fl (x : Rs) : List Fl := [.n x.fin, .n x.code, .n x.who, .n x.mod, .n x.low, .n x.steps, .l 6 (x.ev.map Ev.fl), .l 7 (x.regs.map Wo.fl), .l 7 (x.words.map Wo.fl), .i x.wrote, .i x.read]
/-- A world: modules, faces, a script. -/
structure Wd where
  mods : List Mo
  faces : List Fa
  script : List Ac
def Wd.fl (x : Wd) : List Fl := [.l 4 (x.mods.map Mo.fl), .l 2 (x.faces.map Fa.fl), .l 5 (x.script.map Ac.fl)]
/-- Bools as records of one cell. -/
def tfs (l : List Bool) : List (List Fl) := l.map fun x => [.t x]

theorem exs_map (l : List Ex) : exs l = l.map Ex.fl := by
  induction l with
  | nil => rfl
  | cons x l ih => simp [exs, ih]
theorem sts_map (l : List St) : sts l = l.map St.fl := by
  induction l with
  | nil => rfl
  | cons x l ih => simp [sts, ih]
end Go.Proofs.YtajnfknldofjlaaGreatDoor

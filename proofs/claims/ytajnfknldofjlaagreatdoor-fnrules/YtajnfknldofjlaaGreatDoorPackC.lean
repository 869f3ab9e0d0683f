import Derived.Test.YtajnfknldofjlaaGreatDoorBytesEq
import Derived.Maps.Own
import Derived.Maps.OwnOps
import Derived.Maps.OwnSet
import Derived.Maps.Views
import Derived.StringKeys
import Derived.Test.YtajnfknldofjlaaGreatDoorGot
import Derived.Test.YtajnfknldofjlaaGreatDoorAppendB
import Derived.Test.YtajnfknldofjlaaGreatDoorLast
namespace Go.Proofs.YtajnfknldofjlaaGreatDoor
open Go.RowKit
set_option linter.unusedVariables false
set_option linter.unusedSimpArgs false
set_option maxRecDepth 100000

def ix (l : List (List Int)) (x : List Int) : Option Nat := l.findIdx? fun y => decide (y = x)
def ixI (l : List (List Int)) (x : List Int) : Int := match ix l x with
  | some i => i
  | none => -1
theorem ix_none {l : List (List Int)} {x : List Int} (h : ∀ m y, m < l.length → l[m]? = some y → y ≠ x) : ix l x = none := by
  unfold ix
  rw [List.findIdx?_eq_none_iff]
  intro y hy
  obtain ⟨m, hm, rfl⟩ := List.mem_iff_getElem.1 hy
  exact decide_eq_false (h m _ hm (List.getElem?_eq_getElem hm))
theorem ix_some {l : List (List Int)} {x : List Int} {j : Nat} (h : ∀ m y, m < j → l[m]? = some y → y ≠ x) (hj : l[j]? = some x) : ix l x = some j := by
  unfold ix
  obtain ⟨hl, e⟩ := List.getElem?_eq_some_iff.1 hj
  rw [List.findIdx?_eq_some_iff_getElem]
  refine ⟨hl, by simp [e], fun m hm => ?_⟩
  have := h m _ hm (List.getElem?_eq_getElem (by omega))
  simpa using this
theorem ixI_none {l : List (List Int)} {x : List Int} (h : ix l x = none) : ixI l x = -1 := by unfold ixI; rw [h]
theorem ixI_some {l : List (List Int)} {x : List Int} {j : Nat} (h : ix l x = some j) : ixI l x = j := by unfold ixI; rw [h]
theorem ix_mem {l : List (List Int)} {x : List Int} : ix l x = none ↔ x ∉ l := by
  unfold ix
  rw [List.findIdx?_eq_none_iff]
  exact ⟨fun h hx => by have := h x hx; simp at this, fun h y hy => decide_eq_false (fun e => h (e ▸ hy))⟩
theorem ix_at {l : List (List Int)} {x : List Int} {j : Nat} (h : ix l x = some j) : l[j]? = some x ∧ ∀ m y, m < j → l[m]? = some y → y ≠ x := by
  unfold ix at h
  rw [List.findIdx?_eq_some_iff_getElem] at h
  obtain ⟨hl, e, hm⟩ := h
  refine ⟨by rw [List.getElem?_eq_getElem hl]; simpa using e, fun m y hy he => ?_⟩
  have := hm m hy
  rw [List.getElem?_eq_getElem (by omega)] at he
  simp only [Option.some.injEq] at he
  rw [← he]
  simpa using this

theorem LRow.len9 {w : World} {a : Option Addr} {c k : Nat} {rs : List (List Fl)} (h : LRow w a c k rs) : rs.length ≤ 9223372036854775807 := by have h1 := h.cap; have h2 := h.most; unfold maxLen at h2; omega


/-- A name's meaning that nobody declared. -/
def zM : Value := .agg #[.int .i64 0, .slice none 0 0]
def Rm (v : Value) : Option (DataW Value × List MemPlace) := some (.held v, [])
def kLit (s : List Int) : Lit := .string (strOfNums s).data.toList
/-- Every byte is one. -/
def Bt (l : List Int) : Prop := ∀ x ∈ l, 0 ≤ x ∧ x ≤ 255

theorem kLit_inj {s t : List Int} (hs : Bt s) (ht : Bt t) (h : kLit s = kLit t) : s = t := by
  unfold kLit at h
  simp only [Lit.string.injEq] at h
  refine (str_inj hs ht).1 ?_
  cases hx : strOfNums s
  cases hy : strOfNums t
  rw [hx, hy] at h
  simpa using h

/-- The block b is the map: under each name stands what f says; k: how often it was written at most. -/
structure NM (w : World) (b k : Nat) (f : List Int → Value) : Prop where
  ex : ∃ D : DataW Value, w.ownsMap Tryz.prog 9 Rm b k D ∧ Maps.IsMap D ∧ ∀ s, Bt s → D.atKey (kLit s) (.held zM) = .held (f s)

def upd (f : List Int → Value) (s : List Int) (v : Value) : List Int → Value := fun t => if t = s then v else f t

theorem NM.made (w : World) : NM (w.alloc (.map #[] 0)) w.heap.size 0 (fun _ => zM) :=
  ⟨⟨.map [], World.ownsMap_made w _ _ _, Maps.isMap_empty, fun s _ => rfl⟩⟩
theorem NM.kept {w w' : World} {b k : Nat} {f : List Int → Value} {row : Option Nat} (h : NM w b k f) (hg : w.grownBy w' row) (hne : some b ≠ row) : NM w' b k f := by
  obtain ⟨D, h1, h2, h3⟩ := h.ex
  exact ⟨⟨D, h1.kept hg hne, h2, h3⟩⟩
theorem NM.lt {w : World} {b k : Nat} {f : List Int → Value} (h : NM w b k f) : b < w.heap.size := by
  obtain ⟨D, h1, _⟩ := h.ex
  exact h1.lt
theorem NM.below {w w' : World} {b k : Nat} {f : List Int → Value} (h : NM w b k f) (hb : Below w.heap.size w w') : NM w' b k f := h.kept (row := none) ⟨hb.os, hb.tape, hb.output, hb.size, fun i hi _ => hb.block i hi⟩ (by simp)

theorem keyOf_nums {s : List Int} (hs : s.length ≤ maxLen) : keyOf Tryz.prog 9 (.string (strOfNums s)) = some (kLit s) := by
  exact WideMaps.keyOf_string_mk Tryz.underlying9 (by rw [strOfNums_size]; exact hs)

theorem NM.lookup {w : World} {b k : Nat} {f : List Int → Value} (h : NM w b k f) {s : List Int} (hs : Bt s) (hl : s.length ≤ maxLen) : (Instr.lookup 44 (.map (some b)) (.string (strOfNums s)) false).run Tryz.prog w = .ok (f s) w := by
  obtain ⟨D, h1, _, h3⟩ := h.ex
  obtain ⟨v, ps, hrun, hv⟩ := h1.lookup (t := 44) (e := 80) (Maps.string_keyed Tryz.underlying9) Tryz.underlying44 (z := zM) (Tryz.zeroValue80 w) (zd := .held zM) (zp := []) rfl (keyOf_nums hl)
  have e : v = f s := by
    unfold Rm at hv
    simp only [Option.some.injEq, Prod.mk.injEq] at hv
    have := hv.1.trans (h3 s hs)
    simpa using this
  rw [e] at hrun
  exact hrun

theorem NM.put {w' : World} {b k : Nat} {f : List Int → Value} {D : DataW Value} {s : List Int} {v : Value} (h2 : Maps.IsMap D) (h3 : ∀ s, Bt s → D.atKey (kLit s) (.held zM) = .held (f s)) (hs : Bt s) (h : w'.ownsMap Tryz.prog 9 Rm b k (D.put (kLit s) (.held v))) : NM w' b k (upd f s v) := by
  refine ⟨⟨_, h, h2.put _ _, fun t ht => ?_⟩⟩
  unfold upd
  by_cases e : t = s
  · subst e
    rw [if_pos rfl]
    exact Maps.atKey_put_same h2 (by unfold kLit; trivial) _ _
  · rw [if_neg e, Maps.atKey_put_other (fun e2 => e (kLit_inj ht hs e2))]
    exact h3 t ht
theorem NM.del {w' : World} {b k : Nat} {f : List Int → Value} {D : DataW Value} {s : List Int} (h2 : Maps.IsMap D) (h3 : ∀ s, Bt s → D.atKey (kLit s) (.held zM) = .held (f s)) (hs : Bt s) (h : w'.ownsMap Tryz.prog 9 Rm b k (D.del (kLit s))) : NM w' b k (upd f s zM) := by
  refine ⟨⟨_, h, h2.del _, fun t ht => ?_⟩⟩
  unfold upd
  by_cases e : t = s
  · subst e
    rw [if_pos rfl]
    exact Maps.atKey_del_same _
  · rw [if_neg e, Maps.atKey_del_other (fun e2 => e (kLit_inj ht hs e2))]
    exact h3 t ht

/-- n[s] = v, as the walk meets it. -/
theorem wpList_putN {w : World} {ops : Array Oper} {rest : List Oper} {o : Oper} {a : Act} {Q : Exit → Act → World → Prop} {b k : Nat} {f : List Int → Value} (hgd : o.guard = none) (m x v : Operand) (ho : o.op = .mapUpdate 44 m x v)
    (h : NM w b k f) (hk : k < maxLen) (s : List Int) (val : Value) (hm : a.eval m = .map (some b)) (hx : a.eval x = .string (strOfNums s)) (hv : a.eval v = val) (hs : Bt s) (hl : s.length ≤ maxLen)
    (hK : ∀ w', NM w' b (k + 1) (upd f s val) → w.grownBy w' (some b) → wpList Tryz.prog ops Q rest (a.put o.dst undef) w') : wpList Tryz.prog ops Q (o :: rest) a w := by
  obtain ⟨D, h1, h2, h3⟩ := h.ex
  exact wpList_mapUpdate_own w hgd m x v 44 ho 9 80 (Maps.string_keyed Tryz.underlying9) Tryz.underlying44 Rm b k D hm h1 hk _ val _ hx hv (keyOf_nums hl) (.held val) [] rfl (fun w' h' hg => hK w' (NM.put h2 h3 hs h') hg)
/-- delete(n, s), as the walk meets it. -/
theorem wpList_delN {w : World} {ops : Array Oper} {rest : List Oper} {o : Oper} {a : Act} {Q : Exit → Act → World → Prop} {b k : Nat} {f : List Int → Value} (hgd : o.guard = none) (m x : Operand) (ho : o.op = .call { callee := .builtin .delete, args := #[m, x], argTypes := #[44, 9] })
    (h : NM w b k f) (s : List Int) (hm : a.eval m = .map (some b)) (hx : a.eval x = .string (strOfNums s)) (hs : Bt s) (hl : s.length ≤ maxLen)
    (hK : ∀ w', NM w' b k (upd f s zM) → w.grownBy w' (some b) → wpList Tryz.prog ops Q rest (a.put o.dst (.tuple #[])) w') : wpList Tryz.prog ops Q (o :: rest) a w := by
  obtain ⟨D, h1, h2, h3⟩ := h.ex
  exact wpList_delete_own w hgd m x 44 9 ho 80 (Maps.string_keyed Tryz.underlying9) Tryz.underlying44 Rm b k D hm h1 _ _ hx (keyOf_nums hl) (fun w' h' hg => hK w' (NM.del h2 h3 hs h') hg.grown)

def tI (b : Bool) : Int := if b then 1 else 0
def kindsP (ps : List Pa) : List Int := ps.map fun a => tI a.arr
theorem kindsP_next {ps : List Pa} {j : Nat} {x : Pa} (h : ps[j]? = some x) : kindsP (ps.take (j + 1)) = kindsP (ps.take j) ++ [tI x.arr] := by
  obtain ⟨hj, rfl⟩ := List.getElem?_eq_some_iff.1 h
  unfold kindsP
  rw [List.take_succ_eq_append_getElem hj, List.map_append]
  rfl
theorem kindsP_int (ps : List Pa) : isI (kindsP ps) := by
  intro x hx
  obtain ⟨a, _, rfl⟩ := List.mem_map.1 hx
  unfold tI
  split <;> omega

theorem truthC (x : Bool) (w : World) : Calls Tryz.prog 77 #[.bool x] w fun e w' => e = .returned (.int .i64 (tI x)) ∧ w' = w := by
  cases x <;> (go_enter Tryz.func77, Tryz.ntmps77; go_wp2; go_ret; exact ⟨rfl, rfl⟩)


theorem wpList_appendI {w : World} {ops : Array Oper} {rest : List Oper} {o : Oper} {a : Act} {Q : Exit → Act → World → Prop} (hgd : o.guard = none) (s x : Operand)
    (ho : o.op = .call { callee := .builtin .append, args := #[s, x], argTypes := #[78, 78] })
    (base : Nat) (v : Value) (n : Nat) (l : List Int) (hs : a.eval s = v) (hown : w.ownsRow base 3 1 v n (iV l))
    (g : Nat) (z : Int) (hx : a.eval x = .slice (some ⟨g, 0, none⟩) 1 1) (hc : w.cell? ⟨g, 0, none⟩ = some (.int .i64 z)) (hsz : n ≤ 1099511627776) (hbase : base ≤ w.heap.size)
    (h : ∀ v' w', w'.ownsRow base 3 1 v' (n + 1) (iV (l ++ [z])) → w.grownBy w' v.ownBlock → wpList Tryz.prog ops Q rest (a.put o.dst v') w') : wpList Tryz.prog ops Q (o :: rest) a w := by
  obtain ⟨i0, hi, hz0, hz1, hz2⟩ := info_parts info3
  refine wpList_append_own w hgd s x 78 ho base 3 i0 (.int .i64 0) 1 8 Tryz.underlying78 hi hz0 hz1 hz2 rfl (by decide) v n _ hs hown ⟨g, 0, none⟩ 1 1 [.int .i64 z] hx rfl ?_ (by simp [Value.oneCell']) (by unfold maxLen; omega) (by omega) hbase ?_
  · intro j u hu
    match j, hu with
    | 0, hu => simp at hu; subst hu; exact hc
    | j + 1, hu => simp at hu
  · intro v' w' ho' hg' _
    exact h v' w' (by simpa [iV] using ho') hg'

set_option maxHeartbeats 2000000 in
theorem kindsC (ps : List Pa) (a : Option Addr) (n c : Nat) (w : World) (hl : ps.length = n) (h : LRow w a c 2 (ps.map Pa.fl)) (hn : n ≤ 1048576) :
    Calls Tryz.prog 67 #[.slice a n c] w fun e w' => ∃ v, e = .returned v ∧ Ob w' 3 w.heap.size w'.heap.size v n (iV (kindsP ps)) ∧ Below w.heap.size w w' := by
  have HL : Hid (ps.length = n) := hl
  have HR : Hid (LRow w a c 2 (ps.map Pa.fl)) := h
  clear hl h
  go_enter Tryz.func67, Tryz.ntmps67
  go_wp2_with fail
  go_loopw [3, 8] (fun kv i wr => ∃ j : Nat, j ≤ n ∧ i = .int .i64 j ∧ Hid (wr.ownsRow w.heap.size 3 1 kv j (iV (kindsP (ps.take j)))) ∧ Hid (Below w.heap.size w wr)) (fun _ i _ => n - (intOf i).toNat)
  case atStart => exact ⟨0, Nat.zero_le _, rfl, World.ownsRow_nil _ _ _ _, Below.refl _ _⟩
  case round =>
    obtain ⟨j, hj, rfl, ho, hb⟩ := hrel
    obtain ⟨a3, c3, rfl, _, _, _, _⟩ := owns_shape ho.out
    by_cases hlt : j < n
    · obtain ⟨x, hx⟩ : ∃ x, ps[j]? = some x := ⟨_, List.getElem?_eq_getElem (by rw [HL.out]; exact hlt)⟩
      obtain ⟨bx, offx, rfl⟩ := LRow.addr HR.out (by rw [List.length_map, HL.out]; omega)
      obtain ⟨vs, hvs, hcl⟩ := (LRow.el HR.out (show (ps.map Pa.fl)[j]? = some x.fl by rw [List.getElem?_map, hx]; rfl)).vals
      obtain ⟨y0, us, rfl, ⟨ax, cx, rfl, _⟩, y1, us1, rfl, rfl, rfl⟩ := hvs
      have r0 := cell_on (hcl 0 _ rfl) hb.out
      have r1 := cell_on (hcl 1 _ rfl) hb.out
      rw [Nat.add_zero] at r0
      have HK : Hid (kindsP (ps.take (j + 1)) = kindsP (ps.take j) ++ [tI x.arr]) := kindsP_next hx
      have x1 := Blk.new wr 98 [.slice ax x.name.length cx, .bool x.arr]
      have HO : Hid ((wr.alloc (.cells #[.slice ax x.name.length cx, .bool x.arr] 98 (0, 0))).ownsRow w.heap.size 3 1 (.slice a3 j c3) j (iV (kindsP (ps.take j)))) := ho.out.alloc _
      have HB : Hid (Below w.heap.size w (wr.alloc (.cells #[.slice ax x.name.length cx, .bool x.arr] 98 (0, 0)))) := hb.out.alloc hb.out.size _
      simp only [List.toArray] at x1
      clear hcl hx ho hb
      go_upto_region 5 with fail
      generalize wr.alloc (.cells #[.slice ax x.name.length cx, .bool x.arr] 98 (0, 0)) = w1 at *
      have q1 := x1.cell (i := 1) rfl
      have HT := truthC x.arr w1
      have hw1 := HB.out.size
      have hc1 : (w1.alloc (.cells #[.int .i64 (tI x.arr)] 3)).cell? ⟨w1.heap.size, 0, none⟩ = some (.int .i64 (tI x.arr)) := by simp
      have HO2 : Hid ((w1.alloc (.cells #[.int .i64 (tI x.arr)] 3)).ownsRow w.heap.size 3 1 (.slice a3 j c3) j (iV (kindsP (ps.take j)))) := HO.out.alloc _
      have HB2 : Hid (Below w.heap.size w (w1.alloc (.cells #[.int .i64 (tI x.arr)] 3))) := HB.out.alloc hw1 _
      clear HO HB
      go_wp2_with fail
      refine HT.mono ?_
      rintro e w2 ⟨rfl, rfl⟩
      go_wp2_with (at_builtin; refine wpList_appendI rfl _ _ rfl w.heap.size _ j _ rfl HO2.out w2.heap.size (tI x.arr) rfl hc1 (by omega) (by simp; omega) ?_)
      intro v3 w3 ho3 hg3
      have HO3 : Hid (w3.ownsRow w.heap.size 3 1 v3 (j + 1) (iV (kindsP (ps.take (j + 1))))) := by rw [HK.out]; exact ho3
      have HB3 : Hid (Below w.heap.size w w3) := HB2.out.grown hg3 HB2.out.size (fun k hk => (HO2.out.lt k hk).1)
      clear HO2 HB2 ho3 hg3 HT r0 r1 q1 hc1 hw1
      go_wp2_with fail
      go_roundw
      case rel => exact ⟨j + 1, by omega, by go_num, HO3, HB3⟩
      case measure => simp [intOf]; omega
    · have : n = j := by omega
      subst this
      have hO := ho.out
      rw [List.take_of_length_le (by rw [HL.out]; exact Nat.le_refl _)] at hO
      go_wp2_with fail
      go_ret
      exact ⟨_, rfl, ⟨hO, fun k hk => (hO.lt k hk).2⟩, hb.out⟩


/-- What a name stands for: a sort, and kinds. -/
abbrev Mn := Int × List Int
def updG (g : List Int → Mn) (x : List Int) (v : Mn) : List Int → Mn := fun t => if t = x then v else g t
def stG (g : List Int → Mn) (l : List (List Int × Mn)) : List Int → Mn := l.foldl (fun g p => updG g p.1 p.2) g
theorem stG_next {g : List Int → Mn} {l : List (List Int × Mn)} {j : Nat} {p : List Int × Mn} (h : l[j]? = some p) : stG g (l.take (j + 1)) = updG (stG g (l.take j)) p.1 p.2 := by
  obtain ⟨hj, rfl⟩ := List.getElem?_eq_some_iff.1 h
  unfold stG
  rw [List.take_succ_eq_append_getElem hj, List.foldl_append]
  rfl
/-- The j-th name may be declared, those ahead being so. -/
def freeG (g : List Int → Mn) (l : List (List Int × Mn)) (j : Nat) : Bool := decide ((stG g (l.take j) (l[j]?.getD ([], (0, []))).1).1 = 0)
def okG (g : List Int → Mn) (l : List (List Int × Mn)) : Bool := (List.range l.length).all (freeG g l)

theorem cell_map {w : World} {b o : Nat} {es : Array MapEntry} {c : Nat} (h : w.heap[b]? = some (.map es c)) : w.cell? ⟨b, o, none⟩ = none := by
  unfold World.cell?
  simp [h]

/-- The value reads as this meaning. -/
def MnR (w : World) (v : Value) (s : Mn) : Prop := ∃ kv, v = .agg #[.int .i64 s.1, kv] ∧ (Fl.i s.2).Rd w kv
theorem MnR.below {w w' : World} {v : Value} {s : Mn} (h : MnR w v s) (hb : Below w.heap.size w w') : MnR w' v s := by
  obtain ⟨kv, e, h1⟩ := h
  exact ⟨kv, e, h1.below hb⟩
/-- .. also where a map was written. -/
theorem MnR.turn {w w' : World} {b k : Nat} {f : List Int → Value} {v : Value} {s : Mn} (h : MnR w v s) (hm : NM w b k f) (hg : w.grownBy w' (some b)) : MnR w' v s := by
  obtain ⟨kv, e, a, c, rfl, ⟨h1, h2, h3⟩, r⟩ := h
  refine ⟨_, e, a, c, rfl, ⟨h1, h2, fun hn => ?_⟩, r⟩
  obtain ⟨bx, off, rfl, hc⟩ := h3 hn
  refine ⟨bx, off, rfl, fun i hi => ?_⟩
  have hx := hc i hi
  obtain ⟨D, ⟨es, cl, hb, _⟩, _⟩ := hm.ex
  have hne : bx ≠ b := fun e => by rw [e, cell_map hb] at hx; cases hx
  have hlt : bx < w.heap.size := World.block_lt_of_cell? w _ hx
  have := hg.block bx hlt (by simpa using hne)
  unfold World.cell? at hx ⊢
  simp only at hx ⊢
  rw [this]
  exact hx

/-- The map of names, as it is meant. -/
structure NT (w : World) (b k : Nat) (g : List Int → Mn) : Prop where
  ex : ∃ f, NM w b k f ∧ ∀ s, Bt s → MnR w (f s) (g s)
theorem NT.lt {w : World} {b k : Nat} {g : List Int → Mn} (h : NT w b k g) : b < w.heap.size := by obtain ⟨f, h1, _⟩ := h.ex; exact h1.lt
theorem NT.below {w w' : World} {b k : Nat} {g : List Int → Mn} (h : NT w b k g) (hb : Below w.heap.size w w') : NT w' b k g := by
  obtain ⟨f, h1, h2⟩ := h.ex
  exact ⟨⟨f, h1.below hb, fun s hs => (h2 s hs).below hb⟩⟩
theorem NT.grown {w w' : World} {b k : Nat} {g : List Int → Mn} (h : NT w b k g) (hg : w.grownBy w' none) : NT w' b k g := h.below (below_grown hg)
theorem NT.made (w : World) : NT (w.alloc (.map #[] 0)) w.heap.size 0 (fun _ => (0, [])) :=
  ⟨⟨_, NM.made w, fun s _ => ⟨.slice none 0 0, rfl, none, 0, rfl, ⟨rfl, by simp, by simp⟩, by simp, by simp, fun _ => rfl⟩⟩⟩
theorem NT.put {w w' : World} {b k k' : Nat} {g : List Int → Mn} {f : List Int → Value} {s : List Int} {v : Value} {mn : Mn} (h1 : NM w b k f) (h2 : ∀ s, Bt s → MnR w (f s) (g s)) (h' : NM w' b k' (upd f s v)) (hg : w.grownBy w' (some b)) (hv : MnR w v mn) : NT w' b k' (updG g s mn) := by
  refine ⟨⟨_, h', fun t ht => ?_⟩⟩
  unfold upd updG
  by_cases e : t = s
  · rw [if_pos e, if_pos e]; exact hv.turn h1 hg
  · rw [if_neg e, if_neg e]; exact (h2 t ht).turn h1 hg

def vaMn (v : Va) : Mn := (if v.size = 0 then 1 else 2, [])
def paMn (a : Pa) : Mn := (if a.arr then 2 else 1, [])
def prMn (q : Pr) : Mn := (3, kindsP q.params)
theorem nil_rd (w : World) : (Fl.i []).Rd w (.slice none 0 0) := ⟨none, 0, rfl, ⟨rfl, by simp, by simp⟩, by simp, by simp, fun _ => rfl⟩

/-- A meaning that was made, in two cells. -/
theorem cellsM {w : World} {g : Nat} {x y : Value} : Blk w g 80 [.int .i64 0, .slice none 0 0] → Blk ((w.setCell ⟨g, 0, none⟩ x).setCell ⟨g, 1, none⟩ y) g 80 [x, y] := fun h => (h.set (i := 0) x).set (i := 1) y

set_option maxHeartbeats 2000000 in
theorem varMeaning (v : Va) (vs : List Value) (w : World) (h : RdVals w v.fl vs) :
    Calls Tryz.prog 32 #[agg vs] w fun e w' => e = .returned (.agg #[.int .i64 (vaMn v).1, .slice none 0 0]) ∧ Below w.heap.size w w' := by
  obtain ⟨v0, _, rfl, _, v1, _, rfl, rfl, rfl⟩ := h
  have x0 := (Blk.new w 59 [v0, .int .i64 v.size]).old (o := .cells #[.int .i64 0, .slice none 0 0] 80 (0, 0))
  have z0 := Blk.new (w.alloc (.cells #[v0, .int .i64 v.size] 59 (0, 0))) 80 [.int .i64 0, .slice none 0 0]
  have hg : (w.alloc (.cells #[v0, .int .i64 v.size] 59 (0, 0))).heap.size = w.heap.size + 1 := by simp
  have y0 : Below w.heap.size w ((w.alloc (.cells #[v0, .int .i64 v.size] 59 (0, 0))).alloc (.cells #[.int .i64 0, .slice none 0 0] 80 (0, 0))) := ((Below.refl _ _).alloc (Nat.le_refl _) _).alloc (by simp) _
  simp only [List.toArray] at x0 z0
  rw [hg] at z0
  clear hg
  simp only [agg]
  go_enter Tryz.func32, Tryz.ntmps32
  go_upto_region 1 with fail
  generalize (w.alloc (.cells #[v0, .int .i64 v.size] 59 (0, 0))).alloc (.cells #[.int .i64 0, .slice none 0 0] 80 (0, 0)) = w1 at *
  have k1 := x0.cell (i := 1) rfl
  have d0 := z0.cell (i := 0) rfl
  have d1 := z0.cell (i := 1) rfl
  have f0 := z0.free 0
  have f1 := z0.free 1
  by_cases hs : v.size = 0
  · have HE : Hid ((vaMn v).1 = 1) := if_pos hs
    rw [hs] at k1
    have z9 := cellsM (x := .int .i64 1) (y := .slice none 0 0) z0
    have y9 : Below w.heap.size w ((w1.setCell ⟨w.heap.size + 1, 0, none⟩ (.int .i64 1)).setCell ⟨w.heap.size + 1, 1, none⟩ (.slice none 0 0)) := (y0.setCell (Nat.le_succ _) _).setCell (Nat.le_succ _) _
    clear hs
    go_wp2_with fail
    generalize (w1.setCell ⟨w.heap.size + 1, 0, none⟩ (.int .i64 1)).setCell ⟨w.heap.size + 1, 1, none⟩ (.slice none 0 0) = w9 at *
    have e0 := z9.cell (i := 0) rfl
    have e1 := z9.cell (i := 1) rfl
    refine bodyPost_ret (v := .agg #[.int .i64 1, .slice none 0 0]) (by simp only [results, Tryz.results32]; simp [go_sem, e0, e1]) rfl ⟨by rw [HE.out], y9⟩
  · have HE : Hid ((vaMn v).1 = 2) := if_neg hs
    have hsb : (v.size == 0) = false := by simpa using hs
    have z9 := cellsM (x := .int .i64 2) (y := .slice none 0 0) z0
    have y9 : Below w.heap.size w ((w1.setCell ⟨w.heap.size + 1, 0, none⟩ (.int .i64 2)).setCell ⟨w.heap.size + 1, 1, none⟩ (.slice none 0 0)) := (y0.setCell (Nat.le_succ _) _).setCell (Nat.le_succ _) _
    clear hs
    go_wp2_with fail
    generalize (w1.setCell ⟨w.heap.size + 1, 0, none⟩ (.int .i64 2)).setCell ⟨w.heap.size + 1, 1, none⟩ (.slice none 0 0) = w9 at *
    have e0 := z9.cell (i := 0) rfl
    have e1 := z9.cell (i := 1) rfl
    refine bodyPost_ret (v := .agg #[.int .i64 2, .slice none 0 0]) (by simp only [results, Tryz.results32]; simp [go_sem, e0, e1]) rfl ⟨by rw [HE.out], y9⟩

set_option maxHeartbeats 2000000 in
theorem parMeaning (a : Pa) (vs : List Value) (w : World) (h : RdVals w a.fl vs) :
    Calls Tryz.prog 70 #[agg vs] w fun e w' => e = .returned (.agg #[.int .i64 (paMn a).1, .slice none 0 0]) ∧ Below w.heap.size w w' := by
  obtain ⟨v0, _, rfl, _, v1, _, rfl, rfl, rfl⟩ := h
  have x0 := (Blk.new w 98 [v0, .bool a.arr]).old (o := .cells #[.int .i64 0, .slice none 0 0] 80 (0, 0))
  have z0 := Blk.new (w.alloc (.cells #[v0, .bool a.arr] 98 (0, 0))) 80 [.int .i64 0, .slice none 0 0]
  have hg : (w.alloc (.cells #[v0, .bool a.arr] 98 (0, 0))).heap.size = w.heap.size + 1 := by simp
  have y0 : Below w.heap.size w ((w.alloc (.cells #[v0, .bool a.arr] 98 (0, 0))).alloc (.cells #[.int .i64 0, .slice none 0 0] 80 (0, 0))) := ((Below.refl _ _).alloc (Nat.le_refl _) _).alloc (by simp) _
  simp only [List.toArray] at x0 z0
  rw [hg] at z0
  clear hg
  simp only [agg]
  go_enter Tryz.func70, Tryz.ntmps70
  go_upto_region 1 with fail
  generalize (w.alloc (.cells #[v0, .bool a.arr] 98 (0, 0))).alloc (.cells #[.int .i64 0, .slice none 0 0] 80 (0, 0)) = w1 at *
  have k1 := x0.cell (i := 1) rfl
  have d0 := z0.cell (i := 0) rfl
  have d1 := z0.cell (i := 1) rfl
  have f0 := z0.free 0
  have f1 := z0.free 1
  cases hs : a.arr
  · have HE : Hid ((paMn a).1 = 1) := by show _ = _; unfold paMn; rw [hs]; rfl
    rw [hs] at k1
    have z9 := cellsM (x := .int .i64 1) (y := .slice none 0 0) z0
    have y9 : Below w.heap.size w ((w1.setCell ⟨w.heap.size + 1, 0, none⟩ (.int .i64 1)).setCell ⟨w.heap.size + 1, 1, none⟩ (.slice none 0 0)) := (y0.setCell (Nat.le_succ _) _).setCell (Nat.le_succ _) _
    clear hs
    go_wp2_with fail
    generalize (w1.setCell ⟨w.heap.size + 1, 0, none⟩ (.int .i64 1)).setCell ⟨w.heap.size + 1, 1, none⟩ (.slice none 0 0) = w9 at *
    have e0 := z9.cell (i := 0) rfl
    have e1 := z9.cell (i := 1) rfl
    refine bodyPost_ret (v := .agg #[.int .i64 1, .slice none 0 0]) (by simp only [results, Tryz.results70]; simp [go_sem, e0, e1]) rfl ⟨by rw [HE.out], y9⟩
  · have HE : Hid ((paMn a).1 = 2) := by show _ = _; unfold paMn; rw [hs]; rfl
    rw [hs] at k1
    have z9 := cellsM (x := .int .i64 2) (y := .slice none 0 0) z0
    have y9 : Below w.heap.size w ((w1.setCell ⟨w.heap.size + 1, 0, none⟩ (.int .i64 2)).setCell ⟨w.heap.size + 1, 1, none⟩ (.slice none 0 0)) := (y0.setCell (Nat.le_succ _) _).setCell (Nat.le_succ _) _
    clear hs
    go_wp2_with fail
    generalize (w1.setCell ⟨w.heap.size + 1, 0, none⟩ (.int .i64 2)).setCell ⟨w.heap.size + 1, 1, none⟩ (.slice none 0 0) = w9 at *
    have e0 := z9.cell (i := 0) rfl
    have e1 := z9.cell (i := 1) rfl
    refine bodyPost_ret (v := .agg #[.int .i64 2, .slice none 0 0]) (by simp only [results, Tryz.results70]; simp [go_sem, e0, e1]) rfl ⟨by rw [HE.out], y9⟩

set_option maxHeartbeats 2000000 in
theorem procMeaning (q : Pr) (vs : List Value) (w : World) (h : RdVals w q.fl vs) (hn : q.params.length ≤ 1048576) :
    Calls Tryz.prog 35 #[agg vs] w fun e w' => ∃ kv, e = .returned (.agg #[.int .i64 3, kv]) ∧ (Fl.i (kindsP q.params)).Rd w' kv ∧ Below w.heap.size w w' := by
  obtain ⟨v0, _, rfl, _, v1, _, rfl, _, v2, _, rfl, h2, v3, _, rfl, _, v4, _, rfl, _, rfl⟩ := h
  obtain ⟨ap, cp, rfl, hP⟩ := h2.list
  rw [List.length_map]
  obtain ⟨np, hnp⟩ : ∃ z, z = q.params.length := ⟨_, rfl⟩
  have HNP : Hid (q.params.length = np) := hnp.symm
  rw [← hnp] at hn ⊢
  have HP : Hid (LRow w ap cp 2 (q.params.map Pa.fl)) := hP
  clear hP h2 hnp
  have x0 := (Blk.new w 64 [v0, v1, .slice ap np cp, v3, v4]).old (o := .cells #[.int .i64 0, .slice none 0 0] 80 (0, 0))
  have z0 := Blk.new (w.alloc (.cells #[v0, v1, .slice ap np cp, v3, v4] 64 (0, 0))) 80 [.int .i64 0, .slice none 0 0]
  have hg : (w.alloc (.cells #[v0, v1, .slice ap np cp, v3, v4] 64 (0, 0))).heap.size = w.heap.size + 1 := by simp
  have y0 : Below w.heap.size w ((w.alloc (.cells #[v0, v1, .slice ap np cp, v3, v4] 64 (0, 0))).alloc (.cells #[.int .i64 0, .slice none 0 0] 80 (0, 0))) := ((Below.refl _ _).alloc (Nat.le_refl _) _).alloc (by simp) _
  simp only [List.toArray] at x0 z0
  rw [hg] at z0
  clear hg
  simp only [agg]
  go_enter Tryz.func35, Tryz.ntmps35
  go_upto_region 1 with fail
  generalize (w.alloc (.cells #[v0, v1, .slice ap np cp, v3, v4] 64 (0, 0))).alloc (.cells #[.int .i64 0, .slice none 0 0] 80 (0, 0)) = w1 at *
  have k2 := x0.cell (i := 2) rfl
  have H1 := kindsC q.params ap np cp w1 HNP.out (LRow.below HP.out y0) hn
  go_wp2_with fail
  refine H1.mono ?_
  rintro e w2 ⟨kv, rfl, ho, hb⟩
  have z2 := z0.below hb z0.lt
  have y2 : Below w.heap.size w w2 := y0.trans (hb.mono y0.size)
  have hkl : (kindsP q.params).length = np := by unfold kindsP; rw [List.length_map, HNP.out]
  have hrd : (Fl.i (kindsP q.params)).Rd w2 kv := Ob.irow (l := kindsP q.params) (by rw [hkl]; exact ho) (kindsP_int _)
  obtain ⟨ak, ck, rfl, _, _, _, _⟩ := owns_shape ho.own
  clear H1 x0 z0 y0 k2
  have d0 := z2.cell (i := 0) rfl
  have d1 := z2.cell (i := 1) rfl
  have f0 := z2.free 0
  have f1 := z2.free 1
  have z9 := cellsM (x := .int .i64 3) (y := .slice ak np ck) z2
  have y9 : Below w.heap.size w ((w2.setCell ⟨w.heap.size + 1, 0, none⟩ (.int .i64 3)).setCell ⟨w.heap.size + 1, 1, none⟩ (.slice ak np ck)) := (y2.setCell (Nat.le_succ _) _).setCell (Nat.le_succ _) _
  have hob2 : Ob ((w2.setCell ⟨w.heap.size + 1, 0, none⟩ (.int .i64 3)).setCell ⟨w.heap.size + 1, 1, none⟩ (.slice ak np ck)) 3 w1.heap.size w2.heap.size (.slice ak np ck) np (iV (kindsP q.params)) := ho.stays (fun g p1 p2 r => by
    obtain ⟨c, r⟩ := r
    have hne : g ≠ w.heap.size + 1 := fun e => by
      rw [e] at r
      have := (show w2.heap[w.heap.size + 1]? = _ from z2).symm.trans r
      simp only [Option.some.injEq, Obj.cells.injEq] at this
      exact absurd this.2.1 (by decide)
    exact (heap_setCell_other _ ⟨w.heap.size + 1, 1, none⟩ g _ hne).trans (heap_setCell_other w2 ⟨w.heap.size + 1, 0, none⟩ g _ hne))
  have HRD : Hid ((Fl.i (kindsP q.params)).Rd ((w2.setCell ⟨w.heap.size + 1, 0, none⟩ (.int .i64 3)).setCell ⟨w.heap.size + 1, 1, none⟩ (.slice ak np ck)) (.slice ak np ck)) := Ob.irow (l := kindsP q.params) (by rw [hkl]; exact hob2) (kindsP_int _)
  clear hob2 hrd ho
  go_wp2_with fail
  generalize (w2.setCell ⟨w.heap.size + 1, 0, none⟩ (.int .i64 3)).setCell ⟨w.heap.size + 1, 1, none⟩ (.slice ak np ck) = w9 at *
  have e0 := z9.cell (i := 0) rfl
  have e1 := z9.cell (i := 1) rfl
  refine bodyPost_ret (v := .agg #[.int .i64 3, .slice ak np ck]) (by simp only [results, Tryz.results35]; simp [go_sem, e0, e1]) rfl ⟨_, rfl, HRD.out, y9⟩

/-- What declare leaves. -/
structure Decl (w w' : World) (b k : Nat) (g : List Int → Mn) (x : List Int) (mn : Mn) : Prop where
  yes : (g x).1 = 0 → NT w' b (k + 1) (updG g x mn)
  no : (g x).1 ≠ 0 → NT w' b k g
  grown : w.grownBy w' (some b)

set_option maxHeartbeats 2000000 in
theorem declareC (w : World) (b k : Nat) (g : List Int → Mn) (h : NT w b k g) (hk : k < 1000000) (a : Option Addr) (n c : Nat) (x : List Int) (hx : BRow w a n x) (hn : n ≤ 1048576) (s : Int) (kv : Value) (ks : List Int) (hkv : (Fl.i ks).Rd w kv) :
    Calls Tryz.prog 31 #[.map (some b), .slice a n c, .agg #[.int .i64 s, kv]] w fun e w' => e = .returned (.bool (decide ((g x).1 = 0))) ∧ Decl w w' b k g x (s, ks) := by
  have hbt : Bt x := hx.2.1
  have hxl : x.length ≤ maxLen := by rw [hx.1]; unfold maxLen; omega
  have x0 := Blk.new w 80 [.int .i64 s, kv]
  have y0 := grown_alloc w (.cells #[.int .i64 s, kv] 80 (0, 0)) none
  have h1 := h.grown y0
  have hx1 := hx.below (below_grown y0)
  have hkv1 := hkv.below (below_grown y0)
  simp only [List.toArray] at x0
  clear h hx hkv
  go_enter Tryz.func31, Tryz.ntmps31
  go_upto_region 1 with fail
  generalize w.alloc (.cells #[.int .i64 s, kv] 80 (0, 0)) = w1 at *
  have HN : Hid (NT w1 b k g) := h1
  obtain ⟨f, hf1, hf2⟩ := h1.ex
  have kc := conv_bytes c hx1
  have hlk := hf1.lookup hbt hxl
  obtain ⟨_, ef, a0, c0, rfl, _⟩ := hf2 x hbt
  rw [ef] at hlk
  generalize (g x).2.length = n0 at *
  have hfd : ∀ (z : Int) (w : World), (Instr.field 80 (.agg #[.int .i64 z, .slice a0 n0 c0]) 0).run Tryz.prog w = .ok (.int .i64 z) w := fun z w => by kernel_rfl
  obtain ⟨ak, ck, rfl, hkr⟩ := hkv1
  have q0 := x0.cell (i := 0) rfl
  have q1 := x0.cell (i := 1) rfl
  have Y0 : Hid (w.grownBy w1 none) := y0
  by_cases hz : (g x).1 = 0
  · have HF : Hid (decide ((g x).1 = 0) = true) := decide_eq_true hz
    have HZ : Hid ((g x).1 = 0) := hz
    rw [hz] at hlk
    clear hz
    go_wp2_with (at_mapUpdate; refine wpList_putN rfl _ _ _ rfl hf1 (by unfold maxLen; omega) x (.agg #[.int .i64 s, .slice ak ks.length ck]) rfl rfl rfl hbt hxl ?_)
    intro w2 hN2 hg2
    have HD : Hid (Decl w w2 b k g x (s, ks)) := ⟨fun _ => NT.put hf1 hf2 hN2 hg2 ⟨_, rfl, ak, ck, rfl, hkr⟩, fun e => absurd HZ.out e, ⟨hg2.os.trans Y0.out.os, hg2.tape.trans Y0.out.tape, hg2.output.trans Y0.out.output, Nat.le_trans Y0.out.size hg2.size, fun i hi hne => (hg2.block i (Nat.lt_of_lt_of_le hi Y0.out.size) hne).trans (Y0.out.block i hi (by simp))⟩⟩
    clear hN2 hg2 hlk hf1 hf2 q0 q1 x0 hkr kc
    go_wp2_with fail
    go_ret
    exact ⟨ret_bool HF.out.symm, HD.out⟩
  · have HF : Hid (decide ((g x).1 = 0) = false) := decide_eq_false hz
    have hzb : ((g x).1 != 0) = true := by simpa using hz
    have HD : Hid (Decl w w1 b k g x (s, ks)) := ⟨fun e => absurd e hz, fun _ => HN.out, grown_any Y0.out _⟩
    clear hz hf1 hf2
    go_wp2_with fail
    go_ret
    exact ⟨ret_bool HF.out.symm, HD.out⟩

/-- A cell is no map's. -/
theorem NT.cell {w w' : World} {b k nb i : Nat} {g : List Int → Mn} {v : Value} (h : NT w b k g) (hc : w.cell? ⟨nb, i, none⟩ = some v) (hg : w.grownBy w' (some b)) : w'.cell? ⟨nb, i, none⟩ = some v := by
  obtain ⟨f, hm, _⟩ := h.ex
  obtain ⟨D, ⟨es, cl, hb, _⟩, _⟩ := hm.ex
  have hne : nb ≠ b := fun e => by rw [e, cell_map hb] at hc; cases hc
  have := hg.block nb (World.block_lt_of_cell? w _ hc) (by simpa using hne)
  unfold World.cell? at hc ⊢
  simp only at hc ⊢
  rw [this]
  exact hc
theorem below_map {w0 w w' : World} {b : Nat} (hb : Below w0.heap.size w0 w) (hg : w.grownBy w' (some b)) (h0 : w0.heap.size ≤ b) : Below w0.heap.size w0 w' := hb.grown hg hb.size (fun k hk => by cases hk; exact h0)
theorem grown_map {w w1 w' : World} {b : Nat} (hg : w.grownBy w1 none) (h : w1.grownBy w' (some b)) : w.grownBy w' (some b) := grown_trans (grown_any hg _) h
theorem Decl.from {w w1 w' : World} {b k : Nat} {g : List Int → Mn} {x : List Int} {mn : Mn} (hg : w.grownBy w1 none) (h : Decl w1 w' b k g x mn) : Decl w w' b k g x mn := ⟨h.yes, h.no, grown_map hg h.grown⟩

/-- What declaring a list of names by a closure asks. -/
theorem asksDecl (G nb b k : Nat) (g : List Int → Mn) (mkv : List Value → Value) (w0 : World) (a : Option Addr) (c K : Nat) (rs : List (List Fl)) (l : List (List Int × Mn)) (hlen : rs.length = l.length) (ent : Ent G) (each : ∀ r ∈ rs, r.length = K) (hL : LRow w0 a c K rs) (hb0 : w0.heap.size ≤ b) (hk : k + l.length ≤ 1000000)
    (HG : ∀ (j : Nat) (r : List Fl) (p : List Int × Mn) (wr : World) (vs : List Value) (g' : List Int → Mn) (k' : Nat), rs[j]? = some r → l[j]? = some p → Below w0.heap.size w0 wr → RdVals wr r vs → NT wr b k' g' → k' < 1000000 → wr.cell? ⟨nb, 0, none⟩ = some (.map (some b)) →
      Calls Tryz.prog G (#[mkv vs] ++ #[.pointer (some ⟨nb, 0, none⟩)]) wr fun e w' => e = .returned (.bool (decide ((g' p.1).1 = 0))) ∧ Decl wr w' b k' g' p.1 p.2) :
    Asks false G #[.pointer (some ⟨nb, 0, none⟩)] (some b) mkv a c K rs (freeG g l) (fun j wr => NT wr b (k + j) (stG g (l.take j)) ∧ wr.cell? ⟨nb, 0, none⟩ = some (.map (some b)) ∧ Below w0.heap.size w0 wr) (fun _ _ => True) := by
  refine ⟨ent, fun j wr hi => hL.below hi.2.2, each, ?_⟩
  rintro j r wr vs hr ⟨hN, hc, hb⟩ hvs _
  obtain ⟨p, hp⟩ : ∃ p, l[j]? = some p := ⟨_, List.getElem?_eq_getElem (by rw [← hlen]; exact (List.getElem?_eq_some_iff.1 hr).1)⟩
  have hj : j < l.length := (List.getElem?_eq_some_iff.1 hp).1
  refine (HG j r p wr vs _ _ hr hp hb hvs hN (by omega) hc).mono ?_
  rintro e w' ⟨rfl, hd⟩
  have ef : freeG g l j = decide ((stG g (l.take j) p.1).1 = 0) := by unfold freeG; rw [hp]; rfl
  refine ⟨by rw [ef], hd.grown, fun hyes => ?_, fun _ => trivial⟩
  rw [ef] at hyes
  have hz : (stG g (l.take j) p.1).1 = 0 := by simpa using hyes
  refine ⟨?_, hN.cell hc hd.grown, below_map hb hd.grown hb0⟩
  have := hd.yes hz
  rw [stG_next hp]
  exact this
/-- What comes of it. -/
theorem told_decl {n nb b k : Nat} {g : List Int → Mn} {w0 w' : World} {l : List (List Int × Mn)} {r : Bool} (hn : l.length = n)
    (h : Told false n (freeG g l) (fun j wr => NT wr b (k + j) (stG g (l.take j)) ∧ wr.cell? ⟨nb, 0, none⟩ = some (.map (some b)) ∧ Below w0.heap.size w0 wr) (fun _ _ => True) (!r) w') : r = okG g l ∧ (r = true → NT w' b (k + n) (stG g l)) := by
  refine ⟨?_, fun e => ?_⟩
  · unfold okG
    rw [hn]
    exact told_all h
  · have h2 := (h.no (by rw [e]; rfl)).2.1
    rw [List.take_of_length_le (by omega)] at h2
    exact h2
theorem decl_grow {b k nb : Nat} {g : List Int → Mn} {w0 : World} {l : List (List Int × Mn)} : ∀ j w w', (NT w b (k + j) (stG g (l.take j)) ∧ w.cell? ⟨nb, 0, none⟩ = some (.map (some b)) ∧ Below w0.heap.size w0 w) → w.grownBy w' none → (NT w' b (k + j) (stG g (l.take j)) ∧ w'.cell? ⟨nb, 0, none⟩ = some (.map (some b)) ∧ Below w0.heap.size w0 w') :=
  fun j w w' h hg => ⟨h.1.grown hg, cell_on h.2.1 (below_grown hg), h.2.2.trans ((below_grown hg).mono h.2.2.size)⟩

set_option maxHeartbeats 2000000 in
theorem dmVar (x : Va) (vs : List Value) (w : World) (b k nb : Nat) (g : List Int → Mn) (h : RdVals w x.fl vs) (hN : NT w b k g) (hk : k < 1000000) (hc : w.cell? ⟨nb, 0, none⟩ = some (.map (some b))) (hnl : x.name.length ≤ 1048576) :
    Calls Tryz.prog 30 #[agg vs, .pointer (some ⟨nb, 0, none⟩)] w fun e w' => e = .returned (.bool (decide ((g x.name).1 = 0))) ∧ Decl w w' b k g x.name (vaMn x) := by
  have hh := h
  obtain ⟨v0, _, rfl, ⟨ax, cx, rfl, hbx, _⟩, v1, _, rfl, _, rfl⟩ := hh
  have x0 := Blk.new w 59 [.slice ax x.name.length cx, v1]
  have y0 := grown_alloc w (.cells #[.slice ax x.name.length cx, v1] 59 (0, 0)) none
  have N1 := hN.grown y0
  have c1 := cell_on hc (below_grown y0)
  have HX : Hid (BRow (w.alloc (.cells #[.slice ax x.name.length cx, v1] 59 (0, 0))) ax x.name.length x.name) := hbx.below (below_grown y0)
  have hlt : w.heap.size < (w.alloc (.cells #[.slice ax x.name.length cx, v1] 59 (0, 0))).heap.size := x0.lt
  simp only [List.toArray] at x0
  simp only [agg] at h ⊢
  go_enter Tryz.func30, Tryz.ntmps30
  go_upto_region 1 with fail
  have hM : Calls Tryz.prog 32 #[.agg #[.slice ax x.name.length cx, v1]] (w.alloc (.cells #[.slice ax x.name.length cx, v1] 59 (0, 0))).drew _ := varMeaning x [.slice ax x.name.length cx, v1] (w.alloc (.cells #[.slice ax x.name.length cx, v1] 59 (0, 0))).drew (RdVals.below h ((below_grown y0).drew))
  generalize w.alloc (.cells #[.slice ax x.name.length cx, v1] 59 (0, 0)) = w1 at *
  have Y0 : Hid (w.grownBy w1 none) := y0
  have HN1 : Hid (NT w1 b k g) := N1
  clear hN N1 h hbx hc y0
  go_wp2_with fail
  have HS : ∀ {wl : World}, wl.cell? ⟨nb, 0, none⟩ = some (.map (some b)) → Blk wl w.heap.size 59 [.slice ax x.name.length cx, v1] → wl.cell? ⟨nb, 0, none⟩ = some (.map (some b)) ∧ wl.cell? ⟨w.heap.size, 0, none⟩ = some (.slice ax x.name.length cx) ∧ wl.cell? ⟨w.heap.size, 1, none⟩ = some (v1) := fun h1 h2 => ⟨h1, h2.cell (i := 0) rfl, h2.cell (i := 1) rfl⟩
  have HS0 := HS (wl := w1.drew) c1 x0
  refine wp_region_held_drew (S := fun wl => wl.cell? ⟨nb, 0, none⟩ = some (.map (some b)) ∧ wl.cell? ⟨w.heap.size, 0, none⟩ = some (.slice ax x.name.length cx) ∧ wl.cell? ⟨w.heap.size, 1, none⟩ = some (v1)) (by kernel_rfl) HS0 (fun hHeld => ?_)
  refine tk (i := 0) (v := ?v501) rfl (by kernel_rfl) (.inl ⟨by rfl, ?y501⟩) hHeld (fun _ _ _ h => h) ?_
  case y501 => intro w hSw; (try dsimp only at hSw); go_simp; first | done | rfl
  refine tk (i := 1) (v := ?v502) rfl (by kernel_rfl) (.inl ⟨by rfl, ?y502⟩) hHeld (fun _ _ _ h => h) ?_
  case y502 => intro w hSw; (try dsimp only at hSw); go_simp; first | done | rfl
  refine tk (i := 2) (v := ?v503) rfl (by kernel_rfl) (.inl ⟨by rfl, ?y503⟩) hHeld (fun _ _ _ h => h) ?_
  case y503 => intro w hSw; (try dsimp only at hSw); go_simp; first | done | rfl
  try simp only [nrm]
  refine tk (i := 3) (v := ?v504) rfl (by kernel_rfl) (.inl ⟨by rfl, ?y504⟩) hHeld (fun _ _ _ h => h) ?_
  case y504 => intro w hSw; (try dsimp only at hSw); go_simp; first | done | rfl
  try simp only [nrm]
  refine wpAnyH_ready (rs := [4]) (by kernel_rfl) (by simp) ?_
  refine AllReadyH.cons (i := 4) (o := ?o505) ?i505 (fun K hK => ?_) AllReadyH.nil
  case i505 => exact rfl
  go_simp
  (with_reducible refine hM.mono ?_)
  rintro e w2 ⟨rfl, b2⟩
  have b12 : Below w1.heap.size w1 w2 := (Below.refl w1.heap.size w1).drew.trans b2
  have c2 := cell_on c1 b12
  have x2 := x0.below b12 hlt
  have HS2 := HS c2 x2
  have N2 := HN1.out.below b12
  have H5 := declareC w2 b k g N2 hk ax x.name.length cx x.name (BRow.below HX.out b12) hnl (vaMn x).1 (.slice none 0 0) [] (nil_rd w2)
  go_wp2_with fail
  refine hK.out _ _ (HS2) (fun hHeld => ?_)
  clear hK K
  try simp only [nrm]
  refine wpAnyH_ready (rs := [5]) (by kernel_rfl) (by simp) ?_
  refine AllReadyH.cons (i := 5) (o := ?o506) ?i506 (fun K hK => ?_) AllReadyH.nil
  case i506 => exact rfl
  go_simp
  (with_reducible refine H5.mono ?_)
  rintro e w3 ⟨rfl, hd⟩
  have c3 := N2.cell c2 hd.grown
  have hx3 : w3.cell? ⟨w.heap.size, 0, none⟩ = some (.slice ax x.name.length cx) ∧ w3.cell? ⟨w.heap.size, 1, none⟩ = some (v1) := ⟨N2.cell (x2.cell (i := 0) rfl) hd.grown, N2.cell (x2.cell (i := 1) rfl) hd.grown⟩
  have HS3 : w3.cell? ⟨nb, 0, none⟩ = some (.map (some b)) ∧ w3.cell? ⟨w.heap.size, 0, none⟩ = some (.slice ax x.name.length cx) ∧ w3.cell? ⟨w.heap.size, 1, none⟩ = some (v1) := ⟨c3, hx3⟩
  go_wp2_with fail
  refine hK.out _ _ (HS3) (fun hHeld => ?_)
  clear hK K
  try simp only [nrm]
  refine tk (i := 6) (v := ?v507) rfl (by kernel_rfl) (.inl ⟨by rfl, ?y507⟩) hHeld (fun _ _ _ h => h) ?_
  case y507 => intro w hSw; (try dsimp only at hSw); go_simp; first | done | rfl
  try simp only [nrm]
  refine wpAnyH_done (by kernel_rfl) ?_ _
  have HD : Hid (Decl w w3 b k g x.name (vaMn x)) := Decl.from (grown_trans Y0.out (grown_below b12 none)) hd
  clear HS HS0 HS2 HS3 hHeld hM H5 hd c1 c2 c3 hx3 x0 x2 N2
  go_wp2_with fail
  go_ret
  exact ⟨rfl, HD.out⟩

set_option maxHeartbeats 2000000 in
theorem dmProc (x : Pr) (vs : List Value) (w : World) (b k nb : Nat) (g : List Int → Mn) (h : RdVals w x.fl vs) (hN : NT w b k g) (hk : k < 1000000) (hc : w.cell? ⟨nb, 0, none⟩ = some (.map (some b))) (hnl : x.name.length ≤ 1048576) (hpl : x.params.length ≤ 1048576) :
    Calls Tryz.prog 34 #[agg vs, .pointer (some ⟨nb, 0, none⟩)] w fun e w' => e = .returned (.bool (decide ((g x.name).1 = 0))) ∧ Decl w w' b k g x.name (prMn x) := by
  have hh := h
  obtain ⟨v0, _, rfl, ⟨ax, cx, rfl, hbx, _⟩, v1, _, rfl, _, v2, _, rfl, _, v3, _, rfl, _, v4, _, rfl, _, rfl⟩ := hh
  have x0 := Blk.new w 64 [.slice ax x.name.length cx, v1, v2, v3, v4]
  have y0 := grown_alloc w (.cells #[.slice ax x.name.length cx, v1, v2, v3, v4] 64 (0, 0)) none
  have N1 := hN.grown y0
  have c1 := cell_on hc (below_grown y0)
  have HX : Hid (BRow (w.alloc (.cells #[.slice ax x.name.length cx, v1, v2, v3, v4] 64 (0, 0))) ax x.name.length x.name) := hbx.below (below_grown y0)
  have hlt : w.heap.size < (w.alloc (.cells #[.slice ax x.name.length cx, v1, v2, v3, v4] 64 (0, 0))).heap.size := x0.lt
  simp only [List.toArray] at x0
  simp only [agg] at h ⊢
  go_enter Tryz.func34, Tryz.ntmps34
  go_upto_region 1 with fail
  have hM : Calls Tryz.prog 35 #[.agg #[.slice ax x.name.length cx, v1, v2, v3, v4]] (w.alloc (.cells #[.slice ax x.name.length cx, v1, v2, v3, v4] 64 (0, 0))).drew _ := procMeaning x [.slice ax x.name.length cx, v1, v2, v3, v4] (w.alloc (.cells #[.slice ax x.name.length cx, v1, v2, v3, v4] 64 (0, 0))).drew (RdVals.below h ((below_grown y0).drew)) hpl
  generalize w.alloc (.cells #[.slice ax x.name.length cx, v1, v2, v3, v4] 64 (0, 0)) = w1 at *
  have Y0 : Hid (w.grownBy w1 none) := y0
  have HN1 : Hid (NT w1 b k g) := N1
  clear hN N1 h hbx hc y0
  go_wp2_with fail
  have HS : ∀ {wl : World}, wl.cell? ⟨nb, 0, none⟩ = some (.map (some b)) → Blk wl w.heap.size 64 [.slice ax x.name.length cx, v1, v2, v3, v4] → wl.cell? ⟨nb, 0, none⟩ = some (.map (some b)) ∧ wl.cell? ⟨w.heap.size, 0, none⟩ = some (.slice ax x.name.length cx) ∧ wl.cell? ⟨w.heap.size, 1, none⟩ = some (v1) ∧ wl.cell? ⟨w.heap.size, 2, none⟩ = some (v2) ∧ wl.cell? ⟨w.heap.size, 3, none⟩ = some (v3) ∧ wl.cell? ⟨w.heap.size, 4, none⟩ = some (v4) := fun h1 h2 => ⟨h1, h2.cell (i := 0) rfl, h2.cell (i := 1) rfl, h2.cell (i := 2) rfl, h2.cell (i := 3) rfl, h2.cell (i := 4) rfl⟩
  have HS0 := HS (wl := w1.drew) c1 x0
  refine wp_region_held_drew (S := fun wl => wl.cell? ⟨nb, 0, none⟩ = some (.map (some b)) ∧ wl.cell? ⟨w.heap.size, 0, none⟩ = some (.slice ax x.name.length cx) ∧ wl.cell? ⟨w.heap.size, 1, none⟩ = some (v1) ∧ wl.cell? ⟨w.heap.size, 2, none⟩ = some (v2) ∧ wl.cell? ⟨w.heap.size, 3, none⟩ = some (v3) ∧ wl.cell? ⟨w.heap.size, 4, none⟩ = some (v4)) (by kernel_rfl) HS0 (fun hHeld => ?_)
  refine tk (i := 0) (v := ?v508) rfl (by kernel_rfl) (.inl ⟨by rfl, ?y508⟩) hHeld (fun _ _ _ h => h) ?_
  case y508 => intro w hSw; (try dsimp only at hSw); go_simp; first | done | rfl
  refine tk (i := 1) (v := ?v509) rfl (by kernel_rfl) (.inl ⟨by rfl, ?y509⟩) hHeld (fun _ _ _ h => h) ?_
  case y509 => intro w hSw; (try dsimp only at hSw); go_simp; first | done | rfl
  refine tk (i := 2) (v := ?v510) rfl (by kernel_rfl) (.inl ⟨by rfl, ?y510⟩) hHeld (fun _ _ _ h => h) ?_
  case y510 => intro w hSw; (try dsimp only at hSw); go_simp; first | done | rfl
  try simp only [nrm]
  refine tk (i := 3) (v := ?v511) rfl (by kernel_rfl) (.inl ⟨by rfl, ?y511⟩) hHeld (fun _ _ _ h => h) ?_
  case y511 => intro w hSw; (try dsimp only at hSw); go_simp; first | done | rfl
  try simp only [nrm]
  refine wpAnyH_ready (rs := [4]) (by kernel_rfl) (by simp) ?_
  refine AllReadyH.cons (i := 4) (o := ?o512) ?i512 (fun K hK => ?_) AllReadyH.nil
  case i512 => exact rfl
  go_simp
  (with_reducible refine hM.mono ?_)
  rintro e w2 ⟨kv, rfl, hkv, b2⟩
  have b12 : Below w1.heap.size w1 w2 := (Below.refl w1.heap.size w1).drew.trans b2
  have c2 := cell_on c1 b12
  have x2 := x0.below b12 hlt
  have HS2 := HS c2 x2
  have N2 := HN1.out.below b12
  have H5 := declareC w2 b k g N2 hk ax x.name.length cx x.name (BRow.below HX.out b12) hnl 3 kv (kindsP x.params) hkv
  go_wp2_with fail
  refine hK.out _ _ (HS2) (fun hHeld => ?_)
  clear hK K
  try simp only [nrm]
  refine wpAnyH_ready (rs := [5]) (by kernel_rfl) (by simp) ?_
  refine AllReadyH.cons (i := 5) (o := ?o513) ?i513 (fun K hK => ?_) AllReadyH.nil
  case i513 => exact rfl
  go_simp
  (with_reducible refine H5.mono ?_)
  rintro e w3 ⟨rfl, hd⟩
  have c3 := N2.cell c2 hd.grown
  have hx3 : w3.cell? ⟨w.heap.size, 0, none⟩ = some (.slice ax x.name.length cx) ∧ w3.cell? ⟨w.heap.size, 1, none⟩ = some (v1) ∧ w3.cell? ⟨w.heap.size, 2, none⟩ = some (v2) ∧ w3.cell? ⟨w.heap.size, 3, none⟩ = some (v3) ∧ w3.cell? ⟨w.heap.size, 4, none⟩ = some (v4) := ⟨N2.cell (x2.cell (i := 0) rfl) hd.grown, N2.cell (x2.cell (i := 1) rfl) hd.grown, N2.cell (x2.cell (i := 2) rfl) hd.grown, N2.cell (x2.cell (i := 3) rfl) hd.grown, N2.cell (x2.cell (i := 4) rfl) hd.grown⟩
  have HS3 : w3.cell? ⟨nb, 0, none⟩ = some (.map (some b)) ∧ w3.cell? ⟨w.heap.size, 0, none⟩ = some (.slice ax x.name.length cx) ∧ w3.cell? ⟨w.heap.size, 1, none⟩ = some (v1) ∧ w3.cell? ⟨w.heap.size, 2, none⟩ = some (v2) ∧ w3.cell? ⟨w.heap.size, 3, none⟩ = some (v3) ∧ w3.cell? ⟨w.heap.size, 4, none⟩ = some (v4) := ⟨c3, hx3⟩
  go_wp2_with fail
  refine hK.out _ _ (HS3) (fun hHeld => ?_)
  clear hK K
  try simp only [nrm]
  refine tk (i := 6) (v := ?v514) rfl (by kernel_rfl) (.inl ⟨by rfl, ?y514⟩) hHeld (fun _ _ _ h => h) ?_
  case y514 => intro w hSw; (try dsimp only at hSw); go_simp; first | done | rfl
  try simp only [nrm]
  refine wpAnyH_done (by kernel_rfl) ?_ _
  have HD : Hid (Decl w w3 b k g x.name (prMn x)) := Decl.from (grown_trans Y0.out (grown_below b12 none)) hd
  clear HS HS0 HS2 HS3 hHeld hM H5 hd c1 c2 c3 hx3 x0 x2 N2
  go_wp2_with fail
  go_ret
  exact ⟨rfl, HD.out⟩

set_option maxHeartbeats 2000000 in
theorem enPar (x : Pa) (vs : List Value) (w : World) (b k nb : Nat) (g : List Int → Mn) (h : RdVals w x.fl vs) (hN : NT w b k g) (hk : k < 1000000) (hc : w.cell? ⟨nb, 0, none⟩ = some (.map (some b))) (hnl : x.name.length ≤ 1048576) :
    Calls Tryz.prog 69 #[agg vs, .pointer (some ⟨nb, 0, none⟩)] w fun e w' => e = .returned (.bool (decide ((g x.name).1 = 0))) ∧ Decl w w' b k g x.name (paMn x) := by
  have hh := h
  obtain ⟨v0, _, rfl, ⟨ax, cx, rfl, hbx, _⟩, v1, _, rfl, _, rfl⟩ := hh
  have x0 := Blk.new w 98 [.slice ax x.name.length cx, v1]
  have y0 := grown_alloc w (.cells #[.slice ax x.name.length cx, v1] 98 (0, 0)) none
  have N1 := hN.grown y0
  have c1 := cell_on hc (below_grown y0)
  have HX : Hid (BRow (w.alloc (.cells #[.slice ax x.name.length cx, v1] 98 (0, 0))) ax x.name.length x.name) := hbx.below (below_grown y0)
  have hlt : w.heap.size < (w.alloc (.cells #[.slice ax x.name.length cx, v1] 98 (0, 0))).heap.size := x0.lt
  simp only [List.toArray] at x0
  simp only [agg] at h ⊢
  go_enter Tryz.func69, Tryz.ntmps69
  go_upto_region 1 with fail
  have hM : Calls Tryz.prog 70 #[.agg #[.slice ax x.name.length cx, v1]] (w.alloc (.cells #[.slice ax x.name.length cx, v1] 98 (0, 0))).drew _ := parMeaning x [.slice ax x.name.length cx, v1] (w.alloc (.cells #[.slice ax x.name.length cx, v1] 98 (0, 0))).drew (RdVals.below h ((below_grown y0).drew))
  generalize w.alloc (.cells #[.slice ax x.name.length cx, v1] 98 (0, 0)) = w1 at *
  have Y0 : Hid (w.grownBy w1 none) := y0
  have HN1 : Hid (NT w1 b k g) := N1
  clear hN N1 h hbx hc y0
  go_wp2_with fail
  have HS : ∀ {wl : World}, wl.cell? ⟨nb, 0, none⟩ = some (.map (some b)) → Blk wl w.heap.size 98 [.slice ax x.name.length cx, v1] → wl.cell? ⟨nb, 0, none⟩ = some (.map (some b)) ∧ wl.cell? ⟨w.heap.size, 0, none⟩ = some (.slice ax x.name.length cx) ∧ wl.cell? ⟨w.heap.size, 1, none⟩ = some (v1) := fun h1 h2 => ⟨h1, h2.cell (i := 0) rfl, h2.cell (i := 1) rfl⟩
  have HS0 := HS (wl := w1.drew) c1 x0
  refine wp_region_held_drew (S := fun wl => wl.cell? ⟨nb, 0, none⟩ = some (.map (some b)) ∧ wl.cell? ⟨w.heap.size, 0, none⟩ = some (.slice ax x.name.length cx) ∧ wl.cell? ⟨w.heap.size, 1, none⟩ = some (v1)) (by kernel_rfl) HS0 (fun hHeld => ?_)
  refine tk (i := 0) (v := ?v515) rfl (by kernel_rfl) (.inl ⟨by rfl, ?y515⟩) hHeld (fun _ _ _ h => h) ?_
  case y515 => intro w hSw; (try dsimp only at hSw); go_simp; first | done | rfl
  refine tk (i := 1) (v := ?v516) rfl (by kernel_rfl) (.inl ⟨by rfl, ?y516⟩) hHeld (fun _ _ _ h => h) ?_
  case y516 => intro w hSw; (try dsimp only at hSw); go_simp; first | done | rfl
  refine tk (i := 2) (v := ?v517) rfl (by kernel_rfl) (.inl ⟨by rfl, ?y517⟩) hHeld (fun _ _ _ h => h) ?_
  case y517 => intro w hSw; (try dsimp only at hSw); go_simp; first | done | rfl
  try simp only [nrm]
  refine tk (i := 3) (v := ?v518) rfl (by kernel_rfl) (.inl ⟨by rfl, ?y518⟩) hHeld (fun _ _ _ h => h) ?_
  case y518 => intro w hSw; (try dsimp only at hSw); go_simp; first | done | rfl
  try simp only [nrm]
  refine wpAnyH_ready (rs := [4]) (by kernel_rfl) (by simp) ?_
  refine AllReadyH.cons (i := 4) (o := ?o519) ?i519 (fun K hK => ?_) AllReadyH.nil
  case i519 => exact rfl
  go_simp
  (with_reducible refine hM.mono ?_)
  rintro e w2 ⟨rfl, b2⟩
  have b12 : Below w1.heap.size w1 w2 := (Below.refl w1.heap.size w1).drew.trans b2
  have c2 := cell_on c1 b12
  have x2 := x0.below b12 hlt
  have HS2 := HS c2 x2
  have N2 := HN1.out.below b12
  have H5 := declareC w2 b k g N2 hk ax x.name.length cx x.name (BRow.below HX.out b12) hnl (paMn x).1 (.slice none 0 0) [] (nil_rd w2)
  go_wp2_with fail
  refine hK.out _ _ (HS2) (fun hHeld => ?_)
  clear hK K
  try simp only [nrm]
  refine wpAnyH_ready (rs := [5]) (by kernel_rfl) (by simp) ?_
  refine AllReadyH.cons (i := 5) (o := ?o520) ?i520 (fun K hK => ?_) AllReadyH.nil
  case i520 => exact rfl
  go_simp
  (with_reducible refine H5.mono ?_)
  rintro e w3 ⟨rfl, hd⟩
  have c3 := N2.cell c2 hd.grown
  have hx3 : w3.cell? ⟨w.heap.size, 0, none⟩ = some (.slice ax x.name.length cx) ∧ w3.cell? ⟨w.heap.size, 1, none⟩ = some (v1) := ⟨N2.cell (x2.cell (i := 0) rfl) hd.grown, N2.cell (x2.cell (i := 1) rfl) hd.grown⟩
  have HS3 : w3.cell? ⟨nb, 0, none⟩ = some (.map (some b)) ∧ w3.cell? ⟨w.heap.size, 0, none⟩ = some (.slice ax x.name.length cx) ∧ w3.cell? ⟨w.heap.size, 1, none⟩ = some (v1) := ⟨c3, hx3⟩
  go_wp2_with fail
  refine hK.out _ _ (HS3) (fun hHeld => ?_)
  clear hK K
  try simp only [nrm]
  refine tk (i := 6) (v := ?v521) rfl (by kernel_rfl) (.inl ⟨by rfl, ?y521⟩) hHeld (fun _ _ _ h => h) ?_
  case y521 => intro w hSw; (try dsimp only at hSw); go_simp; first | done | rfl
  try simp only [nrm]
  refine wpAnyH_done (by kernel_rfl) ?_ _
  have HD : Hid (Decl w w3 b k g x.name (paMn x)) := Decl.from (grown_trans Y0.out (grown_below b12 none)) hd
  clear HS HS0 HS2 HS3 hHeld hM H5 hd c1 c2 c3 hx3 x0 x2 N2
  go_wp2_with fail
  go_ret
  exact ⟨rfl, HD.out⟩

set_option maxHeartbeats 2000000 in
theorem enLoc (x : List Int) (v : Value) (w : World) (b k nb : Nat) (g : List Int → Mn) (h : (Fl.b x).Rd w v) (hN : NT w b k g) (hk : k < 1000000) (hc : w.cell? ⟨nb, 0, none⟩ = some (.map (some b))) (hnl : x.length ≤ 1048576) :
    Calls Tryz.prog 72 #[v, .pointer (some ⟨nb, 0, none⟩)] w fun e w' => e = .returned (.bool (decide ((g x).1 = 0))) ∧ Decl w w' b k g x (1, []) := by
  obtain ⟨ax, cx, rfl, hbx, _⟩ := h
  have H5 := declareC w b k g hN hk ax x.length cx x hbx hnl 1 (.slice none 0 0) [] (nil_rd w)
  clear hN hbx
  go_enter Tryz.func72, Tryz.ntmps72
  go_wp2_with fail
  refine H5.mono ?_
  rintro e w2 ⟨rfl, hd⟩
  have HD : Hid _ := hd
  clear H5 hd hc
  go_wp2_with fail
  go_ret
  exact ⟨rfl, HD.out⟩

/-- Where all could be declared, they are. -/
structure Dn (w w' : World) (b k : Nat) (g : List Int → Mn) (ok : Bool) : Prop where
  yes : ok = true → NT w' b k g
  grown : w.grownBy w' (some b)

set_option maxHeartbeats 4000000 in
theorem declareModuleC (x : Mo) (vs : List Value) (w0 w : World) (b k : Nat) (g : List Int → Mn) (h : RdVals w0 x.fl vs) (hw : Below w0.heap.size w0 w) (hb0 : w0.heap.size ≤ b) (hN : NT w b k g) (hk : k + (x.vars.map fun v => (v.name, vaMn v)).length + (x.procs.map fun q => (q.name, prMn q)).length ≤ 1000000) (HB1 : Hid (∀ v ∈ x.vars, v.name.length ≤ 1048576)) (HB2 : Hid (∀ q ∈ x.procs, q.name.length ≤ 1048576 ∧ q.params.length ≤ 1048576)) :
    Calls Tryz.prog 12 #[.map (some b), agg vs] w fun e w' => e = .returned (.bool (okG g (x.vars.map fun v => (v.name, vaMn v)) && okG (stG g (x.vars.map fun v => (v.name, vaMn v))) (x.procs.map fun q => (q.name, prMn q)))) ∧ Dn w w' b (k + (x.vars.map fun v => (v.name, vaMn v)).length + (x.procs.map fun q => (q.name, prMn q)).length) (stG (stG g (x.vars.map fun v => (v.name, vaMn v))) (x.procs.map fun q => (q.name, prMn q))) (okG g (x.vars.map fun v => (v.name, vaMn v)) && okG (stG g (x.vars.map fun v => (v.name, vaMn v))) (x.procs.map fun q => (q.name, prMn q))) := by
  have hmf : ∀ (fn : Fn) (first cap : Array Value) (w : World), (Instr.makeFunc fn first cap).run Tryz.prog w = .ok (.func fn first cap) w := fun _ _ _ _ => rfl
  obtain ⟨v0, _, rfl, h0, v1, _, rfl, h1, v2, _, rfl, h2, v3, _, rfl, h3, rfl⟩ := h
  obtain ⟨a1, c1, rfl, hL1⟩ := h2.list
  obtain ⟨a2, c2, rfl, hL2⟩ := h3.list
  have el1 : (x.vars.map Va.fl).length = (x.vars.map fun v => (v.name, vaMn v)).length := by simp [txts]
  have el2 : (x.procs.map Pr.fl).length = (x.procs.map fun q => (q.name, prMn q)).length := by simp [txts]
  rw [el1, el2]
  obtain ⟨n1, hn1⟩ : ∃ z, z = (x.vars.map fun v => (v.name, vaMn v)).length := ⟨_, rfl⟩
  obtain ⟨n2, hn2⟩ : ∃ z, z = (x.procs.map fun q => (q.name, prMn q)).length := ⟨_, rfl⟩
  have HN1 : Hid ((x.vars.map fun v => (v.name, vaMn v)).length = n1) := hn1.symm
  have HN2 : Hid ((x.procs.map fun q => (q.name, prMn q)).length = n2) := hn2.symm
  have HL1 : Hid (LRow w0 a1 c1 2 (x.vars.map Va.fl)) := hL1
  have HL2 : Hid (LRow w0 a2 c2 5 (x.procs.map Pr.fl)) := hL2
  rw [← hn1, ← hn2]
  rw [← hn1, ← hn2] at hk
  clear hL1 hL2 h2 h3 hn1 hn2
  have x0 := (Blk.new w 44 [.map (some b)]).old (o := .cells #[v0, v1, .slice a1 n1 c1, .slice a2 n2 c2] 29 (0, 0))
  have x1 := Blk.new (w.alloc (.cells #[.map (some b)] 44 (0, 0))) 29 [v0, v1, .slice a1 n1 c1, .slice a2 n2 c2]
  have hg1 : (w.alloc (.cells #[.map (some b)] 44 (0, 0))).heap.size = w.heap.size + 1 := by simp
  have y0 : w.grownBy ((w.alloc (.cells #[.map (some b)] 44 (0, 0))).alloc (.cells #[v0, v1, .slice a1 n1 c1, .slice a2 n2 c2] 29 (0, 0))) none := grown_trans (grown_alloc w _ none) (grown_alloc _ _ none)
  have N1 := hN.grown y0
  have hw1 := hw.trans ((below_grown y0).mono hw.size)
  simp only [List.toArray] at x0 x1
  rw [hg1] at x1
  have HW : Hid (w.heap.size ≤ w.heap.size) := Nat.le_refl _
  clear hg1 hN hw
  simp only [agg]
  go_enter Tryz.func12, Tryz.ntmps12
  go_upto_region 1 with fail
  generalize (w.alloc (.cells #[.map (some b)] 44 (0, 0))).alloc (.cells #[v0, v1, .slice a1 n1 c1, .slice a2 n2 c2] 29 (0, 0)) = w1 at *
  have q0 := x0.cell (i := 0) rfl
  have k1 := x1.cell (i := 2) rfl
  have A1 := asksDecl 30 w.heap.size b k g agg w0 a1 c1 2 (x.vars.map Va.fl) (x.vars.map fun v => (v.name, vaMn v)) el1 (ent_of Tryz.func30 rfl rfl) (by intro r hr; obtain ⟨y, _, rfl⟩ := List.mem_map.1 hr; rfl) HL1.out hb0 (by rw [HN1.out]; omega) (by
    intro j r p wr vs g' k' hr hp hbw hvs hNT hk' hc
    rw [List.getElem?_map] at hr hp
    obtain ⟨z, hz, rfl⟩ := Option.map_eq_some_iff.1 hr
    rw [hz] at hp
    simp only [Option.map_some, Option.some.injEq] at hp
    subst hp
    exact dmVar z vs wr b k' w.heap.size g' hvs hNT hk' hc (HB1.out z (List.mem_of_getElem? hz)))
  have H1 := allVar 30 #[.pointer (some ⟨w.heap.size, 0, none⟩)] (some b) a1 n1 c1 (x.vars.map Va.fl) _ _ _ w1 A1 (by rw [el1, HN1.out]) ⟨by simpa [stG] using N1, q0, hw1⟩ decl_grow (fun j hj => by cases hj; exact N1.lt) (ent_of Tryz.func64 rfl rfl)
  have HO1 : Hid (okG g (x.vars.map fun v => (v.name, vaMn v)) = okG g (x.vars.map fun v => (v.name, vaMn v))) := rfl
  go_wp2_with fail
  refine H1.mono ?_
  rintro e w2 ⟨r1, rfl, hg2, ht2⟩
  obtain ⟨er1, hN2⟩ := told_decl HN1.out ht2
  have q2 := N1.cell q0 hg2
  have x2 : w2.cell? ⟨w.heap.size + 1, 3, none⟩ = some (.slice a2 n2 c2) := N1.cell (x1.cell (i := 3) rfl) hg2
  have hw2 := below_map hw1 hg2 hb0
  have G2 : Hid (w.grownBy w2 (some b)) := grown_map y0 hg2
  clear H1 A1 ht2 k1 hg2
  cases r1
  · have HF : Hid ((okG g (x.vars.map fun v => (v.name, vaMn v)) && okG (stG g (x.vars.map fun v => (v.name, vaMn v))) (x.procs.map fun q => (q.name, prMn q))) = false) := by show _ = _; rw [← er1]; rfl
    clear er1 hN2 HO1 x2 q2 x0 x1 q0 N1
    go_wp2_with fail
    go_ret
    exact ⟨ret_bool HF.out.symm, ⟨fun e => absurd (HF.out.symm.trans e) (by simp), G2.out⟩⟩
  · have N2 := hN2 rfl
    have ER1 : Hid (okG g (x.vars.map fun v => (v.name, vaMn v)) = true) := er1.symm
    clear er1 hN2 HO1
    have A2 := asksDecl 34 w.heap.size b (k + n1) (stG g (x.vars.map fun v => (v.name, vaMn v))) agg w0 a2 c2 5 (x.procs.map Pr.fl) (x.procs.map fun q => (q.name, prMn q)) el2 (ent_of Tryz.func34 rfl rfl) (by intro r hr; obtain ⟨y, _, rfl⟩ := List.mem_map.1 hr; rfl) HL2.out hb0 (by rw [HN2.out]; omega) (by
      intro j r p wr vs g' k' hr hp hbw hvs hNT hk' hc
      rw [List.getElem?_map] at hr hp
      obtain ⟨z, hz, rfl⟩ := Option.map_eq_some_iff.1 hr
      rw [hz] at hp
      simp only [Option.map_some, Option.some.injEq] at hp
      subst hp
      exact dmProc z vs wr b k' w.heap.size g' hvs hNT hk' hc (HB2.out z (List.mem_of_getElem? hz)).1 (HB2.out z (List.mem_of_getElem? hz)).2)
    have H2 := allProc 34 #[.pointer (some ⟨w.heap.size, 0, none⟩)] (some b) a2 n2 c2 (x.procs.map Pr.fl) _ _ _ w2 A2 (by rw [el2, HN2.out]) ⟨by simpa [stG] using N2, q2, hw2⟩ decl_grow (fun j hj => by cases hj; exact N2.lt) (ent_of Tryz.func66 rfl rfl)
    clear x0 x1 q0 N1 A2
    go_wp2_with fail
    refine H2.mono ?_
    rintro e w3 ⟨r2, rfl, hg3, ht3⟩
    obtain ⟨er2, hN3⟩ := told_decl HN2.out ht3
    have HF : Hid ((okG g (x.vars.map fun v => (v.name, vaMn v)) && okG (stG g (x.vars.map fun v => (v.name, vaMn v))) (x.procs.map fun q => (q.name, prMn q))) = r2) := by show _ = _; rw [ER1.out, ← er2]; rfl
    have HD : Hid (Dn w w3 b (k + n1 + n2) (stG (stG g (x.vars.map fun v => (v.name, vaMn v))) (x.procs.map fun q => (q.name, prMn q))) r2) := ⟨hN3, grown_trans G2.out hg3⟩
    clear H2 er2 hN3 ht3 hg3 x2 q2 N2
    go_wp2_with fail
    go_ret
    exact ⟨ret_bool HF.out.symm, by rw [HF.out]; exact HD.out⟩

set_option maxHeartbeats 4000000 in
theorem enterC (x : Pr) (vs : List Value) (w0 w : World) (b k : Nat) (g : List Int → Mn) (h : RdVals w0 x.fl vs) (hw : Below w0.heap.size w0 w) (hb0 : w0.heap.size ≤ b) (hN : NT w b k g) (hk : k + (x.params.map fun a => (a.name, paMn a)).length + (x.locals.map fun y => (y, ((1, []) : Mn))).length ≤ 1000000) (HB1 : Hid (∀ a ∈ x.params, a.name.length ≤ 1048576)) (HB2 : Hid (∀ y ∈ x.locals, y.length ≤ 1048576)) :
    Calls Tryz.prog 37 #[.map (some b), agg vs] w fun e w' => e = .returned (.bool (okG g (x.params.map fun a => (a.name, paMn a)) && okG (stG g (x.params.map fun a => (a.name, paMn a))) (x.locals.map fun y => (y, ((1, []) : Mn))))) ∧ Dn w w' b (k + (x.params.map fun a => (a.name, paMn a)).length + (x.locals.map fun y => (y, ((1, []) : Mn))).length) (stG (stG g (x.params.map fun a => (a.name, paMn a))) (x.locals.map fun y => (y, ((1, []) : Mn)))) (okG g (x.params.map fun a => (a.name, paMn a)) && okG (stG g (x.params.map fun a => (a.name, paMn a))) (x.locals.map fun y => (y, ((1, []) : Mn)))) := by
  have hmf : ∀ (fn : Fn) (first cap : Array Value) (w : World), (Instr.makeFunc fn first cap).run Tryz.prog w = .ok (.func fn first cap) w := fun _ _ _ _ => rfl
  obtain ⟨v0, _, rfl, h0, v1, _, rfl, h1, v2, _, rfl, h2, v3, _, rfl, h3, v4, _, rfl, h4, rfl⟩ := h
  obtain ⟨a1, c1, rfl, hL1⟩ := h2.list
  obtain ⟨a2, c2, rfl, hL2⟩ := h3.list
  have el1 : (x.params.map Pa.fl).length = (x.params.map fun a => (a.name, paMn a)).length := by simp [txts]
  have el2 : (txts x.locals).length = (x.locals.map fun y => (y, ((1, []) : Mn))).length := by simp [txts]
  rw [el1, el2]
  obtain ⟨n1, hn1⟩ : ∃ z, z = (x.params.map fun a => (a.name, paMn a)).length := ⟨_, rfl⟩
  obtain ⟨n2, hn2⟩ : ∃ z, z = (x.locals.map fun y => (y, ((1, []) : Mn))).length := ⟨_, rfl⟩
  have HN1 : Hid ((x.params.map fun a => (a.name, paMn a)).length = n1) := hn1.symm
  have HN2 : Hid ((x.locals.map fun y => (y, ((1, []) : Mn))).length = n2) := hn2.symm
  have HL1 : Hid (LRow w0 a1 c1 2 (x.params.map Pa.fl)) := hL1
  have HL2 : Hid (LRow w0 a2 c2 1 (txts x.locals)) := hL2
  rw [← hn1, ← hn2]
  rw [← hn1, ← hn2] at hk
  clear hL1 hL2 h2 h3 hn1 hn2
  have x0 := (Blk.new w 44 [.map (some b)]).old (o := .cells #[v0, v1, .slice a1 n1 c1, .slice a2 n2 c2, v4] 64 (0, 0))
  have x1 := Blk.new (w.alloc (.cells #[.map (some b)] 44 (0, 0))) 64 [v0, v1, .slice a1 n1 c1, .slice a2 n2 c2, v4]
  have hg1 : (w.alloc (.cells #[.map (some b)] 44 (0, 0))).heap.size = w.heap.size + 1 := by simp
  have y0 : w.grownBy ((w.alloc (.cells #[.map (some b)] 44 (0, 0))).alloc (.cells #[v0, v1, .slice a1 n1 c1, .slice a2 n2 c2, v4] 64 (0, 0))) none := grown_trans (grown_alloc w _ none) (grown_alloc _ _ none)
  have N1 := hN.grown y0
  have hw1 := hw.trans ((below_grown y0).mono hw.size)
  simp only [List.toArray] at x0 x1
  rw [hg1] at x1
  have HW : Hid (w.heap.size ≤ w.heap.size) := Nat.le_refl _
  clear hg1 hN hw
  simp only [agg]
  go_enter Tryz.func37, Tryz.ntmps37
  go_upto_region 1 with fail
  generalize (w.alloc (.cells #[.map (some b)] 44 (0, 0))).alloc (.cells #[v0, v1, .slice a1 n1 c1, .slice a2 n2 c2, v4] 64 (0, 0)) = w1 at *
  have q0 := x0.cell (i := 0) rfl
  have k1 := x1.cell (i := 2) rfl
  have A1 := asksDecl 69 w.heap.size b k g agg w0 a1 c1 2 (x.params.map Pa.fl) (x.params.map fun a => (a.name, paMn a)) el1 (ent_of Tryz.func69 rfl rfl) (by intro r hr; obtain ⟨y, _, rfl⟩ := List.mem_map.1 hr; rfl) HL1.out hb0 (by rw [HN1.out]; omega) (by
    intro j r p wr vs g' k' hr hp hbw hvs hNT hk' hc
    rw [List.getElem?_map] at hr hp
    obtain ⟨z, hz, rfl⟩ := Option.map_eq_some_iff.1 hr
    rw [hz] at hp
    simp only [Option.map_some, Option.some.injEq] at hp
    subst hp
    exact enPar z vs wr b k' w.heap.size g' hvs hNT hk' hc (HB1.out z (List.mem_of_getElem? hz)))
  have H1 := allParam 69 #[.pointer (some ⟨w.heap.size, 0, none⟩)] (some b) a1 n1 c1 (x.params.map Pa.fl) _ _ _ w1 A1 (by rw [el1, HN1.out]) ⟨by simpa [stG] using N1, q0, hw1⟩ decl_grow (fun j hj => by cases hj; exact N1.lt) (ent_of Tryz.func107 rfl rfl)
  have HO1 : Hid (okG g (x.params.map fun a => (a.name, paMn a)) = okG g (x.params.map fun a => (a.name, paMn a))) := rfl
  go_wp2_with fail
  refine H1.mono ?_
  rintro e w2 ⟨r1, rfl, hg2, ht2⟩
  obtain ⟨er1, hN2⟩ := told_decl HN1.out ht2
  have q2 := N1.cell q0 hg2
  have x2 : w2.cell? ⟨w.heap.size + 1, 3, none⟩ = some (.slice a2 n2 c2) := N1.cell (x1.cell (i := 3) rfl) hg2
  have hw2 := below_map hw1 hg2 hb0
  have G2 : Hid (w.grownBy w2 (some b)) := grown_map y0 hg2
  clear H1 A1 ht2 k1 hg2
  cases r1
  · have HF : Hid ((okG g (x.params.map fun a => (a.name, paMn a)) && okG (stG g (x.params.map fun a => (a.name, paMn a))) (x.locals.map fun y => (y, ((1, []) : Mn)))) = false) := by show _ = _; rw [← er1]; rfl
    clear er1 hN2 HO1 x2 q2 x0 x1 q0 N1
    go_wp2_with fail
    go_ret
    exact ⟨ret_bool HF.out.symm, ⟨fun e => absurd (HF.out.symm.trans e) (by simp), G2.out⟩⟩
  · have N2 := hN2 rfl
    have ER1 : Hid (okG g (x.params.map fun a => (a.name, paMn a)) = true) := er1.symm
    clear er1 hN2 HO1
    have A2 := asksDecl 72 w.heap.size b (k + n1) (stG g (x.params.map fun a => (a.name, paMn a))) one w0 a2 c2 1 (txts x.locals) (x.locals.map fun y => (y, ((1, []) : Mn))) el2 (ent_of Tryz.func72 rfl rfl) (by intro r hr; unfold txts at hr; obtain ⟨y, _, rfl⟩ := List.mem_map.1 hr; rfl) HL2.out hb0 (by rw [HN2.out]; omega) (by
      intro j r p wr vs g' k' hr hp hbw hvs hNT hk' hc
      unfold txts at hr
      rw [List.getElem?_map] at hr hp
      obtain ⟨z, hz, rfl⟩ := Option.map_eq_some_iff.1 hr
      rw [hz] at hp
      simp only [Option.map_some, Option.some.injEq] at hp
      subst hp
      obtain ⟨v, us, rfl, hv, rfl⟩ := hvs
      exact enLoc z v wr b k' w.heap.size g' hv hNT hk' hc (HB2.out z (List.mem_of_getElem? hz)))
    have H2 := allTxt 72 #[.pointer (some ⟨w.heap.size, 0, none⟩)] (some b) a2 n2 c2 (txts x.locals) _ _ _ w2 A2 (by rw [el2, HN2.out]) ⟨by simpa [stG] using N2, q2, hw2⟩ decl_grow (fun j hj => by cases hj; exact N2.lt) (ent_of Tryz.func108 rfl rfl)
    clear x0 x1 q0 N1 A2
    go_wp2_with fail
    refine H2.mono ?_
    rintro e w3 ⟨r2, rfl, hg3, ht3⟩
    obtain ⟨er2, hN3⟩ := told_decl HN2.out ht3
    have HF : Hid ((okG g (x.params.map fun a => (a.name, paMn a)) && okG (stG g (x.params.map fun a => (a.name, paMn a))) (x.locals.map fun y => (y, ((1, []) : Mn)))) = r2) := by show _ = _; rw [ER1.out, ← er2]; rfl
    have HD : Hid (Dn w w3 b (k + n1 + n2) (stG (stG g (x.params.map fun a => (a.name, paMn a))) (x.locals.map fun y => (y, ((1, []) : Mn)))) r2) := ⟨hN3, grown_trans G2.out hg3⟩
    clear H2 er2 hN3 ht3 hg3 x2 q2 N2
    go_wp2_with fail
    go_ret
    exact ⟨ret_bool HF.out.symm, by rw [HF.out]; exact HD.out⟩


def paArr (p : Pr) (x : List Int) : Option Bool := (ix (p.params.map Pa.name) x).bind fun i => p.params[i]?.map Pa.arr
def vaSize (m : Mo) (x : List Int) : Option Int := (ix (m.vars.map Va.name) x).bind fun i => m.vars[i]?.map Va.size
def sgl (m : Mo) (p : Pr) (x : List Int) : Bool := match paArr p x with
  | some b => !b
  | none => decide (x ∈ p.locals) || (match vaSize m x with
    | some n => decide (n = 0)
    | none => false)
def arq (m : Mo) (p : Pr) (x : List Int) : Bool := (paArr p x == some true) || (match vaSize m x with
  | some n => decide (0 < n)
  | none => false)

theorem ix_map {α : Type} {f : α → List Int} {l : List α} {x : List Int} {i : Nat} (h : ix (l.map f) x = some i) : ∃ y, l[i]? = some y ∧ f y = x := by
  have := (ix_at h).1
  rw [List.getElem?_map] at this
  exact Option.map_eq_some_iff.1 this
theorem paArr_some {p : Pr} {x : List Int} {i : Nat} {y : Pa} (h : ix (p.params.map Pa.name) x = some i) (hy : p.params[i]? = some y) : paArr p x = some y.arr := by unfold paArr; rw [h, Option.bind_some, hy]; rfl
theorem paArr_none {p : Pr} {x : List Int} (h : ix (p.params.map Pa.name) x = none) : paArr p x = none := by unfold paArr; rw [h]; rfl
theorem vaSize_some {m : Mo} {x : List Int} {i : Nat} {y : Va} (h : ix (m.vars.map Va.name) x = some i) (hy : m.vars[i]? = some y) : vaSize m x = some y.size := by unfold vaSize; rw [h, Option.bind_some, hy]; rfl
theorem vaSize_none {m : Mo} {x : List Int} (h : ix (m.vars.map Va.name) x = none) : vaSize m x = none := by unfold vaSize; rw [h]; rfl
theorem lt_of_at {α : Type} {l : List α} {i : Nat} {y : α} (h : l[i]? = some y) : i < l.length := (List.getElem?_eq_some_iff.1 h).1

/-- The cells of a record of a list. -/
theorem LRow.cellsAt {w : World} {a : Option Addr} {c k i : Nat} {rs : List (List Fl)} {r : List Fl} (h : LRow w a c k rs) (hi : rs[i]? = some r) : ∃ b off vs, a = some ⟨b, off, none⟩ ∧ RdVals w r vs ∧ ∀ z v, vs[z]? = some v → w.cell? ⟨b, off + i * k + z, none⟩ = some v := by
  obtain ⟨b, off, rfl⟩ := h.addr (by have := lt_of_at hi; omega)
  obtain ⟨vs, hv, hc⟩ := (h.el hi).vals
  exact ⟨b, off, vs, rfl, hv, hc⟩


def dropG (g : List Int → Mn) (l : List (List Int)) : List Int → Mn := l.foldl (fun g x => updG g x (0, [])) g
theorem dropG_next {g : List Int → Mn} {l : List (List Int)} {j : Nat} {x : List Int} (h : l[j]? = some x) : dropG g (l.take (j + 1)) = updG (dropG g (l.take j)) x (0, []) := by
  obtain ⟨hj, rfl⟩ := List.getElem?_eq_some_iff.1 h
  unfold dropG
  rw [List.take_succ_eq_append_getElem hj, List.foldl_append]
  rfl
theorem zM_rd (w : World) : MnR w zM (0, []) := ⟨.slice none 0 0, rfl, nil_rd w⟩

set_option maxHeartbeats 4000000 in
theorem leaveC (x : Pr) (vs : List Value) (w0 w : World) (b k : Nat) (g : List Int → Mn) (h : RdVals w0 x.fl vs) (hw : Below w0.heap.size w0 w) (hb0 : w0.heap.size ≤ b) (hN : NT w b k g) (HB1 : Hid (∀ a ∈ x.params, a.name.length ≤ 1048576)) (HB2 : Hid (∀ y ∈ x.locals, y.length ≤ 1048576)) :
    Calls Tryz.prog 38 #[.map (some b), agg vs] w fun e w' => e = .returned (.tuple #[]) ∧ NT w' b k (dropG (dropG g (x.params.map Pa.name)) x.locals) ∧ w.grownBy w' (some b) := by
  obtain ⟨v0, _, rfl, h0, v1, _, rfl, h1, v2, _, rfl, h2, v3, _, rfl, h3, v4, _, rfl, h4, rfl⟩ := h
  obtain ⟨a1, c1, rfl, hL1⟩ := h2.list
  obtain ⟨a2, c2, rfl, hL2⟩ := h3.list
  have e2 : (txts x.locals).length = x.locals.length := by simp [txts]
  have h91 := hL1.len9
  have h92 := hL2.len9
  rw [e2] at h92
  simp only [List.length_map, e2] at h91 ⊢
  obtain ⟨n1, hn1⟩ : ∃ z, z = x.params.length := ⟨_, rfl⟩
  obtain ⟨n2, hn2⟩ : ∃ z, z = x.locals.length := ⟨_, rfl⟩
  have HN1 : Hid (x.params.length = n1) := hn1.symm
  have HN2 : Hid (x.locals.length = n2) := hn2.symm
  have HL1 : Hid (LRow w0 a1 c1 2 (x.params.map Pa.fl)) := hL1
  have HL2 : Hid (LRow w0 a2 c2 1 (txts x.locals)) := hL2
  rw [← hn1, ← hn2]
  rw [← hn1] at h91
  rw [← hn2] at h92
  clear hL1 hL2 h0 h1 h2 h3 h4 hn1 hn2
  have x1 := Blk.new w 64 [v0, v1, .slice a1 n1 c1, .slice a2 n2 c2, v4]
  have y0 := grown_alloc w (.cells #[v0, v1, .slice a1 n1 c1, .slice a2 n2 c2, v4] 64 (0, 0)) none
  have N1 := hN.grown y0
  have hw1 := hw.trans ((below_grown y0).mono hw.size)
  simp only [List.toArray] at x1
  simp only [agg]
  go_enter Tryz.func38, Tryz.ntmps38
  go_upto_region 1 with fail
  generalize w.alloc (.cells #[v0, v1, .slice a1 n1 c1, .slice a2 n2 c2, v4] 64 (0, 0)) = w1 at *
  have k2 := x1.cell (i := 2) rfl
  have K3 : Hid (w1.cell? ⟨w.heap.size, 3, none⟩ = some (.slice a2 n2 c2)) := x1.cell (i := 3) rfl
  have S0 : Hid (NT w1 b k (dropG g ((x.params.map Pa.name).take 0)) ∧ Below w0.heap.size w0 w1 ∧ w.grownBy w1 (some b) ∧ w1.cell? ⟨w.heap.size, 3, none⟩ = some (.slice a2 n2 c2)) := ⟨by simpa [dropG] using N1, hw1, grown_any y0 _, K3.out⟩
  clear hN hw x1 N1 hw1 y0 K3
  go_wp2_with fail
  clear k2
  go_loopw [11] (fun i wr => ∃ j : Nat, j ≤ n1 ∧ i = .int .i64 j ∧ Hid (NT wr b k (dropG g ((x.params.map Pa.name).take j)) ∧ Below w0.heap.size w0 wr ∧ w.grownBy wr (some b) ∧ wr.cell? ⟨w.heap.size, 3, none⟩ = some (.slice a2 n2 c2))) (fun i _ => n1 - (intOf i).toNat)
  case atStart => exact ⟨0, Nat.zero_le _, rfl, S0⟩
  case round =>
    obtain ⟨j, hj, rfl, hst⟩ := hrel
    obtain ⟨hN, hb, hg, hc3⟩ := hst.out
    clear S0 hst
    by_cases hlt : j < n1
    · obtain ⟨y, hy⟩ : ∃ y, x.params[j]? = some y := ⟨_, List.getElem?_eq_getElem (by rw [HN1.out]; exact hlt)⟩
      have hyn : (x.params.map Pa.name)[j]? = some y.name := by rw [List.getElem?_map, hy]; rfl
      have hyl := HB1.out y (List.mem_of_getElem? hy)
      obtain ⟨bx, off, ys, rfl, hys, hcl⟩ := LRow.cellsAt HL1.out (show (x.params.map Pa.fl)[j]? = some y.fl by rw [List.getElem?_map, hy]; rfl)
      obtain ⟨s0, _, rfl, ⟨ax, cx, rfl, hbx, _⟩, s1, _, rfl, rfl, rfl⟩ := hys
      have r0 := cell_on (hcl 0 _ rfl) hb
      have r1 := cell_on (hcl 1 _ rfl) hb
      rw [Nat.add_zero] at r0
      have z5 := Blk.new wr 98 [.slice ax y.name.length cx, .bool y.arr]
      have g5 := grown_alloc wr (.cells #[.slice ax y.name.length cx, .bool y.arr] 98 (0, 0)) none
      simp only [List.toArray] at z5
      have N5 := hN.grown g5
      have b5 := hb.trans ((below_grown g5).mono hb.size)
      have G5 : Hid (w.grownBy (wr.alloc (.cells #[.slice ax y.name.length cx, .bool y.arr] 98 (0, 0))) (some b)) := grown_trans hg (grown_any g5 _)
      have c5 := cell_on hc3 (below_grown g5)
      have HB5 : Hid (Below w0.heap.size w0 (wr.alloc (.cells #[.slice ax y.name.length cx, .bool y.arr] 98 (0, 0)))) := b5
      have HDN : Hid (dropG g ((x.params.map Pa.name).take (j + 1)) = updG (dropG g ((x.params.map Pa.name).take j)) y.name (0, [])) := dropG_next hyn
      have hbt : Bt y.name := hbx.2.1
      have HX5 : Hid (BRow (wr.alloc (.cells #[.slice ax y.name.length cx, .bool y.arr] 98 (0, 0))) ax y.name.length y.name) := hbx.below b5
      clear hcl hy hyn hbx hN hb hg hc3 b5 g5
      go_upto_region 4 with fail
      generalize wr.alloc (.cells #[.slice ax y.name.length cx, .bool y.arr] 98 (0, 0)) = w5 at *
      have q0 := z5.cell (i := 0) rfl
      have kc := conv_bytes cx HX5.out
      obtain ⟨f, hf1, hf2⟩ := N5.ex
      clear r0 r1 z5
      go_wp2_with (at_delete; refine wpList_delN rfl _ _ rfl hf1 y.name rfl rfl hbt (by unfold maxLen; omega) ?_)
      intro w6 hN6 hg6
      have HF : Hid (NT w6 b k (dropG g ((x.params.map Pa.name).take (j + 1))) ∧ Below w0.heap.size w0 w6 ∧ w.grownBy w6 (some b) ∧ w6.cell? ⟨w.heap.size, 3, none⟩ = some (.slice a2 n2 c2)) := ⟨by rw [HDN.out]; exact NT.put hf1 hf2 hN6 hg6 (zM_rd w5), below_map HB5.out hg6 hb0, grown_trans G5.out hg6, N5.cell c5 hg6⟩
      clear hN6 hg6 hf1 hf2 N5 c5 kc q0 HX5
      go_wp2_with fail
      go_roundw
      case rel => exact ⟨j + 1, by omega, by go_num, HF⟩
      case measure => simp [intOf]; omega
    · have : n1 = j := by omega
      subst this
      rw [List.take_of_length_le (by rw [List.length_map, HN1.out]; exact Nat.le_refl _)] at hN
      have S1 : Hid (NT wr b k (dropG (dropG g (x.params.map Pa.name)) (x.locals.take 0)) ∧ Below w0.heap.size w0 wr ∧ w.grownBy wr (some b)) := ⟨by simpa [dropG] using hN, hb, hg⟩
      clear hN hb hg
      go_wp2_with fail
      clear hc3
      generalize wr = w7 at *
      go_loopw [23] (fun i wr => ∃ j : Nat, j ≤ n2 ∧ i = .int .i64 j ∧ Hid (NT wr b k (dropG (dropG g (x.params.map Pa.name)) (x.locals.take j)) ∧ Below w0.heap.size w0 wr ∧ w.grownBy wr (some b))) (fun i _ => n2 - (intOf i).toNat)
      case atStart => exact ⟨0, Nat.zero_le _, rfl, S1⟩
      case round =>
        obtain ⟨j, hj, rfl, hst⟩ := hrel
        obtain ⟨hN, hb, hg⟩ := hst.out
        clear S1 hst
        by_cases hlt : j < n2
        · obtain ⟨y, hy⟩ : ∃ y, x.locals[j]? = some y := ⟨_, List.getElem?_eq_getElem (by rw [HN2.out]; exact hlt)⟩
          have hyl := HB2.out y (List.mem_of_getElem? hy)
          obtain ⟨bx, off, ys, rfl, hys, hcl⟩ := LRow.cellsAt HL2.out (show (txts x.locals)[j]? = some [Fl.b y] by unfold txts; rw [List.getElem?_map, hy]; rfl)
          obtain ⟨s0, _, rfl, ⟨ax, cx, rfl, hbx, _⟩, rfl⟩ := hys
          have r0 := cell_on (hcl 0 _ rfl) hb
          simp only [Nat.add_zero, Nat.mul_one] at r0
          have HDN : Hid (dropG (dropG g (x.params.map Pa.name)) (x.locals.take (j + 1)) = updG (dropG (dropG g (x.params.map Pa.name)) (x.locals.take j)) y (0, [])) := dropG_next hy
          have hbt : Bt y := hbx.2.1
          have kc := conv_bytes cx (hbx.below hb)
          obtain ⟨f, hf1, hf2⟩ := hN.ex
          clear hcl hy hbx
          go_wp2_with (at_delete; refine wpList_delN rfl _ _ rfl hf1 y rfl rfl hbt (by unfold maxLen; omega) ?_)
          intro w6 hN6 hg6
          have HF : Hid (NT w6 b k (dropG (dropG g (x.params.map Pa.name)) (x.locals.take (j + 1))) ∧ Below w0.heap.size w0 w6 ∧ w.grownBy w6 (some b)) := ⟨by rw [HDN.out]; exact NT.put hf1 hf2 hN6 hg6 (zM_rd wr), below_map hb hg6 hb0, grown_trans hg hg6⟩
          clear hN6 hg6 hf1 hf2 kc hN hb hg r0
          go_wp2_with fail
          go_roundw
          case rel => exact ⟨j + 1, by omega, by go_num, HF⟩
          case measure => simp [intOf]; omega
        · have : n2 = j := by omega
          subst this
          rw [List.take_of_length_le (by rw [HN2.out]; exact Nat.le_refl _)] at hN
          have HF : Hid (NT wr b k (dropG (dropG g (x.params.map Pa.name)) x.locals)) := hN
          clear hN hb
          go_wp2_with fail
          exact bodyPost_end (results_none rfl _ _ _) rfl ⟨rfl, HF.out, hg⟩

def paL (q : Pr) : List (List Int × Mn) := q.params.map fun a => (a.name, paMn a)
def loL (q : Pr) : List (List Int × Mn) := q.locals.map fun y => (y, ((1, []) : Mn))
def enG (g : List Int → Mn) (q : Pr) : List Int → Mn := stG (stG g (paL q)) (loL q)
def okEn (g : List Int → Mn) (q : Pr) : Bool := okG g (paL q) && okG (stG g (paL q)) (loL q)
/-- What no name stands for is nothing. -/
def Clean (g : List Int → Mn) : Prop := ∀ x, (g x).1 = 0 → g x = (0, [])

theorem stG_cons (g : List Int → Mn) (p : List Int × Mn) (l : List (List Int × Mn)) : stG g (p :: l) = stG (updG g p.1 p.2) l := rfl
theorem okG_cons (g : List Int → Mn) (p : List Int × Mn) (l : List (List Int × Mn)) : okG g (p :: l) = (decide ((g p.1).1 = 0) && okG (updG g p.1 p.2) l) := by
  unfold okG
  rw [List.length_cons, List.range_succ_eq_map, List.all_cons, List.all_map]
  rfl
theorem okG_free : ∀ {l : List (List Int × Mn)} {g : List Int → Mn}, okG g l = true → ∀ p ∈ l, (g p.1).1 = 0 := by
  intro l
  induction l with
  | nil => intro g _ p hp; simp at hp
  | cons q l ih =>
    intro g h p hp
    rw [okG_cons, Bool.and_eq_true] at h
    have h1 : (g q.1).1 = 0 := by simpa using h.1
    rcases List.mem_cons.1 hp with rfl | hp
    · exact h1
    · have := ih h.2 p hp
      unfold updG at this
      by_cases e : p.1 = q.1
      · rw [e]; exact h1
      · rw [if_neg e] at this; exact this
theorem stG_other : ∀ {l : List (List Int × Mn)} {g : List Int → Mn} {t : List Int}, (∀ p ∈ l, p.1 ≠ t) → stG g l t = g t := by
  intro l
  induction l with
  | nil => intro g t _; rfl
  | cons q l ih =>
    intro g t h
    rw [stG_cons, ih (fun p hp => h p (List.mem_cons_of_mem _ hp))]
    unfold updG
    rw [if_neg (fun e => h q (by simp) e.symm)]
theorem dropG_other : ∀ {l : List (List Int)} {g : List Int → Mn} {t : List Int}, t ∉ l → dropG g l t = g t := by
  intro l
  induction l with
  | nil => intro g t _; rfl
  | cons q l ih =>
    intro g t h
    have e : dropG g (q :: l) = dropG (updG g q (0, [])) l := rfl
    rw [e, ih (fun hp => h (List.mem_cons_of_mem _ hp))]
    unfold updG
    rw [if_neg (fun e => h (by rw [e]; simp))]
theorem dropG_in : ∀ {l : List (List Int)} {g : List Int → Mn} {t : List Int}, t ∈ l → dropG g l t = (0, []) := by
  intro l
  induction l with
  | nil => intro g t h; simp at h
  | cons q l ih =>
    intro g t h
    have e : dropG g (q :: l) = dropG (updG g q (0, [])) l := rfl
    rw [e]
    by_cases hl : t ∈ l
    · exact ih hl
    · have : t = q := by rcases List.mem_cons.1 h with h | h; exact h; exact absurd h hl
      rw [dropG_other hl]
      unfold updG
      rw [if_pos this]
/-- Behind a procedure all is as it was. -/
theorem left_same {g : List Int → Mn} {q : Pr} (hc : Clean g) (h : okEn g q = true) : dropG (dropG (enG g q) (q.params.map Pa.name)) q.locals = g := by
  unfold okEn at h
  rw [Bool.and_eq_true] at h
  have f1 := okG_free h.1
  have f2 := okG_free h.2
  funext t
  by_cases h2 : t ∈ q.locals
  · rw [dropG_in h2]
    have e2 := f2 (t, (1, [])) (List.mem_map.2 ⟨t, h2, rfl⟩)
    simp only at e2
    by_cases h1 : t ∈ q.params.map Pa.name
    · obtain ⟨a, ha, rfl⟩ := List.mem_map.1 h1
      exact (hc _ (f1 (a.name, paMn a) (List.mem_map.2 ⟨a, ha, rfl⟩))).symm
    · rw [stG_other (fun p hp e => h1 (by obtain ⟨a, ha, rfl⟩ := List.mem_map.1 hp; exact List.mem_map.2 ⟨a, ha, e⟩))] at e2
      exact (hc t e2).symm
  · rw [dropG_other h2]
    by_cases h1 : t ∈ q.params.map Pa.name
    · rw [dropG_in h1]
      obtain ⟨a, ha, rfl⟩ := List.mem_map.1 h1
      exact (hc _ (f1 (a.name, paMn a) (List.mem_map.2 ⟨a, ha, rfl⟩))).symm
    · rw [dropG_other h1]
      unfold enG
      rw [stG_other (fun p hp e => h2 (by obtain ⟨y, hy, rfl⟩ := List.mem_map.1 hp; rw [← e]; exact hy)), stG_other (fun p hp e => h1 (by obtain ⟨a, ha, rfl⟩ := List.mem_map.1 hp; exact List.mem_map.2 ⟨a, ha, e⟩))]

theorem NT.mono {w : World} {b k k' : Nat} {g : List Int → Mn} (h : NT w b k g) (hk : k ≤ k') : NT w b k' g := by
  obtain ⟨f, hm, h2⟩ := h.ex
  obtain ⟨D, h3, r⟩ := hm.ex
  exact ⟨⟨f, ⟨⟨D, h3.mono hk, r⟩⟩, h2⟩⟩

/-- What a procedure's own may be, by its size. -/
structure PrLen (q : Pr) : Prop where
  np : q.params.length ≤ 4
  nl : q.locals.length ≤ 8
  pn : ∀ a ∈ q.params, a.name.length ≤ 1048576
  ln : ∀ y ∈ q.locals, y.length ≤ 1048576

set_option maxHeartbeats 4000000 in
theorem ownOneC (q : Pr) (vs : List Value) (w0 w : World) (b k nb : Nat) (g : List Int → Mn) (h : RdVals w0 q.fl vs) (hw : Below w0.heap.size w0 w) (hb0 : w0.heap.size ≤ b) (hN : NT w b k g) (hk : k + 12 ≤ 1000000) (hc : w.cell? ⟨nb, 0, none⟩ = some (.map (some b))) (hcl : Clean g) (hpl : PrLen q) :
    Calls Tryz.prog 36 #[agg vs, .pointer (some ⟨nb, 0, none⟩)] w fun e w' => e = .returned (.bool (okEn g q)) ∧ Dn w w' b (k + 12) g (okEn g q) := by
  obtain ⟨v0, v1, v2, v3, v4, rfl⟩ : ∃ v0 v1 v2 v3 v4, vs = [v0, v1, v2, v3, v4] := by
    have hl := h.len
    match vs, hl with
    | [v0, v1, v2, v3, v4], _ => exact ⟨v0, v1, v2, v3, v4, rfl⟩
  have x0 := Blk.new w 64 [v0, v1, v2, v3, v4]
  have y0 := grown_alloc w (.cells #[v0, v1, v2, v3, v4] 64 (0, 0)) none
  have N1 := hN.grown y0
  have c1 := cell_on hc (below_grown y0)
  have hw1 := hw.trans ((below_grown y0).mono hw.size)
  have e1 : (paL q).length = q.params.length := by simp [paL]
  have e2 : (loL q).length = q.locals.length := by simp [loL]
  have p4 := hpl.np
  have p8 := hpl.nl
  simp only [List.toArray] at x0
  simp only [agg]
  go_enter Tryz.func36, Tryz.ntmps36
  go_upto_region 1 with fail
  generalize w.alloc (.cells #[v0, v1, v2, v3, v4] 64 (0, 0)) = w1 at *
  have H1 := enterC q _ w0 w1 b k g h hw1 hb0 N1 (by show k + (paL q).length + (loL q).length ≤ _; omega) hpl.pn hpl.ln
  have HE : Hid (NT w1 b k g) := N1
  change Calls _ _ _ _ (fun e w' => e = .returned (.bool (okEn g q)) ∧ Dn w1 w' b (k + (paL q).length + (loL q).length) (enG g q) (okEn g q)) at H1
  simp only [agg, List.toArray] at H1
  have q0 := x0.cell (i := 0) rfl
  have q1 := x0.cell (i := 1) rfl
  have q2 := x0.cell (i := 2) rfl
  have q3 := x0.cell (i := 3) rfl
  have q4 := x0.cell (i := 4) rfl
  have Y0 : Hid (w.grownBy w1 none) := y0
  have HH : Hid (RdVals w0 q.fl [v0, v1, v2, v3, v4]) := h
  have HP : Hid (PrLen q) := hpl
  clear hN hc hw y0 h hpl
  cases hok : okEn g q
  · rw [hok] at H1
    have HF : Hid (okEn g q = false) := hok
    clear hok
    go_wp2_with fail
    refine H1.mono ?_
    rintro e w2 ⟨rfl, hd⟩
    have HD : Hid (Dn w w2 b (k + 12) g false) := ⟨fun e => (by cases e), grown_map Y0.out hd.grown⟩
    clear H1 hd q0 q1 q2 q3 q4 x0 N1 c1
    go_wp2_with fail
    go_ret
    exact ⟨ret_bool HF.out.symm, by rw [HF.out]; exact HD.out⟩
  · rw [hok] at H1
    have HT : Hid (okEn g q = true) := hok
    have HL : Hid (dropG (dropG (enG g q) (q.params.map Pa.name)) q.locals = g) := left_same hcl hok
    clear hok
    go_wp2_with fail
    refine H1.mono ?_
    rintro e w2 ⟨rfl, hd⟩
    have N2 := hd.yes rfl
    have hg2 := hd.grown
    have c2 := HE.out.cell c1 hg2
    have r0 := HE.out.cell q0 hg2
    have r1 := HE.out.cell q1 hg2
    have r2 := HE.out.cell q2 hg2
    have r3 := HE.out.cell q3 hg2
    have r4 := HE.out.cell q4 hg2
    have hw2 := below_map hw1 hg2 hb0
    have H2 := leaveC q _ w0 w2 b _ _ HH.out hw2 hb0 N2 HP.out.pn HP.out.ln
    rw [HL.out] at H2
    simp only [agg, List.toArray] at H2
    have G2 : Hid (w.grownBy w2 (some b)) := grown_map Y0.out hg2
    clear H1 hd q0 q1 q2 q3 q4 x0 N1 c1 hg2 HE N2
    go_wp2_with fail
    refine H2.mono ?_
    rintro e w3 ⟨rfl, hN3, hg3⟩
    have HD : Hid (Dn w w3 b (k + 12) g true) := ⟨fun _ => hN3.mono (by omega), grown_trans G2.out hg3⟩
    clear H2 hN3 hg3 c2 r0 r1 r2 r3 r4 hw2
    go_wp2_with fail
    go_ret
    exact ⟨ret_bool HT.out.symm, by rw [HT.out]; exact HD.out⟩

set_option maxHeartbeats 4000000 in
theorem ownOkC (l : List Pr) (a : Option Addr) (n c : Nat) (w0 w : World) (b k : Nat) (g : List Int → Mn) (hL : LRow w0 a c 5 (l.map Pr.fl)) (hn : l.length = n) (hw : Below w0.heap.size w0 w) (hb0 : w0.heap.size ≤ b) (hN : NT w b k g) (hk : k + 12 * n ≤ 999000) (hcl : Clean g) (hpl : ∀ q ∈ l, PrLen q) :
    Calls Tryz.prog 13 #[.map (some b), .slice a n c] w fun e w' => e = .returned (.bool (l.all (okEn g))) ∧ Dn w w' b (k + 12 * n) g (l.all (okEn g)) := by
  have hmf : ∀ (fn : Fn) (first cap : Array Value) (w : World), (Instr.makeFunc fn first cap).run Tryz.prog w = .ok (.func fn first cap) w := fun _ _ _ _ => rfl
  have x0 := Blk.new w 44 [.map (some b)]
  have y0 := grown_alloc w (.cells #[.map (some b)] 44 (0, 0)) none
  have N1 := hN.grown y0
  have hw1 := hw.trans ((below_grown y0).mono hw.size)
  simp only [List.toArray] at x0
  go_enter Tryz.func13, Tryz.ntmps13
  go_upto_region 1 with fail
  generalize w.alloc (.cells #[.map (some b)] 44 (0, 0)) = w1 at *
  have q0 := x0.cell (i := 0) rfl
  have A : Asks false 36 #[.pointer (some ⟨w.heap.size, 0, none⟩)] (some b) agg a c 5 (l.map Pr.fl) (fun j => okEn g (l[j]?.getD ⟨[], false, [], [], []⟩)) (fun j wr => (NT wr b (k + 12 * j) g ∧ wr.cell? ⟨w.heap.size, 0, none⟩ = some (.map (some b)) ∧ Below w0.heap.size w0 wr) ∧ j ≤ n) (fun _ _ => True) := by
    refine ⟨ent_of Tryz.func36 rfl rfl, fun j wr hi => hL.below hi.1.2.2, by intro r hr; obtain ⟨y, _, rfl⟩ := List.mem_map.1 hr; rfl, ?_⟩
    rintro j r wr vs hr ⟨⟨hN, hc, hb⟩, hj⟩ hvs hcs
    have hlt := (List.getElem?_eq_some_iff.1 hr).1
    rw [List.length_map, hn] at hlt
    have hvl : vs.length = r.length := hvs.len
    have hv0 := vals_back hL hb hr hvl hcs
    rw [List.getElem?_map] at hr
    obtain ⟨q, hq, rfl⟩ := Option.map_eq_some_iff.1 hr
    rw [hq]
    refine (ownOneC q vs w0 wr b (k + 12 * j) w.heap.size g hv0 hb hb0 hN (by omega) hc hcl (hpl q (List.mem_of_getElem? hq))).mono ?_
    rintro e w' ⟨rfl, hd⟩
    exact ⟨rfl, hd.grown, fun hy => ⟨⟨(hd.yes hy).mono (by omega), hN.cell hc hd.grown, below_map hb hd.grown hb0⟩, by omega⟩, fun _ => trivial⟩
  have H1 := allProc 36 #[.pointer (some ⟨w.heap.size, 0, none⟩)] (some b) a n c (l.map Pr.fl) _ _ _ w1 A (by rw [List.length_map, hn]) ⟨⟨by simpa using N1, q0, hw1⟩, Nat.zero_le _⟩ (fun j w w' h hg => ⟨⟨h.1.1.grown hg, cell_on h.1.2.1 (below_grown hg), h.1.2.2.trans ((below_grown hg).mono h.1.2.2.size)⟩, h.2⟩) (fun j hj => by cases hj; exact N1.lt) (ent_of Tryz.func66 rfl rfl)
  go_wp2_with fail
  refine H1.mono ?_
  rintro e w2 ⟨r, rfl, hg2, ht⟩
  have er : r = l.all (okEn g) := by
    rw [told_all ht, ← hn]
    exact range_all l ⟨[], false, [], [], []⟩ (okEn g)
  have HD : Hid (Dn w w2 b (k + 12 * n) g r) := ⟨fun e => ((ht.no (by rw [e]; rfl)).2).1.1, grown_map y0 hg2⟩
  have ER : Hid (r = l.all (okEn g)) := er
  clear H1 A ht er hg2 q0 x0 N1 hN
  go_wp2_with fail
  go_ret
  exact ⟨ret_bool ER.out, by rw [← ER.out]; exact HD.out⟩
end Go.Proofs.YtajnfknldofjlaaGreatDoor

import Derived.Test.YtajnfknldofjlaaGreatDoorPackD
import Derived.RangeFuncOwn
import Derived.RangeFuncNested
import Derived.RangeFuncBound
import Derived.RangeFuncCalls
import Derived.RangeFuncLeaves
import Derived.Shelf.Abstract
import Derived.Shelf.RegionOpen
import Derived.WalkKit
import Derived.OwnWalkIn
import Derived.TacticsInMore
import Derived.LoopNIn
import Derived.LoopIn
import Derived.OrdersIn
import Derived.Test.YtajnfknldofjlaaGreatDoorPage
import Derived.Scope
import Derived.Sort.CutIn
import Derived.Test.YtajnfknldofjlaaGreatDoorPsPure
namespace Go.Proofs.YtajnfknldofjlaaGreatDoor
open Go.RowKit
set_option linter.unusedVariables false
set_option linter.unusedSimpArgs false
set_option maxRecDepth 100000

theorem amongOne (a0 : Option Addr) (n0 c0 : Nat) (l0 : List Int) (g2 : Nat) (a2 : Option Addr) (n2 c2 : Nat) (l2 : List Int) (w : World)
    (h0 : BRow w a0 n0 l0) (h2 : BRow w a2 n2 l2) (x2 : w.cell? ⟨g2, 0, none⟩ = some (.slice a2 n2 c2)) :
    Calls Tryz.prog 74 #[.slice a0 n0 c0, .pointer (some ⟨g2, 0, none⟩)] w fun e w' => e = .returned (.bool (decide (l0 = l2))) ∧ w' = w := by
  have HE := bytesEqualM a0 n0 c0 l0 a2 n2 c2 l2 w h0 h2
  clear h0 h2
  go_enter Tryz.func74, Tryz.ntmps74
  go_wp2_with fail
  refine HE.mono ?_
  rintro e w3 ⟨rfl, rfl⟩
  go_wp2_with fail
  go_ret
  exact ⟨rfl, rfl⟩

set_option maxHeartbeats 1000000 in
theorem amongC (a : Option Addr) (n c : Nat) (l : List (List Int)) (a2 : Option Addr) (n2 c2 : Nat) (l2 : List Int) (w : World) (hn : l.length = n)
    (h : LRow w a c 1 (txts l)) (h2 : BRow w a2 n2 l2) :
    Calls Tryz.prog 40 #[.slice a n c, .slice a2 n2 c2] w fun e w' => e = .returned (.bool (l.any fun y => decide (y = l2))) ∧ w.grownBy w' none := by
  have hmf : ∀ (fn : Fn) (first cap : Array Value) (w : World), (Instr.makeFunc fn first cap).run Tryz.prog w = .ok (.func fn first cap) w := fun _ _ _ _ => rfl
  have y0 := grown_alloc w (.cells #[.slice a2 n2 c2] 22 (0, 0)) none
  have x2 := cell_new w 22 #[.slice a2 n2 c2] 0 _ rfl
  have hb := below_grown y0
  replace h := h.below hb
  replace h2 := h2.below hb
  have HC : Calls Tryz.prog 73 #[.slice a n c, .func (.func 74) #[] #[.pointer (some ⟨w.heap.size, 0, none⟩)]] (w.alloc (.cells #[.slice a2 n2 c2] 22 (0, 0))) fun e w' => ∃ r : Bool, e = .returned (.bool r) ∧ r = (l.any fun y => decide (y = l2)) ∧ (w.alloc (.cells #[.slice a2 n2 c2] 22 (0, 0))).grownBy w' none := by
    generalize (w.alloc (.cells #[.slice a2 n2 c2] 22 (0, 0))) = W at *
    refine (containsTxt 74 _ none a n c (txts l) (fun j => decide ((l[j]?.getD []) = l2)) (fun _ wr => Below W.heap.size W wr) (fun _ _ => True) W ⟨ent_of Tryz.func74 rfl rfl, fun j wr hi => h.below hi, ?_, ?_⟩ (by simpa [txts] using hn) (Below.refl _ _)).mono ?_
    · intro r hr
      unfold txts at hr
      obtain ⟨x, _, rfl⟩ := List.mem_map.1 hr
      rfl
    · intro j r wr vs hr hi hvs _
      unfold txts at hr
      rw [List.getElem?_map] at hr
      obtain ⟨x, hx, rfl⟩ := Option.map_eq_some_iff.1 hr
      rw [hx]
      obtain ⟨y0, us, rfl, ⟨a0, c0, rfl, hb0, _⟩, rfl⟩ := hvs
      refine (amongOne a0 x.length c0 x w.heap.size a2 n2 c2 l2 wr hb0 (h2.below hi) (cell_on x2 hi)).mono ?_
      rintro e w' ⟨rfl, rfl⟩
      exact ⟨rfl, grown_refl _ _, fun _ => hi, fun _ => trivial⟩
    · rintro e w' ⟨r, rfl, hg, ht⟩
      refine ⟨r, rfl, ?_, hg⟩
      rw [told_any ht, ← hn]
      exact range_any l [] fun y => decide (y = l2)
  clear h h2 hb
  go_enter Tryz.func40, Tryz.ntmps40
  go_upto_region 1 with fail
  generalize (w.alloc (.cells #[.slice a2 n2 c2] 22 (0, 0))) = W at *
  go_wp2_with fail
  refine HC.mono ?_
  rintro e w3 ⟨r, rfl, hr, hg⟩
  have HR : Hid (r = (l.any fun y => decide (y = l2))) := hr
  clear hr
  go_wp2_with fail
  go_ret
  exact ⟨ret_bool HR.out, grown_trans y0 hg⟩

/-- A module used: another one, once, of those at hand. -/
def useAt (m : Mo) (fs : List Fa) (j : Nat) : Bool := !(decide (m.uses[j]?.getD [] = m.name) || ((m.uses.take j).any fun y => decide (y = m.uses[j]?.getD [])) || !(fs.any fun f => decide (f.name = m.uses[j]?.getD [])))
def usesB (m : Mo) (fs : List Fa) : Bool := (List.range m.uses.length).all (useAt m fs)

theorem usesB_not {m : Mo} {fs : List Fa} {j : Nat} (hj : j < m.uses.length) (h : useAt m fs j = false) : usesB m fs = false := by
  unfold usesB
  rw [List.all_eq_false]
  exact ⟨j, by simpa using hj, by simp [h]⟩
theorem usesB_yes {m : Mo} {fs : List Fa} (h : ∀ i, i < m.uses.length → useAt m fs i = true) : usesB m fs = true := by
  unfold usesB
  rw [List.all_eq_true]
  exact fun x hx => h x (by simpa using hx)

set_option maxHeartbeats 4000000 in
theorem usesC (m : Mo) (fs : List Fa) (vs : List Value) (w0 w : World) (a2 : Option Addr) (n2 c2 : Nat) (h : RdVals w0 m.fl vs) (h2 : LRow w0 a2 c2 2 (fs.map Fa.fl)) (hn2 : fs.length = n2) (hw : Below w0.heap.size w0 w) :
    Calls Tryz.prog 14 #[agg vs, .slice a2 n2 c2] w fun e w' => e = .returned (.bool (usesB m fs)) ∧ w.grownBy w' none := by
  obtain ⟨v0, _, rfl, h0, v1, _, rfl, h1, v2, _, rfl, _, v3, _, rfl, _, rfl⟩ := h
  obtain ⟨a0, c0, rfl, hb0, _⟩ := h0
  obtain ⟨a1, c1, rfl, hL1⟩ := h1.list
  have e1 : (txts m.uses).length = m.uses.length := by simp [txts]
  have h91 := hL1.len9
  rw [e1] at h91 ⊢
  obtain ⟨n1, hn1⟩ : ∃ z, z = m.uses.length := ⟨_, rfl⟩
  have HN1 : Hid (m.uses.length = n1) := hn1.symm
  rw [← hn1] at h91 ⊢
  have hcap : n1 ≤ c1 := by have := hL1.cap; rw [e1] at this; omega
  have x0 := Blk.new w 29 [.slice a0 m.name.length c0, .slice a1 n1 c1, v2, v3]
  have y0 := grown_alloc w (.cells #[.slice a0 m.name.length c0, .slice a1 n1 c1, v2, v3] 29 (0, 0)) none
  have hw1 := hw.trans ((below_grown y0).mono hw.size)
  simp only [List.toArray] at x0
  have HL : Hid (LRow w0 a1 c1 1 (txts m.uses)) := hL1
  have HF : Hid (LRow w0 a2 c2 2 (fs.map Fa.fl)) := h2
  have HB : Hid (BRow w0 a0 m.name.length m.name) := hb0
  clear h1 hL1 h2 hb0 e1 hn1
  simp only [agg]
  go_enter Tryz.func14, Tryz.ntmps14
  go_upto_region 1 with fail
  generalize w.alloc (.cells #[.slice a0 m.name.length c0, .slice a1 n1 c1, v2, v3] 29 (0, 0)) = w1 at *
  have q1 := x0.cell (i := 1) rfl
  go_wp2_with fail
  go_loopw [5, 6, 10] (fun _ _ i wr => ∃ j : Nat, j ≤ n1 ∧ i = .int .i64 j ∧ Hid (∀ i, i < j → useAt m fs i = true) ∧ Hid (w1.grownBy wr none)) (fun _ _ i _ => n1 - (intOf i).toNat)
  case atStart => exact ⟨0, Nat.zero_le _, rfl, by show ∀ _, _; omega, grown_refl _ _⟩
  case round =>
    obtain ⟨j, hj, rfl, hno, hgr⟩ := hrel
    by_cases hlt : j < n1
    · obtain ⟨u, hu⟩ : ∃ u, m.uses[j]? = some u := ⟨_, List.getElem?_eq_getElem (by rw [HN1.out]; exact hlt)⟩
      have hxj : (txts m.uses)[j]? = some [.b u] := by unfold txts; rw [List.getElem?_map, hu]; rfl
      obtain ⟨bk, off, us, rfl, hvs, hcl⟩ := LRow.cellsAt HL.out hxj
      obtain ⟨y0, us2, rfl, ⟨au, cu, rfl, hbu, _⟩, rfl⟩ := hvs
      have hbr := below_grown hgr.out
      have hw0 := hw1.trans (hbr.mono hw1.size)
      have r0 := cell_on (hcl 0 _ rfl) hw0
      simp only [Nat.mul_one, Nat.add_zero] at r0
      have HU : Hid (useAt m fs j = !((decide (u = m.name) || ((m.uses.take j).any fun y => decide (y = u))) || !(fs.any fun f => decide (f.name = u)))) := by
        show _ = _
        unfold useAt
        rw [hu]
        rfl
      have hlz : (m.uses.take j).length = j := by rw [List.length_take, HN1.out]; omega
      have ht : LRow w0 (some ⟨bk, off, none⟩) c1 1 (txts (m.uses.take j)) := by unfold txts; rw [List.map_take]; exact LRow.take HL.out j
      have HE : ∀ wl, Below w0.heap.size w0 wl → Calls Tryz.prog 39 #[.slice au u.length cu, .slice a0 m.name.length c0] wl fun e w' => e = .returned (.bool (decide (u = m.name))) ∧ w' = wl := fun wl hb => bytesEqualM au _ cu u a0 _ c0 m.name wl (hbu.below hb) (HB.out.below hb)
      have HA : ∀ wl, Below w0.heap.size w0 wl → Calls Tryz.prog 40 #[.slice (some ⟨bk, off, none⟩) j c1, .slice au u.length cu] wl fun e w' => e = .returned (.bool ((m.uses.take j).any fun y => decide (y = u))) ∧ wl.grownBy w' none := fun wl hb => amongC _ j c1 (m.uses.take j) au _ cu u wl hlz (ht.below hb) (hbu.below hb)
      have HH : ∀ wl, Below w0.heap.size w0 wl → Calls Tryz.prog 41 #[.slice a2 n2 c2, .func (.func 28) #[] #[], .slice au u.length cu] wl fun e w' => e = .returned (.bool (fs.any fun f => decide (f.name = u))) ∧ wl.grownBy w' none := fun wl hb => hasFace (ent_of Tryz.func110 rfl rfl) a2 c2 fs n2 au _ cu u wl hn2 (HF.out.below hb) (hbu.below hb)
      clear hcl hxj hu hlz ht hbu
      generalize (fs.any fun f => decide (f.name = u)) = r3 at HH HU
      generalize ((m.uses.take j).any fun y => decide (y = u)) = r2 at HA HU
      generalize decide (u = m.name) = r1 at HE HU
      have z0 : (0 : Int) ≤ (j : Int) := by omega
      have z1 : (j : Int) ≤ (c1 : Int) := by omega
      have z2 : (j : Int) ≤ (n1 : Int) := by omega
      have s0 := cell_on (x0.cell (i := 0) rfl) hbr
      have s1 := cell_on (x0.cell (i := 1) rfl) hbr
      have H3 := HE wr hw0
      have H10 := HA wr hw0
      have HW : Hid (Below w0.heap.size w0 wr) := hw0
      clear hbr hw0 HE HA x0 q1
      cases r1
      · go_wp2_with fail
        refine H3.mono ?_
        rintro r w3 ⟨rfl, rfl⟩
        clear H3
        go_wp2_with fail
        refine H10.mono ?_
        rintro r w4 ⟨rfl, hg4⟩
        have H15 := HH w4 (HW.out.trans ((below_grown hg4).mono HW.out.size))
        clear H10 HH s0 s1 r0
        cases r2
        · go_wp2_with fail
          refine H15.mono ?_
          rintro r w5 ⟨rfl, hg5⟩
          have HG : Hid (w1.grownBy w5 none) := grown_trans hgr.out (grown_trans hg4 hg5)
          clear H15 hg4 hg5
          cases r3
          · go_wp2_with fail
            go_ret
            exact ⟨ret_bool (Eq.symm (usesB_not (by rw [HN1.out]; exact hlt) (by rw [HU.out]; rfl))), grown_trans y0 HG.out⟩
          · go_wp2_with fail
            go_roundw
            case rel => exact ⟨j + 1, by omega, by go_num, (show ∀ i, i < j + 1 → useAt m fs i = true from fun i hi => (Nat.lt_or_ge i j).elim (fun h => hno.out i h) (fun h => (show j = i by omega) ▸ (by rw [HU.out]; rfl))), HG⟩
            case measure => simp [intOf]; omega
        · have HG : Hid (w1.grownBy w4 none) := grown_trans hgr.out hg4
          clear H15 hg4
          go_wp2_with fail
          go_ret
          exact ⟨ret_bool (Eq.symm (usesB_not (by rw [HN1.out]; exact hlt) (by rw [HU.out]; rfl))), grown_trans y0 HG.out⟩
      · clear H10 HH
        go_wp2_with fail
        refine H3.mono ?_
        rintro r w3 ⟨rfl, rfl⟩
        clear H3 s0 s1 r0
        go_wp2_with fail
        go_ret
        exact ⟨ret_bool (Eq.symm (usesB_not (by rw [HN1.out]; exact hlt) (by rw [HU.out]; rfl))), grown_trans y0 hgr.out⟩
    · have : j = n1 := by omega
      subst this
      go_wp2_with fail
      go_ret
      exact ⟨ret_bool (Eq.symm (usesB_yes fun i hi => hno.out i (by rw [← HN1.out]; exact hi))), grown_trans y0 hgr.out⟩
end Go.Proofs.YtajnfknldofjlaaGreatDoor
namespace Go.Proofs.YtajnfknldofjlaaGreatDoor
open Go.RowKit
set_option linter.unusedVariables false
set_option linter.unusedSimpArgs false
set_option maxRecDepth 100000

def callN (m x : List Int) : List Int := if m = [] then x else m ++ [46] ++ x

theorem callNameC (a1 : Option Addr) (n1 c1 : Nat) (l1 : List Int) (a2 : Option Addr) (n2 c2 : Nat) (l2 : List Int) (w : World)
    (h1 : BRow w a1 n1 l1) (h2 : BRow w a2 n2 l2) (hn1 : n1 ≤ 1048576) (hn2 : n2 ≤ 1048576) :
    Calls Tryz.prog 42 #[.slice a1 n1 c1, .slice a2 n2 c2] w fun e w' => e = .returned (.string (strOfNums (callN l1 l2))) ∧ w' = w := by
  go_enter Tryz.func42, Tryz.ntmps42
  have k1 := conv_bytes c1 h1
  have k2 := conv_bytes c2 h2
  have e1 : l1.length = n1 := h1.1
  have e2 : l2.length = n2 := h2.1
  clear h1 h2
  rcases Nat.eq_zero_or_pos n1 with rfl | hp
  · have e0 : l1 = [] := List.eq_nil_of_length_eq_zero e1
    subst e0
    clear e1 e2
    go_wp2_with fail
    go_ret
    exact ⟨rfl, rfl⟩
  · have hne : (n1 : Int) ≠ 0 := by omega
    have z1 : ¬ 9223372036854775807 < (strOfNums l1).size + 1 := by rw [strOfNums_size]; omega
    have z2 : ¬ 9223372036854775807 < (strOfNums l1).size + 1 + (strOfNums l2).size := by rw [strOfNums_size, strOfNums_size]; omega
    have e1' : Hid (l1.length = n1) := e1
    clear e1 e2
    go_wp2_with fail
    go_ret
    replace e1' := e1'.out
    refine ⟨?_, rfl⟩
    have hc : callN l1 l2 = l1 ++ [46] ++ l2 := by unfold callN; rw [if_neg (by intro e; rw [e] at e1'; simp at e1'; omega)]
    rw [hc]
    have : strOfNums (l1 ++ [46] ++ l2) = strOfNums l1 ++ ⟨#[46]⟩ ++ strOfNums l2 := by
      apply ByteArray.ext
      apply Array.toList_inj.1
      simp [strOfNums]
    rw [this]
    rfl

/-- n[s] = v, in a drawn region. -/
theorem wp_putN {w : World} {o : Oper} {a : Act} {K : Act → World → Prop} {Q : Exit → Act → World → Prop} {b k : Nat} {f : List Int → Value} (m x v : Operand) (ho : o.op = .mapUpdate 44 m x v)
    (h : NM w b k f) (hk : k < maxLen) (s : List Int) (val : Value) (hm : a.eval m = .map (some b)) (hx : a.eval x = .string (strOfNums s)) (hv : a.eval v = val) (hs : Bt s) (hl : s.length ≤ maxLen)
    (hK : ∀ w', NM w' b (k + 1) (upd f s val) → w.grownBy w' (some b) → K (a.put o.dst undef) w') : Oper.wp Tryz.prog o a w K Q := by
  obtain ⟨D, h1, h2, h3⟩ := h.ex
  obtain ⟨w', hrun, r1, r2⟩ := h1.update (t := 44) (e := 80) (Maps.string_keyed Tryz.underlying9) Tryz.underlying44 hk (keyOf_nums hl) (val := val) (d := .held val) (ps := []) rfl
  unfold Oper.wp
  simp [execOp, ho, hm, hx, hv, hrun, Result.andThen]
  exact hK w' (NM.put h2 h3 hs r1) r2

def fpL (f : Fa) : List (List Int × Mn) := f.procs.map fun q => (callN f.name q.name, (3, q.kinds))
def useG (us : List (List Int)) (g : List Int → Mn) (f : Fa) : List Int → Mn := if us.any (fun y => decide (y = f.name)) then stG g (fpL f) else g
def usedG (us : List (List Int)) (g : List Int → Mn) (fs : List Fa) : List Int → Mn := fs.foldl (useG us) g
theorem usedG_next {us : List (List Int)} {g : List Int → Mn} {l : List Fa} {j : Nat} {f : Fa} (h : l[j]? = some f) : usedG us g (l.take (j + 1)) = useG us (usedG us g (l.take j)) f := by
  obtain ⟨hj, rfl⟩ := List.getElem?_eq_some_iff.1 h
  unfold usedG
  rw [List.take_succ_eq_append_getElem hj, List.foldl_append]
  rfl
theorem callN_bt {m x : List Int} (hm : Bt m) (hx : Bt x) : Bt (callN m x) := by
  unfold callN Bt
  split
  · exact hx
  · intro z hz
    simp only [List.mem_append, List.mem_singleton] at hz
    rcases hz with (h | h) | h
    · exact hm z h
    · subst h; decide
    · exact hx z h
theorem callN_len {m x : List Int} : (callN m x).length ≤ m.length + 1 + x.length := by
  unfold callN
  split
  · omega
  · simp only [List.length_append, List.length_singleton]; omega
/-- What a face may be, by its size. -/
structure FaLen (f : Fa) : Prop where
  np : f.procs.length ≤ 8
  nm : f.name.length ≤ 1048576
  pn : ∀ q ∈ f.procs, q.name.length ≤ 1048576

set_option maxHeartbeats 4000000 in
theorem declareUsedC (us : List (List Int)) (a1 : Option Addr) (n1 c1 : Nat) (fs : List Fa) (a2 : Option Addr) (n2 c2 : Nat) (w0 w : World) (b k : Nat) (g : List Int → Mn) (h1 : LRow w0 a1 c1 1 (txts us)) (hn1 : us.length = n1) (h2 : LRow w0 a2 c2 2 (fs.map Fa.fl)) (hn2 : fs.length = n2) (hw : Below w0.heap.size w0 w) (hb0 : w0.heap.size ≤ b) (hN : NT w b k g) (hk : k + 8 * n2 ≤ 999000) (hP : Hid (∀ f ∈ fs, FaLen f)) :
    Calls Tryz.prog 15 #[.map (some b), .slice a1 n1 c1, .slice a2 n2 c2] w fun e w' => e = .returned (.tuple #[]) ∧ NT w' b (k + 8 * n2) (usedG us g fs) ∧ w.grownBy w' (some b) := by
  have HN1 : Hid (us.length = n1) := hn1
  have HN2 : Hid (fs.length = n2) := hn2
  have HL1 : Hid (LRow w0 a1 c1 1 (txts us)) := h1
  have HL2 : Hid (LRow w0 a2 c2 2 (fs.map Fa.fl)) := h2
  have h92 := h2.len9
  rw [List.length_map, hn2] at h92
  have S0 : Hid (NT w b (k + 8 * 0) (usedG us g (fs.take 0)) ∧ Below w0.heap.size w0 w ∧ w.grownBy w (some b)) := ⟨by simpa [usedG] using hN, hw, grown_refl _ _⟩
  clear h1 h2 hn1 hn2 hN hw
  go_enter Tryz.func15, Tryz.ntmps15
  go_wp2_with fail
  go_loopw [12] (fun i wr => ∃ j : Nat, j ≤ n2 ∧ i = .int .i64 j ∧ Hid (NT wr b (k + 8 * j) (usedG us g (fs.take j)) ∧ Below w0.heap.size w0 wr ∧ w.grownBy wr (some b))) (fun i _ => n2 - (intOf i).toNat)
  case atStart => exact ⟨0, Nat.zero_le _, rfl, S0⟩
  case round =>
    obtain ⟨j, hj, rfl, hst⟩ := hrel
    obtain ⟨hN, hb, hg⟩ := hst.out
    clear S0 hst
    by_cases hlt : j < n2
    · obtain ⟨f, hf⟩ : ∃ f, fs[j]? = some f := ⟨_, List.getElem?_eq_getElem (by rw [HN2.out]; exact hlt)⟩
      have HFL : Hid (FaLen f) := hP.out f (List.mem_of_getElem? hf)
      have hnm := HFL.out.nm
      have hnp := HFL.out.np
      have HUN : Hid (usedG us g (fs.take (j + 1)) = useG us (usedG us g (fs.take j)) f) := usedG_next hf
      obtain ⟨bx, off, ys, rfl, hys, hcl⟩ := LRow.cellsAt HL2.out (show (fs.map Fa.fl)[j]? = some f.fl by rw [List.getElem?_map, hf]; rfl)
      obtain ⟨s0, _, rfl, ⟨ax, cx, rfl, hbx, _⟩, s1, _, rfl, h2, rfl⟩ := hys
      obtain ⟨ap, cp, rfl, hLp⟩ := h2.list
      have e2 : (f.procs.map Fp.fl).length = f.procs.length := by simp
      have h93 := hLp.len9
      rw [e2] at h93 hcl
      obtain ⟨np, hnp'⟩ : ∃ z, z = f.procs.length := ⟨_, rfl⟩
      rw [← hnp'] at h93 hcl hnp
      have HNP : Hid (f.procs.length = np) := hnp'.symm
      have r0 := cell_on (hcl 0 _ rfl) hb
      have r1 := cell_on (hcl 1 _ rfl) hb
      rw [Nat.add_zero] at r0
      have HLP : Hid (LRow w0 ap cp 2 (f.procs.map Fp.fl)) := hLp
      have HBX : Hid (BRow w0 ax f.name.length f.name) := hbx
      have z5 := Blk.new wr 72 [.slice ax f.name.length cx, .slice ap np cp]
      have g5 := grown_alloc wr (.cells #[.slice ax f.name.length cx, .slice ap np cp] 72 (0, 0)) none
      simp only [List.toArray] at z5
      have N5 := hN.grown g5
      have b5 := hb.trans ((below_grown g5).mono hb.size)
      have G5 : Hid (w.grownBy (wr.alloc (.cells #[.slice ax f.name.length cx, .slice ap np cp] 72 (0, 0))) (some b)) := grown_trans hg (grown_any g5 _)
      clear hcl hf hbx hLp h2 hN hb hg g5 e2 hnp'
      go_upto_region 3 with fail
      generalize wr.alloc (.cells #[.slice ax f.name.length cx, .slice ap np cp] 72 (0, 0)) = w5 at *
      generalize wr.heap.size = gF at *
      have q0 := z5.cell (i := 0) rfl
      have HA := amongC a1 n1 c1 us ax _ cx f.name w5 HN1.out (HL1.out.below b5) (HBX.out.below b5)
      clear r0 r1
      go_wp2_with fail
      refine HA.mono ?_
      rintro e w6 ⟨rfl, hg6⟩
      have N6 := N5.grown hg6
      have b6 := b5.trans ((below_grown hg6).mono b5.size)
      have G6 : Hid (w.grownBy w6 (some b)) := grown_trans G5.out (grown_any hg6 _)
      have p0 := cell_on (z5.cell (i := 0) rfl) (below_grown hg6)
      have p1 := cell_on (z5.cell (i := 1) rfl) (below_grown hg6)
      clear HA q0 z5 N5 b5 G5 hg6
      cases hA : us.any (fun y => decide (y = f.name))
      · have HF : Hid (NT w6 b (k + 8 * (j + 1)) (usedG us g (fs.take (j + 1))) ∧ Below w0.heap.size w0 w6 ∧ w.grownBy w6 (some b)) := ⟨by rw [HUN.out]; unfold useG; rw [hA]; exact N6.mono (by omega), b6, G6.out⟩
        clear hA N6 b6 p0 p1
        go_wp2_with fail
        go_roundw
        case rel => exact ⟨j + 1, by omega, by go_num, HF⟩
        case measure => simp [intOf]; omega
      · have HUG : Hid (usedG us g (fs.take (j + 1)) = stG (usedG us g (fs.take j)) (fpL f)) := by show _ = _; rw [HUN.out]; unfold useG; rw [hA]; rfl
        have S1 : Hid (NT w6 b (k + 8 * j + 0) (stG (usedG us g (fs.take j)) ((fpL f).take 0)) ∧ Below w0.heap.size w0 w6 ∧ w.grownBy w6 (some b) ∧ w6.cell? ⟨gF, 0, none⟩ = some (.slice ax f.name.length cx)) := ⟨by simpa [stG] using N6, b6, G6.out, p0⟩
        clear hA N6 b6 p0
        go_wp2_with fail
        clear p1
        go_loopw [24] (fun i wr => ∃ i' : Nat, i' ≤ np ∧ i = .int .i64 i' ∧ Hid (NT wr b (k + 8 * j + i') (stG (usedG us g (fs.take j)) ((fpL f).take i')) ∧ Below w0.heap.size w0 wr ∧ w.grownBy wr (some b) ∧ wr.cell? ⟨gF, 0, none⟩ = some (.slice ax f.name.length cx))) (fun i _ => np - (intOf i).toNat)
        case atStart => exact ⟨0, Nat.zero_le _, rfl, S1⟩
        case round =>
          obtain ⟨i, hi, rfl, hst⟩ := hrel
          obtain ⟨hN, hb, hg, hc0⟩ := hst.out
          clear S1 hst
          by_cases hlt2 : i < np
          · obtain ⟨q, hq⟩ : ∃ q, f.procs[i]? = some q := ⟨_, List.getElem?_eq_getElem (by rw [HNP.out]; exact hlt2)⟩
            have hqn := HFL.out.pn q (List.mem_of_getElem? hq)
            have HSN : Hid (stG (usedG us g (fs.take j)) ((fpL f).take (i + 1)) = updG (stG (usedG us g (fs.take j)) ((fpL f).take i)) (callN f.name q.name) (3, q.kinds)) := stG_next (p := (callN f.name q.name, (3, q.kinds))) (by unfold fpL; rw [List.getElem?_map, hq]; rfl)
            obtain ⟨by_, offy, ys, rfl, hys, hcl⟩ := LRow.cellsAt HLP.out (show (f.procs.map Fp.fl)[i]? = some q.fl by rw [List.getElem?_map, hq]; rfl)
            obtain ⟨s0, _, rfl, ⟨aq, cq, rfl, hbq, _⟩, s1, _, rfl, ⟨ak, ck, rfl, hkr⟩, rfl⟩ := hys
            have r0 := cell_on (hcl 0 _ rfl) hb
            have r1 := cell_on (hcl 1 _ rfl) hb
            rw [Nat.add_zero] at r0
            have HKV : Hid ((Fl.i q.kinds).Rd w0 (.slice ak q.kinds.length ck)) := ⟨ak, ck, rfl, hkr⟩
            have HBQ : Hid (BRow w0 aq q.name.length q.name) := hbq
            have z7 := Blk.new wr 90 [.slice aq q.name.length cq, .slice ak q.kinds.length ck]
            have g7 := grown_alloc wr (.cells #[.slice aq q.name.length cq, .slice ak q.kinds.length ck] 90 (0, 0)) none
            simp only [List.toArray] at z7
            have N7 := hN.grown g7
            have b7 := hb.trans ((below_grown g7).mono hb.size)
            have G7 : Hid (w.grownBy (wr.alloc (.cells #[.slice aq q.name.length cq, .slice ak q.kinds.length ck] 90 (0, 0))) (some b)) := grown_trans hg (grown_any g7 _)
            have c7 := cell_on hc0 (below_grown g7)
            clear hcl hq hbq hkr hN hb hg hc0 g7
            go_upto_region 7 with fail
            generalize wr.alloc (.cells #[.slice aq q.name.length cq, .slice ak q.kinds.length ck] 90 (0, 0)) = w7 at *
            generalize wr.heap.size = gQ at *
            have HS : ∀ {wl : World}, Below w7.heap.size w7 wl → wl.cell? ⟨gF, 0, none⟩ = some (.slice ax f.name.length cx) ∧ wl.cell? ⟨gQ, 0, none⟩ = some (.slice aq q.name.length cq) ∧ wl.cell? ⟨gQ, 1, none⟩ = some (.slice ak q.kinds.length ck) := fun hb => ⟨cell_on c7 hb, cell_on (z7.cell (i := 0) rfl) hb, cell_on (z7.cell (i := 1) rfl) hb⟩
            have HS0 := HS (wl := w7.drew) (Below.refl _ _).drew
            have HC := callNameC ax f.name.length cx f.name aq q.name.length cq q.name w7.drew (HBX.out.below b7.drew) (HBQ.out.below b7.drew) hnm hqn
            clear r0 r1
            refine rl 9 (S := fun wl => wl.cell? ⟨gF, 0, none⟩ = some (.slice ax f.name.length cx) ∧ wl.cell? ⟨gQ, 0, none⟩ = some (.slice aq q.name.length cq) ∧ wl.cell? ⟨gQ, 1, none⟩ = some (.slice ak q.kinds.length ck)) (by kernel_rfl) HS0 (fun hHeld => ?_)
            refine tl 0 (v := ?v501) rfl (by kernel_rfl) (.inl ⟨by rfl, ?y501⟩) hHeld (fun _ _ _ h => h) ?_
            case y501 => intro w hSw; (try dsimp only at hSw); go_simp; first | done | rfl
            refine tl 1 (v := ?v502) rfl (by kernel_rfl) (.inl ⟨by rfl, ?y502⟩) hHeld (fun _ _ _ h => h) ?_
            case y502 => intro w hSw; (try dsimp only at hSw); go_simp; first | done | rfl
            refine tl 2 (v := ?v503) rfl (by kernel_rfl) (.inl ⟨by rfl, ?y503⟩) hHeld (fun _ _ _ h => h) ?_
            case y503 => intro w hSw; (try dsimp only at hSw); go_simp; first | done | rfl
            try simp only [nrm]
            refine tl 3 (v := ?v504) rfl (by kernel_rfl) (.inl ⟨by rfl, ?y504⟩) hHeld (fun _ _ _ h => h) ?_
            case y504 => intro w hSw; (try dsimp only at hSw); go_simp; first | done | rfl
            refine tl 4 (v := ?v505) rfl (by kernel_rfl) (.inl ⟨by rfl, ?y505⟩) hHeld (fun _ _ _ h => h) ?_
            case y505 => intro w hSw; (try dsimp only at hSw); go_simp; first | done | rfl
            refine tl 6 (v := ?v506) rfl (by kernel_rfl) (.inl ⟨by rfl, ?y506⟩) hHeld (fun _ _ _ h => h) ?_
            case y506 => intro w hSw; (try dsimp only at hSw); go_simp; first | done | rfl
            try simp only [nrm]
            refine tl 7 (v := ?v507) rfl (by kernel_rfl) (.inl ⟨by rfl, ?y507⟩) hHeld (fun _ _ _ h => h) ?_
            case y507 => intro w hSw; (try dsimp only at hSw); go_simp; first | done | rfl
            refine tl 8 (v := ?v508) rfl (by kernel_rfl) (.inl ⟨by rfl, ?y508⟩) hHeld (fun _ _ _ h => h) ?_
            case y508 => intro w hSw; (try dsimp only at hSw); go_simp; first | done | rfl
            try simp only [nrm]
            refine dl 5 rfl (by kernel_rfl) (fun K hK => ?_)
            go_simp
            (with_reducible refine HC.mono ?_)
            rintro e wa ⟨rfl, rfl⟩
            go_wp2_with fail
            refine hK.out _ _ (HS0) (fun hHeld => ?_)
            clear hK K
            try simp only [nrm]
            have N8 := N7.grown (grown_below (Below.refl w7.heap.size w7).drew none)
            have b8 := b7.drew
            have G8 : Hid (w.grownBy w7.drew (some b)) := grown_trans G7.out (grown_below (Below.refl w7.heap.size w7).drew _)
            generalize w7.drew = w8 at *
            obtain ⟨ff, hf1, hf2⟩ := N8.ex
            refine el rfl (by kernel_rfl) (by kernel_rfl) (fun K hK => ?_)
            rw [if_pos (by kernel_rfl)]
            refine wp_putN _ _ _ rfl hf1 (by unfold maxLen; omega) (callN f.name q.name) (.agg #[.int .i64 3, .slice ak q.kinds.length ck]) rfl rfl rfl (callN_bt HBX.out.2.1 HBQ.out.2.1) (Nat.le_trans callN_len (by unfold maxLen; omega)) ?_
            intro w9 hN9 hg9
            have HF : Hid (NT w9 b (k + 8 * j + (i + 1)) (stG (usedG us g (fs.take j)) ((fpL f).take (i + 1))) ∧ Below w0.heap.size w0 w9 ∧ w.grownBy w9 (some b) ∧ w9.cell? ⟨gF, 0, none⟩ = some (.slice ax f.name.length cx)) := ⟨by rw [HSN.out]; exact NT.put hf1 hf2 hN9 hg9 ⟨_, rfl, HKV.out.below b8⟩, below_map b8 hg9 hb0, grown_trans G8.out hg9, N8.cell hHeld.1 hg9⟩
            refine hK.out _ _ ?_
            clear hK K hHeld HS HS0 HC hN9 hg9 hf1 hf2 N7 N8 b7 b8 c7 z7
            go_wp2_with fail
            go_roundw
            case rel => exact ⟨i + 1, by omega, by go_num, HF⟩
            case measure => simp [intOf]; omega
          · have : np = i := by omega
            subst this
            rw [List.take_of_length_le (show (fpL f).length ≤ np by unfold fpL; rw [List.length_map, HNP.out]; exact Nat.le_refl _)] at hN
            have HF : Hid (NT wr b (k + 8 * (j + 1)) (usedG us g (fs.take (j + 1))) ∧ Below w0.heap.size w0 wr ∧ w.grownBy wr (some b)) := ⟨by rw [HUG.out]; exact hN.mono (by omega), hb, hg⟩
            clear hN hb hg hc0
            go_wp2_with fail
            go_roundw
            case rel => exact ⟨j + 1, by omega, by go_num, HF⟩
            case measure => simp [intOf]; omega
    · have : n2 = j := by omega
      subst this
      rw [List.take_of_length_le (by rw [HN2.out]; exact Nat.le_refl _)] at hN
      have HF : Hid (NT wr b (k + 8 * n2) (usedG us g fs) ∧ w.grownBy wr (some b)) := ⟨hN, hg⟩
      clear hN hb hg
      go_wp2_with fail
      exact bodyPost_end (results_none rfl _ _ _) rfl ⟨rfl, HF.out⟩
end Go.Proofs.YtajnfknldofjlaaGreatDoor
namespace Go.Proofs.YtajnfknldofjlaaGreatDoor
open Go.RowKit
set_option linter.unusedVariables false
set_option linter.unusedSimpArgs false
set_option maxRecDepth 100000

/-- From W to W' nothing changes that holds cells or lies below n0, but the blocks of X. -/
structure Kc (X : Nat → Prop) (n0 : Nat) (W W' : World) : Prop where
  os : W'.os = W.os
  tape : W'.tape = W.tape
  output : W'.output = W.output
  size : W.heap.size ≤ W'.heap.size
  same : ∀ k o, W.heap[k]? = some o → ¬ X k → (o.isCells = true ∨ k < n0) → W'.heap[k]? = some o
theorem Kc.refl (X : Nat → Prop) (n0 : Nat) (W : World) : Kc X n0 W W := ⟨rfl, rfl, rfl, Nat.le_refl _, fun _ _ h _ _ => h⟩
theorem Kc.trans {X : Nat → Prop} {n0 : Nat} {A B C : World} (h : Kc X n0 A B) (k : Kc X n0 B C) : Kc X n0 A C :=
  ⟨k.os.trans h.os, k.tape.trans h.tape, k.output.trans h.output, Nat.le_trans h.size k.size, fun i o ho hx hc => k.same i o (h.same i o ho hx hc) hx hc⟩
theorem Kc.grown {X : Nat → Prop} {n0 : Nat} {A B : World} (h : A.grownBy B none) : Kc X n0 A B :=
  ⟨h.os, h.tape, h.output, h.size, fun k o ho _ _ => (h.block k (Array.getElem?_eq_some_iff.1 ho).1 (by simp)).trans ho⟩
theorem cells_of_cell {W : World} {p : Addr} {v : Value} (h : W.cell? p = some v) : ∃ o : Obj, W.heap[p.block]? = some o ∧ o.isCells = true := by
  unfold World.cell? at h
  cases ho : W.heap[p.block]? with
  | none => simp [ho] at h
  | some o => exact ⟨o, rfl, by cases o <;> simp_all [Obj.isCells]⟩
theorem Kc.cell {X : Nat → Prop} {n0 : Nat} {W W' : World} (h : Kc X n0 W W') {p : Addr} {v : Value} (hx : ¬ X p.block) (hc : W.cell? p = some v) : W'.cell? p = some v := by
  obtain ⟨o, ho, hcs⟩ := cells_of_cell hc
  rw [World.cell?_of_block (a := p) ((h.same _ o ho hx (.inl hcs)).trans ho.symm)]
  exact hc
theorem Kc.below {X : Nat → Prop} {n0 : Nat} {w0 W W' : World} (hb : Below w0.heap.size w0 W) (h : Kc X n0 W W') (h0 : w0.heap.size ≤ n0) (hx : ∀ k, X k → w0.heap.size ≤ k) : Below w0.heap.size w0 W' :=
  ⟨h.os.trans hb.os, h.tape.trans hb.tape, h.output.trans hb.output, Nat.le_trans hb.size h.size, fun k hk => by
    have e := hb.block k hk
    have hl : k < W.heap.size := Nat.lt_of_lt_of_le hk hb.size
    rw [← e, Array.getElem?_eq_getElem hl]
    exact h.same k _ (Array.getElem?_eq_getElem hl) (fun hX => by have := hx k hX; omega) (.inr (by omega))⟩

/-- The function G, with caps behind its argument, is asked of each record, one behind the other; as long as it does not say s, Inv goes on; where it says s, Q. -/
structure AsksE (s : Bool) (G : Nat) (caps : Array Value) (X : Nat → Prop) (n0 : Nat) (mkv : List Value → Value) (a : Option Addr) (c K : Nat) (rs : List (List Fl)) (Inv : Nat → World → Prop) (Q : World → Prop) : Prop where
  ent : Ent G
  rows : ∀ j wr, Inv j wr → LRow wr a c K rs
  each : ∀ r ∈ rs, r.length = K
  go : ∀ j r wr vs, rs[j]? = some r → Inv j wr → RdVals wr r vs → CellsAt wr a (j * K) vs → Calls Tryz.prog G (#[mkv vs] ++ caps) wr fun e w' => ∃ b : Bool, e = .returned (.bool b) ∧ (b = (!s) → Inv (j + 1) w' ∧ Kc X n0 wr w') ∧ (b = s → Q w')

set_option maxHeartbeats 4000000 in
theorem indexEExpr (C : Nat) (caps : Array Value) (X : Nat → Prop) (n0 : Nat) (a : Option Addr) (n c : Nat) (rs : List (List Fl)) (Inv : Nat → World → Prop) (Q : World → Prop) (w : World)
    (H : AsksE true C caps X n0 agg a c 5 rs Inv Q) (hn : rs.length = n) (h0 : Inv 0 w) :
    Calls Tryz.prog 198 #[.slice a n c, .func (.func C) #[] caps] w fun e w' => ∃ r : Int, e = .returned (.int .i64 r) ∧ (0 ≤ r → Q w') ∧ (r < 0 → Inv n w' ∧ Kc X n0 w w') := by
  have Hd : Hid (rs.length = n) := hn
  have HA : Hid (AsksE true C caps X n0 agg a c 5 rs Inv Q) := H
  have hC : Ent C := H.ent
  have hl0 := H.rows 0 w h0
  have hcn : n ≤ 9223372036854775807 := by have h1 := hl0.cap; have h2 := hl0.most; unfold maxLen at h2; omega
  have H0 : Hid (Inv 0 w) := h0
  clear H h0
  rcases Nat.eq_zero_or_pos n with h0 | hpos
  · subst h0
    clear hl0 hn
    go_enter Tryz.func198, Tryz.ntmps198
    go_wp2_with fail
    refine wp_loop_rounds 1 ?_
    rw [rounds_succ]
    go_wp2_with fail
    go_ret
    exact ⟨_, rfl, fun h => (by omega), fun _ => ⟨H0.out, Kc.refl _ _ _⟩⟩
  · obtain ⟨b, off, rfl⟩ := hl0.addr (by rw [hn]; exact hpos)
    clear hl0 hn
    go_enter Tryz.func198, Tryz.ntmps198
    go_wp2_with fail
    go_loopw [5, 8] (fun _ i wr => ∃ j : Nat, j ≤ n ∧ i = .int .i64 j ∧ Hid (Kc X n0 w wr) ∧ Hid (Inv j wr)) (fun _ i _ => n - (intOf i).toNat)
    case atStart => exact ⟨0, Nat.zero_le _, rfl, Kc.refl _ _ _, H0⟩
    case round =>
      obtain ⟨j, hj, rfl, hgr, hinv⟩ := hrel
      by_cases hlt : j < n
      · obtain ⟨r, hr⟩ : ∃ r, rs[j]? = some r := ⟨rs[j]'(by rw [Hd.out]; exact hlt), List.getElem?_eq_getElem _⟩
        obtain ⟨vs, hvs, hcl⟩ := ((AsksE.rows HA.out j wr hinv.out).el hr).vals
        have HC := AsksE.go HA.out j r wr vs hr hinv.out hvs ⟨b, off, rfl, hcl⟩
        have hlen : vs.length = 5 := (hvs.len).trans (AsksE.each HA.out r (List.mem_of_getElem? hr))
        obtain ⟨v0, v1, v2, v3, v4, rfl⟩ : ∃ v0 v1 v2 v3 v4, vs = [v0, v1, v2, v3, v4] := by
          match vs, hlen with
          | [v0, v1, v2, v3, v4], _ => exact ⟨v0, v1, v2, v3, v4, rfl⟩
        clear hlen hvs hr
        have q0 : wr.cell? ⟨b, off + j * 5, none⟩ = some v0 := hcl 0 _ rfl
        have q1 : wr.cell? ⟨b, off + j * 5 + 1, none⟩ = some v1 := hcl 1 _ rfl
        have q2 : wr.cell? ⟨b, off + j * 5 + 2, none⟩ = some v2 := hcl 2 _ rfl
        have q3 : wr.cell? ⟨b, off + j * 5 + 3, none⟩ = some v3 := hcl 3 _ rfl
        have q4 : wr.cell? ⟨b, off + j * 5 + 4, none⟩ = some v4 := hcl 4 _ rfl
        clear hcl
        simp only [agg, List.getElem?_cons_zero, Option.getD_some] at HC
        go_wp2_with fail
        rw [hC, Oper.upon_enter]
        refine HC.mono ?_
        rintro e w2 ⟨be, rfl, hn2, hy2⟩
        have HN : Hid (be = false → Inv (j + 1) w2 ∧ Kc X n0 w w2) := fun e => ⟨(hn2 e).1, hgr.out.trans (hn2 e).2⟩
        have HY : Hid (be = true → Q w2) := hy2
        clear q0 q1 q2 q3 q4 HC hn2 hy2
        cases be
        · go_wp2_with fail
          go_roundw
          case rel => exact ⟨j + 1, by omega, by go_num, (HN.out (by trivial)).2, (HN.out (by trivial)).1⟩
          case measure => simp [intOf]; omega
        · go_wp2_with fail
          go_ret
          exact ⟨_, rfl, fun _ => HY.out (by trivial), fun h => (by omega)⟩
      · have : j = n := by omega
        subst this
        go_wp2_with fail
        go_ret
        exact ⟨_, rfl, fun h => (by omega), fun _ => ⟨hinv.out, hgr.out⟩⟩

theorem containsEExpr (C : Nat) (caps : Array Value) (X : Nat → Prop) (n0 : Nat) (a : Option Addr) (n c : Nat) (rs : List (List Fl)) (Inv : Nat → World → Prop) (Q : World → Prop) (w : World)
    (H : AsksE true C caps X n0 agg a c 5 rs Inv Q) (hn : rs.length = n) (h0 : Inv 0 w) :
    Calls Tryz.prog 181 #[.slice a n c, .func (.func C) #[] caps] w fun e w' => ∃ r : Bool, e = .returned (.bool r) ∧ (r = true → Q w') ∧ (r = false → Inv n w' ∧ Kc X n0 w w') := by
  have H := indexEExpr C caps X n0 a n c rs Inv Q w H hn h0
  clear h0 hn
  go_enter Tryz.func181, Tryz.ntmps181
  go_wp2_with fail
  refine H.mono ?_
  rintro e w2 ⟨r, rfl, hr, hb⟩
  have HR : Hid ((0 ≤ r → Q w2) ∧ (r < 0 → Inv n w2 ∧ Kc X n0 w w2)) := ⟨hr, hb⟩
  clear hr hb H
  go_wp2_with fail
  go_ret
  exact ⟨_, rfl, fun h => HR.out.1 (by simpa using h), fun h => HR.out.2 (by simpa using h)⟩

set_option maxHeartbeats 1000000 in
theorem allOneEExpr (G : Nat) (caps : Array Value) (v0 v1 v2 v3 v4 : Value) (g : Nat) (R : Bool → World → Prop) (w : World)
    (hg : w.cell? ⟨g, 0, none⟩ = some (.func (.func G) #[] caps)) (hG : Ent G)
    (H : ∀ w1, w.grownBy w1 none → Calls Tryz.prog G (#[.agg #[v0, v1, v2, v3, v4]] ++ caps) w1 fun e w' => ∃ b : Bool, e = .returned (.bool b) ∧ R b w') :
    Calls Tryz.prog 182 #[.agg #[v0, v1, v2, v3, v4], .pointer (some ⟨g, 0, none⟩)] w fun e w' => ∃ b : Bool, e = .returned (.bool (!b)) ∧ R b w' := by
  have H1 := H _ (grown_alloc w (.cells #[v0, v1, v2, v3, v4] 122 (0, 0)) none)
  have y0 : Below w.heap.size w (w.alloc (.cells #[v0, v1, v2, v3, v4] 122 (0, 0))) := (Below.refl _ _).alloc (Nat.le_refl _) _
  have g1 := cell_on hg y0
  have q0 := cell_new w 122 #[v0, v1, v2, v3, v4] 0 _ rfl
  have q1 := cell_new w 122 #[v0, v1, v2, v3, v4] 1 _ rfl
  have q2 := cell_new w 122 #[v0, v1, v2, v3, v4] 2 _ rfl
  have q3 := cell_new w 122 #[v0, v1, v2, v3, v4] 3 _ rfl
  have q4 := cell_new w 122 #[v0, v1, v2, v3, v4] 4 _ rfl
  clear H hg y0
  go_enter Tryz.func182, Tryz.ntmps182
  go_upto_region 1 with fail
  generalize w.alloc (.cells #[v0, v1, v2, v3, v4] 122 (0, 0)) = w1 at *
  go_wp2_with fail
  rw [hG, Oper.upon_enter]
  refine H1.mono ?_
  rintro e w2 ⟨be, rfl, hR⟩
  clear g1 q0 q1 q2 q3 q4
  go_wp2_with fail
  go_ret
  exact ⟨be, rfl, hR⟩

set_option maxHeartbeats 1000000 in
theorem allEExpr (G : Nat) (caps : Array Value) (X : Nat → Prop) (n0 : Nat) (a : Option Addr) (n c : Nat) (rs : List (List Fl)) (Inv : Nat → World → Prop) (Q : World → Prop) (w : World)
    (H : AsksE false G caps X n0 agg a c 5 rs Inv Q) (hn : rs.length = n) (h0 : Inv 0 w) (hgrow : ∀ j w w', Inv j w → w.grownBy w' none → Inv j w') (hX : ¬ X w.heap.size) :
    Calls Tryz.prog 158 #[.slice a n c, .func (.func G) #[] caps] w fun e w' => ∃ r : Bool, e = .returned (.bool r) ∧ (r = true → Inv n w' ∧ Kc X n0 w w') ∧ (r = false → Q w') := by
  have x0 := cell_new w 186 #[.func (.func G) #[] caps] 0 _ rfl
  have HA : AsksE true 182 #[.pointer (some ⟨w.heap.size, 0, none⟩)] X n0 agg a c 5 rs (fun j wr => Inv j wr ∧ wr.cell? ⟨w.heap.size, 0, none⟩ = some (.func (.func G) #[] caps)) Q := by
    refine ⟨ent_of Tryz.func182 rfl rfl, fun j wr h => H.rows j wr h.1, H.each, ?_⟩
    intro j r wr vs hr hi hvs hca
    have hlen : vs.length = 5 := (hvs.len).trans (H.each r (List.mem_of_getElem? hr))
    obtain ⟨v0, v1, v2, v3, v4, rfl⟩ : ∃ v0 v1 v2 v3 v4, vs = [v0, v1, v2, v3, v4] := by
      match vs, hlen with
      | [v0, v1, v2, v3, v4], _ => exact ⟨v0, v1, v2, v3, v4, rfl⟩
    have h1 := allOneEExpr G caps v0 v1 v2 v3 v4 w.heap.size (fun b w' => (b = true → (Inv (j + 1) w' ∧ w'.cell? ⟨w.heap.size, 0, none⟩ = some (.func (.func G) #[] caps)) ∧ Kc X n0 wr w') ∧ (b = false → Q w')) wr hi.2 H.ent ?_
    · refine h1.mono ?_
      rintro e w' ⟨b, rfl, h3, h4⟩
      exact ⟨!b, rfl, fun h => h3 (by simpa using h), fun h => h4 (by simpa using h)⟩
    · intro w1 hw1
      refine (H.go j r w1 [v0, v1, v2, v3, v4] hr (hgrow _ _ _ hi.1 hw1) (hvs.below (below_grown hw1)) (hca.below (below_grown hw1))).mono ?_
      rintro e w' ⟨b, rfl, h3, h4⟩
      refine ⟨b, rfl, fun h => ?_, fun h => h4 (by simpa using h)⟩
      obtain ⟨h5, h6⟩ := h3 (by simpa using h)
      have h7 : Kc X n0 wr w' := (Kc.grown hw1).trans h6
      exact ⟨⟨h5, h7.cell hX hi.2⟩, h7⟩
  have y0 := grown_alloc w (.cells #[.func (.func G) #[] caps] 186 (0, 0)) none
  have HC := containsEExpr 182 #[.pointer (some ⟨w.heap.size, 0, none⟩)] X n0 a n c rs _ Q (w.alloc (.cells #[.func (.func G) #[] caps] 186 (0, 0))) HA hn ⟨hgrow _ _ _ h0 y0, x0⟩
  clear HA H hgrow hn h0
  go_enter Tryz.func158, Tryz.ntmps158
  go_wp2_with fail
  refine HC.mono ?_
  rintro e w2 ⟨r, rfl, h1, h2⟩
  have HR : Hid ((r = true → Q w2) ∧ (r = false → Inv n w2 ∧ Kc X n0 w w2)) := ⟨h1, fun e => ⟨(h2 e).1.1, (Kc.grown y0).trans (h2 e).2⟩⟩
  clear h1 h2 HC
  go_wp2_with fail
  go_ret
  exact ⟨!r, rfl, fun h => HR.out.2 (by simpa using h), fun h => HR.out.1 (by simpa using h)⟩

set_option maxHeartbeats 4000000 in
theorem indexEStmt (C : Nat) (caps : Array Value) (X : Nat → Prop) (n0 : Nat) (a : Option Addr) (n c : Nat) (rs : List (List Fl)) (Inv : Nat → World → Prop) (Q : World → Prop) (w : World)
    (H : AsksE true C caps X n0 agg a c 6 rs Inv Q) (hn : rs.length = n) (h0 : Inv 0 w) :
    Calls Tryz.prog 180 #[.slice a n c, .func (.func C) #[] caps] w fun e w' => ∃ r : Int, e = .returned (.int .i64 r) ∧ (0 ≤ r → Q w') ∧ (r < 0 → Inv n w' ∧ Kc X n0 w w') := by
  have Hd : Hid (rs.length = n) := hn
  have HA : Hid (AsksE true C caps X n0 agg a c 6 rs Inv Q) := H
  have hC : Ent C := H.ent
  have hl0 := H.rows 0 w h0
  have hcn : n ≤ 9223372036854775807 := by have h1 := hl0.cap; have h2 := hl0.most; unfold maxLen at h2; omega
  have H0 : Hid (Inv 0 w) := h0
  clear H h0
  rcases Nat.eq_zero_or_pos n with h0 | hpos
  · subst h0
    clear hl0 hn
    go_enter Tryz.func180, Tryz.ntmps180
    go_wp2_with fail
    refine wp_loop_rounds 1 ?_
    rw [rounds_succ]
    go_wp2_with fail
    go_ret
    exact ⟨_, rfl, fun h => (by omega), fun _ => ⟨H0.out, Kc.refl _ _ _⟩⟩
  · obtain ⟨b, off, rfl⟩ := hl0.addr (by rw [hn]; exact hpos)
    clear hl0 hn
    go_enter Tryz.func180, Tryz.ntmps180
    go_wp2_with fail
    go_loopw [5, 8] (fun _ i wr => ∃ j : Nat, j ≤ n ∧ i = .int .i64 j ∧ Hid (Kc X n0 w wr) ∧ Hid (Inv j wr)) (fun _ i _ => n - (intOf i).toNat)
    case atStart => exact ⟨0, Nat.zero_le _, rfl, Kc.refl _ _ _, H0⟩
    case round =>
      obtain ⟨j, hj, rfl, hgr, hinv⟩ := hrel
      by_cases hlt : j < n
      · obtain ⟨r, hr⟩ : ∃ r, rs[j]? = some r := ⟨rs[j]'(by rw [Hd.out]; exact hlt), List.getElem?_eq_getElem _⟩
        obtain ⟨vs, hvs, hcl⟩ := ((AsksE.rows HA.out j wr hinv.out).el hr).vals
        have HC := AsksE.go HA.out j r wr vs hr hinv.out hvs ⟨b, off, rfl, hcl⟩
        have hlen : vs.length = 6 := (hvs.len).trans (AsksE.each HA.out r (List.mem_of_getElem? hr))
        obtain ⟨v0, v1, v2, v3, v4, v5, rfl⟩ : ∃ v0 v1 v2 v3 v4 v5, vs = [v0, v1, v2, v3, v4, v5] := by
          match vs, hlen with
          | [v0, v1, v2, v3, v4, v5], _ => exact ⟨v0, v1, v2, v3, v4, v5, rfl⟩
        clear hlen hvs hr
        have q0 : wr.cell? ⟨b, off + j * 6, none⟩ = some v0 := hcl 0 _ rfl
        have q1 : wr.cell? ⟨b, off + j * 6 + 1, none⟩ = some v1 := hcl 1 _ rfl
        have q2 : wr.cell? ⟨b, off + j * 6 + 2, none⟩ = some v2 := hcl 2 _ rfl
        have q3 : wr.cell? ⟨b, off + j * 6 + 3, none⟩ = some v3 := hcl 3 _ rfl
        have q4 : wr.cell? ⟨b, off + j * 6 + 4, none⟩ = some v4 := hcl 4 _ rfl
        have q5 : wr.cell? ⟨b, off + j * 6 + 5, none⟩ = some v5 := hcl 5 _ rfl
        clear hcl
        simp only [agg, List.getElem?_cons_zero, Option.getD_some] at HC
        go_wp2_with fail
        rw [hC, Oper.upon_enter]
        refine HC.mono ?_
        rintro e w2 ⟨be, rfl, hn2, hy2⟩
        have HN : Hid (be = false → Inv (j + 1) w2 ∧ Kc X n0 w w2) := fun e => ⟨(hn2 e).1, hgr.out.trans (hn2 e).2⟩
        have HY : Hid (be = true → Q w2) := hy2
        clear q0 q1 q2 q3 q4 q5 HC hn2 hy2
        cases be
        · go_wp2_with fail
          go_roundw
          case rel => exact ⟨j + 1, by omega, by go_num, (HN.out (by trivial)).2, (HN.out (by trivial)).1⟩
          case measure => simp [intOf]; omega
        · go_wp2_with fail
          go_ret
          exact ⟨_, rfl, fun _ => HY.out (by trivial), fun h => (by omega)⟩
      · have : j = n := by omega
        subst this
        go_wp2_with fail
        go_ret
        exact ⟨_, rfl, fun h => (by omega), fun _ => ⟨hinv.out, hgr.out⟩⟩

theorem containsEStmt (C : Nat) (caps : Array Value) (X : Nat → Prop) (n0 : Nat) (a : Option Addr) (n c : Nat) (rs : List (List Fl)) (Inv : Nat → World → Prop) (Q : World → Prop) (w : World)
    (H : AsksE true C caps X n0 agg a c 6 rs Inv Q) (hn : rs.length = n) (h0 : Inv 0 w) :
    Calls Tryz.prog 156 #[.slice a n c, .func (.func C) #[] caps] w fun e w' => ∃ r : Bool, e = .returned (.bool r) ∧ (r = true → Q w') ∧ (r = false → Inv n w' ∧ Kc X n0 w w') := by
  have H := indexEStmt C caps X n0 a n c rs Inv Q w H hn h0
  clear h0 hn
  go_enter Tryz.func156, Tryz.ntmps156
  go_wp2_with fail
  refine H.mono ?_
  rintro e w2 ⟨r, rfl, hr, hb⟩
  have HR : Hid ((0 ≤ r → Q w2) ∧ (r < 0 → Inv n w2 ∧ Kc X n0 w w2)) := ⟨hr, hb⟩
  clear hr hb H
  go_wp2_with fail
  go_ret
  exact ⟨_, rfl, fun h => HR.out.1 (by simpa using h), fun h => HR.out.2 (by simpa using h)⟩

set_option maxHeartbeats 1000000 in
theorem allOneEStmt (G : Nat) (caps : Array Value) (v0 v1 v2 v3 v4 v5 : Value) (g : Nat) (R : Bool → World → Prop) (w : World)
    (hg : w.cell? ⟨g, 0, none⟩ = some (.func (.func G) #[] caps)) (hG : Ent G)
    (H : ∀ w1, w.grownBy w1 none → Calls Tryz.prog G (#[.agg #[v0, v1, v2, v3, v4, v5]] ++ caps) w1 fun e w' => ∃ b : Bool, e = .returned (.bool b) ∧ R b w') :
    Calls Tryz.prog 157 #[.agg #[v0, v1, v2, v3, v4, v5], .pointer (some ⟨g, 0, none⟩)] w fun e w' => ∃ b : Bool, e = .returned (.bool (!b)) ∧ R b w' := by
  have H1 := H _ (grown_alloc w (.cells #[v0, v1, v2, v3, v4, v5] 133 (0, 0)) none)
  have y0 : Below w.heap.size w (w.alloc (.cells #[v0, v1, v2, v3, v4, v5] 133 (0, 0))) := (Below.refl _ _).alloc (Nat.le_refl _) _
  have g1 := cell_on hg y0
  have q0 := cell_new w 133 #[v0, v1, v2, v3, v4, v5] 0 _ rfl
  have q1 := cell_new w 133 #[v0, v1, v2, v3, v4, v5] 1 _ rfl
  have q2 := cell_new w 133 #[v0, v1, v2, v3, v4, v5] 2 _ rfl
  have q3 := cell_new w 133 #[v0, v1, v2, v3, v4, v5] 3 _ rfl
  have q4 := cell_new w 133 #[v0, v1, v2, v3, v4, v5] 4 _ rfl
  have q5 := cell_new w 133 #[v0, v1, v2, v3, v4, v5] 5 _ rfl
  clear H hg y0
  go_enter Tryz.func157, Tryz.ntmps157
  go_upto_region 1 with fail
  generalize w.alloc (.cells #[v0, v1, v2, v3, v4, v5] 133 (0, 0)) = w1 at *
  go_wp2_with fail
  rw [hG, Oper.upon_enter]
  refine H1.mono ?_
  rintro e w2 ⟨be, rfl, hR⟩
  clear g1 q0 q1 q2 q3 q4 q5
  go_wp2_with fail
  go_ret
  exact ⟨be, rfl, hR⟩

set_option maxHeartbeats 1000000 in
theorem allEStmt (G : Nat) (caps : Array Value) (X : Nat → Prop) (n0 : Nat) (a : Option Addr) (n c : Nat) (rs : List (List Fl)) (Inv : Nat → World → Prop) (Q : World → Prop) (w : World)
    (H : AsksE false G caps X n0 agg a c 6 rs Inv Q) (hn : rs.length = n) (h0 : Inv 0 w) (hgrow : ∀ j w w', Inv j w → w.grownBy w' none → Inv j w') (hX : ¬ X w.heap.size) :
    Calls Tryz.prog 135 #[.slice a n c, .func (.func G) #[] caps] w fun e w' => ∃ r : Bool, e = .returned (.bool r) ∧ (r = true → Inv n w' ∧ Kc X n0 w w') ∧ (r = false → Q w') := by
  have x0 := cell_new w 171 #[.func (.func G) #[] caps] 0 _ rfl
  have HA : AsksE true 157 #[.pointer (some ⟨w.heap.size, 0, none⟩)] X n0 agg a c 6 rs (fun j wr => Inv j wr ∧ wr.cell? ⟨w.heap.size, 0, none⟩ = some (.func (.func G) #[] caps)) Q := by
    refine ⟨ent_of Tryz.func157 rfl rfl, fun j wr h => H.rows j wr h.1, H.each, ?_⟩
    intro j r wr vs hr hi hvs hca
    have hlen : vs.length = 6 := (hvs.len).trans (H.each r (List.mem_of_getElem? hr))
    obtain ⟨v0, v1, v2, v3, v4, v5, rfl⟩ : ∃ v0 v1 v2 v3 v4 v5, vs = [v0, v1, v2, v3, v4, v5] := by
      match vs, hlen with
      | [v0, v1, v2, v3, v4, v5], _ => exact ⟨v0, v1, v2, v3, v4, v5, rfl⟩
    have h1 := allOneEStmt G caps v0 v1 v2 v3 v4 v5 w.heap.size (fun b w' => (b = true → (Inv (j + 1) w' ∧ w'.cell? ⟨w.heap.size, 0, none⟩ = some (.func (.func G) #[] caps)) ∧ Kc X n0 wr w') ∧ (b = false → Q w')) wr hi.2 H.ent ?_
    · refine h1.mono ?_
      rintro e w' ⟨b, rfl, h3, h4⟩
      exact ⟨!b, rfl, fun h => h3 (by simpa using h), fun h => h4 (by simpa using h)⟩
    · intro w1 hw1
      refine (H.go j r w1 [v0, v1, v2, v3, v4, v5] hr (hgrow _ _ _ hi.1 hw1) (hvs.below (below_grown hw1)) (hca.below (below_grown hw1))).mono ?_
      rintro e w' ⟨b, rfl, h3, h4⟩
      refine ⟨b, rfl, fun h => ?_, fun h => h4 (by simpa using h)⟩
      obtain ⟨h5, h6⟩ := h3 (by simpa using h)
      have h7 : Kc X n0 wr w' := (Kc.grown hw1).trans h6
      exact ⟨⟨h5, h7.cell hX hi.2⟩, h7⟩
  have y0 := grown_alloc w (.cells #[.func (.func G) #[] caps] 171 (0, 0)) none
  have HC := containsEStmt 157 #[.pointer (some ⟨w.heap.size, 0, none⟩)] X n0 a n c rs _ Q (w.alloc (.cells #[.func (.func G) #[] caps] 171 (0, 0))) HA hn ⟨hgrow _ _ _ h0 y0, x0⟩
  clear HA H hgrow hn h0
  go_enter Tryz.func135, Tryz.ntmps135
  go_wp2_with fail
  refine HC.mono ?_
  rintro e w2 ⟨r, rfl, h1, h2⟩
  have HR : Hid ((r = true → Q w2) ∧ (r = false → Inv n w2 ∧ Kc X n0 w w2)) := ⟨h1, fun e => ⟨(h2 e).1.1, (Kc.grown y0).trans (h2 e).2⟩⟩
  clear h1 h2 HC
  go_wp2_with fail
  go_ret
  exact ⟨!r, rfl, fun h => HR.out.2 (by simpa using h), fun h => HR.out.1 (by simpa using h)⟩

end Go.Proofs.YtajnfknldofjlaaGreatDoor
namespace Go.Proofs.YtajnfknldofjlaaGreatDoor
open Go.RowKit
set_option linter.unusedVariables false
set_option linter.unusedSimpArgs false
set_option maxRecDepth 100000

/-- A mention, with where its kids lie. -/
structure Me where
  name : List Int
  sort : Int
  kids : List Ex

set_option maxHeartbeats 2000000 in
theorem mentionC (k n : Int) (mod name : List Int) (kids : List Ex) (a2 : Option Addr) (c2 : Nat) (a3 : Option Addr) (c3 : Nat) (a4 : Option Addr) (n4' c4 : Nat) (s : Int) (kv : Value) (hkv : kv = if k = 6 then .slice a4 n4' c4 else .slice none 0 0) (w : World)
    (h2 : BRow w a2 mod.length mod) (h3 : BRow w a3 name.length name) (hn2 : mod.length ≤ 1048576) (hn3 : name.length ≤ 1048576) :
    Calls Tryz.prog 160 #[.agg #[.int .i64 k, .int .i64 n, .slice a2 mod.length c2, .slice a3 name.length c3, .slice a4 n4' c4], .int .i64 s] w fun e w' => e = .returned (.agg #[.string (strOfNums (callN mod name)), .int .i64 s, kv]) ∧ w.grownBy w' none := by
  have HKV : Hid (kv = if k = 6 then .slice a4 n4' c4 else .slice none 0 0) := hkv
  clear hkv
  have e0 : (w.alloc (.cells #[.int .i64 k, .int .i64 n, .slice a2 mod.length c2, .slice a3 name.length c3, .slice a4 n4' c4] 122 (0, 0))).heap.size = w.heap.size + 1 := by simp
  have y0 := grown_trans (grown_alloc w (.cells #[.int .i64 k, .int .i64 n, .slice a2 mod.length c2, .slice a3 name.length c3, .slice a4 n4' c4] 122 (0, 0)) none) (grown_alloc _ (.cells #[.string ⟨#[]⟩, .int .i64 0, .slice none 0 0] 120 (0, 0)) none)
  have x0 := (Blk.new w 122 [.int .i64 k, .int .i64 n, .slice a2 mod.length c2, .slice a3 name.length c3, .slice a4 n4' c4]).old (o := .cells #[.string ⟨#[]⟩, .int .i64 0, .slice none 0 0] 120 (0, 0))
  have x1 := Blk.new (w.alloc (.cells #[.int .i64 k, .int .i64 n, .slice a2 mod.length c2, .slice a3 name.length c3, .slice a4 n4' c4] 122 (0, 0))) 120 [.string ⟨#[]⟩, .int .i64 0, .slice none 0 0]
  simp only [List.toArray] at x0 x1
  rw [e0] at x1
  have HC := callNameC a2 mod.length c2 mod a3 name.length c3 name _ (h2.below (below_grown y0)) (h3.below (below_grown y0)) hn2 hn3
  clear e0
  go_enter Tryz.func160, Tryz.ntmps160
  go_upto_region 1 with fail
  have esz : ((w.alloc (.cells #[.int .i64 k, .int .i64 n, .slice a2 mod.length c2, .slice a3 name.length c3, .slice a4 n4' c4] 122 (0, 0))).alloc (.cells #[.string ⟨#[]⟩, .int .i64 0, .slice none 0 0] 120 (0, 0))).heap.size = w.heap.size + 2 := by simp
  generalize (w.alloc (.cells #[.int .i64 k, .int .i64 n, .slice a2 mod.length c2, .slice a3 name.length c3, .slice a4 n4' c4] 122 (0, 0))).alloc (.cells #[.string ⟨#[]⟩, .int .i64 0, .slice none 0 0] 120 (0, 0)) = w1 at *
  have q2 := x0.cell (i := 2) rfl
  have q3 := x0.cell (i := 3) rfl
  go_wp2_with fail
  refine HC.mono ?_
  rintro e w2 ⟨rfl, rfl⟩
  obtain ⟨sn, hsn⟩ : ∃ z, z = strOfNums (callN mod name) := ⟨_, rfl⟩
  have HSN : Hid (sn = strOfNums (callN mod name)) := hsn
  rw [← hsn]
  clear hsn
  have y2 := grown_alloc w2 (.cells #[.string sn, .int .i64 s, .slice none 0 0] 120 (0, 0)) none
  have x2 := Blk.new w2 120 [.string sn, .int .i64 s, .slice none 0 0]
  simp only [List.toArray] at x2
  rw [esz] at x2
  clear HC q2 q3
  go_upto_region 2 with fail
  have X0 := x0.old (o := .cells #[.string sn, .int .i64 s, .slice none 0 0] 120 (0, 0))
  have X1 := x1.old (o := .cells #[.string sn, .int .i64 s, .slice none 0 0] 120 (0, 0))
  have B3 : Below w.heap.size w (w2.alloc (.cells #[.string sn, .int .i64 s, .slice none 0 0] 120 (0, 0))) := below_grown (grown_trans y0 y2)
  generalize w2.alloc (.cells #[.string sn, .int .i64 s, .slice none 0 0] 120 (0, 0)) = w3 at *
  clear x0 x1 y0 y2 esz
  have k0 := X0.cell (i := 0) rfl
  have n1 : w.heap.size ≠ w.heap.size + 1 := by omega
  have n2 : w.heap.size ≠ w.heap.size + 2 := by omega
  have n3 : w.heap.size + 1 ≠ w.heap.size + 2 := by omega
  have n4 : w.heap.size + 2 ≠ w.heap.size + 1 := by omega
  by_cases hk : k = 6
  · have HK : Hid (kv = .slice a4 n4' c4) := by rw [HKV.out, if_pos hk]; rfl
    subst hk
    have k4 := X0.cell (i := 4) rfl
    have f2 := x2.free 2
    have p2 := x2.cell (i := 2) rfl
    have x3 : Blk (w3.setCell ⟨w.heap.size + 2, 2, none⟩ (.slice a4 n4' c4)) (w.heap.size + 2) 120 [.string sn, .int .i64 s, .slice a4 n4' c4] := x2.set (i := 2) _
    have X3 : Blk (w3.setCell ⟨w.heap.size + 2, 2, none⟩ (.slice a4 n4' c4)) (w.heap.size + 1) 120 [.string ⟨#[]⟩, .int .i64 0, .slice none 0 0] := X1.other n3
    have B4 := B3.setCell (p := ⟨w.heap.size + 2, 2, none⟩) (by show w.heap.size ≤ w.heap.size + 2; omega) (.slice a4 n4' c4)
    go_upto_region 4 with fail
    generalize w3.setCell ⟨w.heap.size + 2, 2, none⟩ (.slice a4 n4' c4) = w4 at *
    clear k4 f2 p2 x2 X1 X0 k0 B3
    have d0 := x3.cell (i := 0) rfl
    have d1 := x3.cell (i := 1) rfl
    have d2 := x3.cell (i := 2) rfl
    have g0 := X3.cell (i := 0) rfl
    have g1 := X3.cell (i := 1) rfl
    have g2 := X3.cell (i := 2) rfl
    have f0 := X3.free 0
    have f1 := X3.free 1
    have f2 := X3.free 2
    have z9 : Blk (((w4.setCell ⟨w.heap.size + 1, 0, none⟩ (.string sn)).setCell ⟨w.heap.size + 1, 1, none⟩ (.int .i64 s)).setCell ⟨w.heap.size + 1, 2, none⟩ (.slice a4 n4' c4)) (w.heap.size + 1) 120 [.string sn, .int .i64 s, .slice a4 n4' c4] := ((X3.set (i := 0) _).set (i := 1) _).set (i := 2) _
    have B9 : Below w.heap.size w (((w4.setCell ⟨w.heap.size + 1, 0, none⟩ (.string sn)).setCell ⟨w.heap.size + 1, 1, none⟩ (.int .i64 s)).setCell ⟨w.heap.size + 1, 2, none⟩ (.slice a4 n4' c4)) := ((B4.setCell (Nat.le_succ _) _).setCell (Nat.le_succ _) _).setCell (Nat.le_succ _) _
    go_wp2_with fail
    generalize ((w4.setCell ⟨w.heap.size + 1, 0, none⟩ (.string sn)).setCell ⟨w.heap.size + 1, 1, none⟩ (.int .i64 s)).setCell ⟨w.heap.size + 1, 2, none⟩ (.slice a4 n4' c4) = w9 at *
    have e0 := z9.cell (i := 0) rfl
    have e1 := z9.cell (i := 1) rfl
    have e2 := z9.cell (i := 2) rfl
    refine bodyPost_ret (v := .agg #[.string sn, .int .i64 s, .slice a4 n4' c4]) (by simp only [results, Tryz.results160]; simp [go_sem, e0, e1, e2]) rfl ⟨by rw [HK.out, HSN.out], grown_below B9 none⟩
  · have hkb : (k == 6) = false := by simpa using hk
    have HK : Hid (kv = .slice none 0 0) := by rw [HKV.out, if_neg hk]; rfl
    clear hk
    have d0 := x2.cell (i := 0) rfl
    have d1 := x2.cell (i := 1) rfl
    have d2 := x2.cell (i := 2) rfl
    have g0 := X1.cell (i := 0) rfl
    have g1 := X1.cell (i := 1) rfl
    have g2 := X1.cell (i := 2) rfl
    have f0 := X1.free 0
    have f1 := X1.free 1
    have f2 := X1.free 2
    have z9 : Blk (((w3.setCell ⟨w.heap.size + 1, 0, none⟩ (.string sn)).setCell ⟨w.heap.size + 1, 1, none⟩ (.int .i64 s)).setCell ⟨w.heap.size + 1, 2, none⟩ (.slice none 0 0)) (w.heap.size + 1) 120 [.string sn, .int .i64 s, .slice none 0 0] := ((X1.set (i := 0) _).set (i := 1) _).set (i := 2) _
    have B9 : Below w.heap.size w (((w3.setCell ⟨w.heap.size + 1, 0, none⟩ (.string sn)).setCell ⟨w.heap.size + 1, 1, none⟩ (.int .i64 s)).setCell ⟨w.heap.size + 1, 2, none⟩ (.slice none 0 0)) := ((B3.setCell (Nat.le_succ _) _).setCell (Nat.le_succ _) _).setCell (Nat.le_succ _) _
    go_wp2_with fail
    generalize ((w3.setCell ⟨w.heap.size + 1, 0, none⟩ (.string sn)).setCell ⟨w.heap.size + 1, 1, none⟩ (.int .i64 s)).setCell ⟨w.heap.size + 1, 2, none⟩ (.slice none 0 0) = w9 at *
    have e0 := z9.cell (i := 0) rfl
    have e1 := z9.cell (i := 1) rfl
    have e2 := z9.cell (i := 2) rfl
    refine bodyPost_ret (v := .agg #[.string sn, .int .i64 s, .slice none 0 0]) (by simp only [results, Tryz.results160]; simp [go_sem, e0, e1, e2]) rfl ⟨by rw [HK.out, HSN.out], grown_below B9 none⟩
end Go.Proofs.YtajnfknldofjlaaGreatDoor
namespace Go.Proofs.YtajnfknldofjlaaGreatDoor
open Go.RowKit Go.Shelf
set_option linter.unusedVariables false
set_option linter.unusedSimpArgs false
set_option maxRecDepth 100000
attribute [local go_sem] Oper.semAt_some

def exSo (i : Nat) : Int := [0, 1, 2, 0, 0, 2, 3, 2][i]?.getD 0
def stSo (i : Nat) : Int := [1, 2][i]?.getD 0
mutual
def menE : Ex → List Me
  | .mk k n mod name kids => (if exSo k.toNat = 0 then [] else [⟨callN mod name, exSo k.toNat, if k = 6 then kids else []⟩]) ++ menEs kids
def menEs : List Ex → List Me
  | [] => []
  | e :: l => menE e ++ menEs l
end
/-- A mention as it is handed over. -/
structure MeR (w0 : World) where
  me : Me
  a : Option Addr
  c : Nat
  bt : Bt me.name
  nl : me.name.length ≤ 3000000
  row : LRow w0 a c 5 (exs me.kids)
def MeR.enc {w0 : World} (x : MeR w0) : Value := .agg #[.string (strOfNums x.me.name), .int .i64 x.me.sort, .slice x.a x.me.kids.length x.c]

theorem lrow_nil (w : World) : LRow w none 0 5 (exs []) := ⟨by simp [exs], by unfold maxLen; omega, fun _ => rfl, fun h => by simp [exs] at h⟩

/-- What is known of the yield ly. -/
structure Yw (w0 : World) (ly B n0 N : Nat) (X : Nat → Prop) (J Jx : List (MeR w0) → World → Prop) : Prop where
  hJ : ∀ s A C, J s A → A.grownBy C none → J s C
  hY : ∀ m pre x W, J pre W → pre.length < N → YieldAt Fence.wide m Tryz.prog ly #[MeR.enc x] W fun e W' => (e = .returned (.bool true) ∧ J (pre ++ [x]) W' ∧ Kc X n0 W W') ∨ (e = .returned (.bool false) ∧ Jx (pre ++ [x]) W')
  hX : ∀ k, X k → w0.heap.size ≤ k ∧ k < B
  h0 : w0.heap.size ≤ n0
  ex : ∀ i, i < 8 → w0.cell? ⟨2, i, none⟩ = some (.int .i64 (exSo i))
  st : ∀ i, i < 8 → w0.cell? ⟨1, i, none⟩ = some (.int .i64 (stSo i))

/-- What a walk ends in. -/
def Out {w0 : World} (n0 : Nat) (X : Nat → Prop) (J Jx : List (MeR w0) → World → Prop) (pre : List (MeR w0)) (ms : List Me) (W : World) : Ending → World → Prop := fun e W' =>
  ∃ b : Bool, e = .returned (.bool b) ∧ (b = true → (∃ xs, xs.map MeR.me = ms ∧ J (pre ++ xs) W') ∧ Kc X n0 W W') ∧ (b = false → ∃ xs, xs.map MeR.me <+: ms ∧ Jx (pre ++ xs) W')

def InE (w0 : World) (ly B n0 N : Nat) (X : Nat → Prop) (J Jx : List (MeR w0) → World → Prop) (l : List Ex) : Prop :=
  ∀ (pre : List (MeR w0)) (W : World) (a : Option Addr) (c : Nat), LRow w0 a c 5 (exs l) → Below w0.heap.size w0 W → B ≤ W.heap.size → J pre W → pre.length + (menEs l).length ≤ N →
    Calls Tryz.prog 137 #[.slice a l.length c, .func (.yield ly) #[] #[]] W (Out n0 X J Jx pre (menEs l) W)

set_option maxHeartbeats 4000000 in
theorem inOneC {w0 : World} {ly B n0 N : Nat} {X : Nat → Prop} {J Jx : List (MeR w0) → World → Prop} (hy : Yw w0 ly B n0 N X J Jx) (kn : Nat) (hk : kn < 8) (n : Int) (mod name : List Int) (kids : List Ex) (pre : List (MeR w0)) (vs : List Value) (W : World) (gY : Nat)
    (h : RdVals w0 (Ex.fl (.mk kn n mod name kids)) vs) (hc : W.cell? ⟨gY, 0, none⟩ = some (.func (.yield ly) #[] #[])) (hgY : B ≤ gY) (hb : Below w0.heap.size w0 W) (hB : B ≤ W.heap.size) (hJ : J pre W) (hN : pre.length + (menE (.mk kn n mod name kids)).length ≤ N)
    (hn2 : mod.length ≤ 1048576) (hn3 : name.length ≤ 1048576) (IH : InE w0 ly B n0 N X J Jx kids) :
    Calls Tryz.prog 159 #[agg vs, .pointer (some ⟨gY, 0, none⟩)] W (Out n0 X J Jx pre (menE (.mk kn n mod name kids)) W) := by
  obtain ⟨v0, _, rfl, rfl, v1, _, rfl, rfl, v2, _, rfl, ⟨a2, c2, rfl, hb2, _⟩, v3, _, rfl, ⟨a3, c3, rfl, hb3, _⟩, v4, _, rfl, h4, rfl⟩ := h
  obtain ⟨a4, c4, rfl, hL4⟩ := h4.list
  have e4 : (exs kids).length = kids.length := by simp [exs_map]
  rw [e4] at *
  have y0 := grown_alloc W (.cells #[.int .i64 kn, .int .i64 n, .slice a2 mod.length c2, .slice a3 name.length c3, .slice a4 kids.length c4] 122 (0, 0)) none
  have x0 := Blk.new W 122 [.int .i64 kn, .int .i64 n, .slice a2 mod.length c2, .slice a3 name.length c3, .slice a4 kids.length c4]
  simp only [List.toArray] at x0
  have hb1 := hb.trans ((below_grown y0).mono hb.size)
  have t1 := cell_on (hy.ex kn hk) hb1
  have c1 := cell_on hc (below_grown y0)
  have J1 := hy.hJ _ _ _ hJ y0
  have hB1 : B ≤ (W.alloc (.cells #[.int .i64 kn, .int .i64 n, .slice a2 mod.length c2, .slice a3 name.length c3, .slice a4 kids.length c4] 122 (0, 0))).heap.size := Nat.le_trans hB y0.size
  simp only [agg]
  by_cases hs : exSo kn = 0
  · have HM : Hid (menE (.mk kn n mod name kids) = menEs kids) := by show _ = _; unfold menE; simp [hs]
    rw [HM.out] at hN ⊢
    rw [hs] at t1
    have Y1 := grown_below (Below.refl (W.alloc (.cells #[.int .i64 kn, .int .i64 n, .slice a2 mod.length c2, .slice a3 name.length c3, .slice a4 kids.length c4] 122 (0, 0))).heap.size (W.alloc (.cells #[.int .i64 kn, .int .i64 n, .slice a2 mod.length c2, .slice a3 name.length c3, .slice a4 kids.length c4] 122 (0, 0)))).drew none
    have H4 := IH pre (W.alloc (.cells #[.int .i64 kn, .int .i64 n, .slice a2 mod.length c2, .slice a3 name.length c3, .slice a4 kids.length c4] 122 (0, 0))).drew a4 c4 hL4 hb1.drew hB1 (hy.hJ _ _ _ J1 Y1) hN
    clear hb hc hJ IH hL4 h4 hb2 hb3 J1
    have Y0 : Hid (W.grownBy _ none) := grown_trans y0 Y1
    clear Y1 y0
    go_enter Tryz.func159, Tryz.ntmps159
    go_upto_region 1 with fail
    generalize W.alloc (.cells #[.int .i64 kn, .int .i64 n, .slice a2 mod.length c2, .slice a3 name.length c3, .slice a4 kids.length c4] 122 (0, 0)) = w1 at *
    have k0 := x0.cell (i := 0) rfl
    have k4 : w1.drew.cell? ⟨W.heap.size, 4, none⟩ = some (.slice a4 kids.length c4) := x0.cell (i := 4) rfl
    have c1' : w1.drew.cell? ⟨gY, 0, none⟩ = some (.func (.yield ly) #[] #[]) := c1
    go_wp2_with fail
    clear k0 t1
    refine wp_region_held_drew (S := fun wl => True) (by kernel_rfl) trivial (fun hHeld => ?_)
    refine tk (i := 0) (v := ?v501) rfl (by kernel_rfl) (.inl ⟨by rfl, ?y501⟩) hHeld (fun _ _ _ h => h) ?_
    case y501 => intro w hSw; (try dsimp only at hSw); go_simp; first | done | rfl
    refine tk (i := 1) (v := ?v502) rfl (by kernel_rfl) (.inl ⟨by rfl, ?y502⟩) hHeld (fun _ _ _ h => h) ?_
    case y502 => intro w hSw; (try dsimp only at hSw); go_simp; first | done | rfl
    refine tk (i := 2) (v := ?v503) rfl (by kernel_rfl) (.inl ⟨by rfl, ?y503⟩) hHeld (fun _ _ _ h => h) ?_
    case y503 => intro w hSw; (try dsimp only at hSw); go_simp; first | done | rfl
    try simp only [nrm]
    refine skq (i := 3) rfl (by kernel_rfl) (by rfl) hHeld (fun _ _ _ h => h) ?_
    refine skq (i := 4) rfl (by kernel_rfl) (by rfl) hHeld (fun _ _ _ h => h) ?_
    refine skq (i := 5) rfl (by kernel_rfl) (by rfl) hHeld (fun _ _ _ h => h) ?_
    try simp only [nrm]
    refine skq (i := 6) rfl (by kernel_rfl) (by rfl) hHeld (fun _ _ _ h => h) ?_
    refine skq (i := 7) rfl (by kernel_rfl) (by rfl) hHeld (fun _ _ _ h => h) ?_
    refine skq (i := 8) rfl (by kernel_rfl) (by rfl) hHeld (fun _ _ _ h => h) ?_
    try simp only [nrm]
    refine tk (i := 9) (v := ?v510) rfl (by kernel_rfl) (.inl ⟨by rfl, ?y510⟩) hHeld (fun _ _ _ h => h) ?_
    case y510 => intro w hSw; (try dsimp only at hSw); go_simp; first | done | rfl
    try simp only [nrm]
    refine wpAnyH_done (by kernel_rfl) ?_ _
    generalize w1.drew = w2 at *
    go_wp2_with fail
    refine H4.mono ?_
    rintro e w3 ⟨b, rfl, ht, hf⟩
    have HT : Hid ((b = true → (∃ xs, xs.map MeR.me = menEs kids ∧ J (pre ++ xs) w3) ∧ Kc X n0 W w3) ∧ (b = false → ∃ xs, xs.map MeR.me <+: menEs kids ∧ Jx (pre ++ xs) w3)) := ⟨fun e => ⟨(ht e).1, (Kc.grown Y0.out).trans (ht e).2⟩, hf⟩
    clear H4 ht hf
    go_wp2_with fail
    go_ret
    exact ⟨b, rfl, HT.out⟩
  · obtain ⟨x, kv, hxm, hkv, hxe⟩ : ∃ (x : MeR w0) (kv : Value), x.me = ⟨callN mod name, exSo kn, if (kn : Int) = 6 then kids else []⟩ ∧ (kv = if (kn : Int) = 6 then .slice a4 kids.length c4 else .slice none 0 0) ∧ x.enc = .agg #[.string (strOfNums (callN mod name)), .int .i64 (exSo kn), kv] := by
      by_cases h6 : (kn : Int) = 6
      · exact ⟨⟨⟨callN mod name, exSo kn, kids⟩, a4, c4, callN_bt hb2.2.1 hb3.2.1, Nat.le_trans callN_len (by show _ ≤ 3000000; omega), hL4⟩, .slice a4 kids.length c4, by rw [if_pos h6], by rw [if_pos h6], rfl⟩
      · exact ⟨⟨⟨callN mod name, exSo kn, []⟩, none, 0, callN_bt hb2.2.1 hb3.2.1, Nat.le_trans callN_len (by show _ ≤ 3000000; omega), lrow_nil w0⟩, .slice none 0 0, by rw [if_neg h6], by rw [if_neg h6], rfl⟩
    have HM : Hid (menE (.mk kn n mod name kids) = x.me :: menEs kids) := by show _ = _; unfold menE; rw [hxm]; simp [hs]
    rw [HM.out] at hN ⊢
    rw [List.length_cons] at hN
    have hnx : ∀ k, B ≤ k → ¬ X k := fun k hk hx => by have := (hy.hX k hx).2; omega
    have Y1 := grown_below (Below.refl (W.alloc (.cells #[.int .i64 kn, .int .i64 n, .slice a2 mod.length c2, .slice a3 name.length c3, .slice a4 kids.length c4] 122 (0, 0))).heap.size (W.alloc (.cells #[.int .i64 kn, .int .i64 n, .slice a2 mod.length c2, .slice a3 name.length c3, .slice a4 kids.length c4] 122 (0, 0)))).drew none
    have x1 : Blk (W.alloc (.cells #[.int .i64 kn, .int .i64 n, .slice a2 mod.length c2, .slice a3 name.length c3, .slice a4 kids.length c4] 122 (0, 0))).drew W.heap.size 122 [.int .i64 kn, .int .i64 n, .slice a2 mod.length c2, .slice a3 name.length c3, .slice a4 kids.length c4] := x0
    have cd : (W.alloc (.cells #[.int .i64 kn, .int .i64 n, .slice a2 mod.length c2, .slice a3 name.length c3, .slice a4 kids.length c4] 122 (0, 0))).drew.cell? ⟨gY, 0, none⟩ = some (.func (.yield ly) #[] #[]) := c1
    have HMN := (mentionC kn n mod name kids a2 c2 a3 c3 a4 kids.length c4 (exSo kn) kv hkv (W.alloc (.cells #[.int .i64 kn, .int .i64 n, .slice a2 mod.length c2, .slice a3 name.length c3, .slice a4 kids.length c4] 122 (0, 0))).drew (hb2.below hb1.drew) (hb3.below hb1.drew) hn2 hn3).mono (R' := fun e w2 => e = .returned x.enc ∧ w2.cell? ⟨gY, 0, none⟩ = some (.func (.yield ly) #[] #[]) ∧
        YieldAt Fence.wide 0 Tryz.prog ly #[x.enc] w2 fun e w3 => ∃ be : Bool, e = .returned (.bool be) ∧ Hid ((be = true → (w3.cell? ⟨gY, 0, none⟩ = some (.func (.yield ly) #[] #[]) ∧ w3.cell? ⟨W.heap.size, 4, none⟩ = some (.slice a4 kids.length c4)) ∧
          Calls Tryz.prog 137 #[.slice a4 kids.length c4, .func (.yield ly) #[] #[]] w3 (Out n0 X J Jx pre (x.me :: menEs kids) W)) ∧ (be = false → Jx (pre ++ [x]) w3))) (by
      rintro e w2 ⟨rfl, hg2⟩
      have hW2 : W.grownBy w2 none := grown_trans (grown_trans y0 Y1) hg2
      have J2 := hy.hJ _ _ _ hJ hW2
      have b2 := hb.trans ((below_grown hW2).mono hb.size)
      refine ⟨by rw [hxe], cell_on hc (below_grown hW2), ?_⟩
      refine YieldAt.mono (hy.hY 0 pre x w2 J2 (by omega)) ?_
      rintro e w3 (⟨rfl, hJ3, hk3⟩ | ⟨rfl, hJx⟩)
      · have b3 := Kc.below b2 hk3 hy.h0 (fun k hx => (hy.hX k hx).1)
        have q4 : w2.cell? ⟨W.heap.size, 4, none⟩ = some (.slice a4 kids.length c4) := cell_on (x0.cell (i := 4) rfl) (below_grown (grown_trans Y1 hg2))
        refine ⟨true, rfl, fun _ => ⟨⟨hk3.cell (hnx _ hgY) (cell_on hc (below_grown hW2)), hk3.cell (hnx _ hB) q4⟩, ?_⟩, fun e => (by cases e)⟩
        refine (IH (pre ++ [x]) w3 a4 c4 hL4 b3 (Nat.le_trans hB (Nat.le_trans hW2.size hk3.size)) hJ3 (by simp only [List.length_append, List.length_singleton]; omega)).mono ?_
        rintro e w4 ⟨b, rfl, ht, hf⟩
        refine ⟨b, rfl, fun e => ?_, fun e => ?_⟩
        · obtain ⟨⟨xs, e1, e2⟩, hk4⟩ := ht e
          exact ⟨⟨x :: xs, by rw [List.map_cons, e1], by simpa using e2⟩, (Kc.grown hW2).trans (hk3.trans hk4)⟩
        · obtain ⟨xs, e1, e2⟩ := hf e
          exact ⟨x :: xs, by rw [List.map_cons]; exact List.cons_prefix_cons.2 ⟨rfl, e1⟩, by simpa using e2⟩
      · exact ⟨false, rfl, fun e => (by cases e), fun _ => hJx⟩)
    have HO : Hid (∀ w3, Jx (pre ++ [x]) w3 → Out n0 X J Jx pre (x.me :: menEs kids) W (.returned (.bool false)) w3) := fun w3 h => ⟨false, rfl, fun e => (by cases e), fun _ => ⟨[x], by simp, h⟩⟩
    have hsb : (exSo kn != 0) = true := by simpa using hs
    clear hb hc hJ IH hL4 h4 hb2 hb3 J1 hxe hkv hxm Y1 y0 hnx hs hb1 hy
    refine callsIn_wide (n := 0) |>.1 ?_
    refine callsIn_of_wp Tryz.func159 rfl trivial ?_ rfl
    simp only [Tryz.ntmps159, List.size_toArray, List.length_cons, List.length_nil, Nat.reduceAdd, Nat.reduceSub, Array.replicate_succ, Array.replicate_zero, List.push_toArray, List.append_toArray, List.nil_append, List.cons_append]
    have k0 := x0.cell (i := 0) rfl
    gi_wp2_with fail
    have q0 := x1.cell (i := 0) rfl
    have q1 := x1.cell (i := 1) rfl
    have q2 := x1.cell (i := 2) rfl
    have q3 := x1.cell (i := 3) rfl
    have q4 := x1.cell (i := 4) rfl
    clear x0 x1 k0 t1 c1 hB1
    generalize (W.alloc (.cells #[.int .i64 kn, .int .i64 n, .slice a2 mod.length c2, .slice a3 name.length c3, .slice a4 kids.length c4] 122 (0, 0))) = w1 at *
    have hmo : Tryz.prog.follows .mixedOrders = true := by kernel_rfl
    gi_region_with_o (first
      | (refine ⟨trivial, rfl, ?_⟩; gi_at_call 160; refine (callsIn_wide.2 HMN).mono ?_; rintro e w2 ⟨rfl, cY, fn, tmps, assign, body, hyl, hR⟩)
      | (refine ⟨rfl, ?_⟩; refine hR.mono ?_; rintro e w3 ⟨be, rfl, HB⟩))
    all_goals
      cases be
      · have HJX := HO.out _ (HB.out.2 rfl)
        have HJ9 : Hid (Out n0 X J Jx pre (x.me :: menEs kids) W (.returned (.bool false)) w3) := HJX
        clear HB HMN hR HJX HO
        gi_wp2_with fail
        go_ret
        exact HJ9.out
      · obtain ⟨⟨cY3, c43⟩, H9⟩ := HB.out.1 rfl
        clear HB HMN hR HO
        gi_wp2_with (refine ⟨trivial, rfl, ?_⟩; gi_at_call 137; refine (callsIn_wide.2 H9).mono ?_; clear H9; rintro e w4 ⟨b, rfl, HT⟩; replace HT : Hid _ := HT)
        go_ret
        exact ⟨b, rfl, HT.out⟩
end Go.Proofs.YtajnfknldofjlaaGreatDoor
namespace Go.Proofs.YtajnfknldofjlaaGreatDoor
open Go.RowKit
set_option linter.unusedVariables false
set_option linter.unusedSimpArgs false
set_option maxRecDepth 100000

mutual
def wfE : Ex → Prop
  | .mk k n mod name kids => (0 ≤ k ∧ k < 8 ∧ mod.length ≤ 1048576 ∧ name.length ≤ 1048576) ∧ wfEs kids
def wfEs : List Ex → Prop
  | [] => True
  | e :: l => wfE e ∧ wfEs l
end
theorem wfEs_mem : ∀ {l : List Ex}, wfEs l → ∀ e ∈ l, wfE e := by
  intro l
  induction l with
  | nil => intro _ e he; simp at he
  | cons x l ih =>
    intro h e he
    unfold wfEs at h
    rcases List.mem_cons.1 he with rfl | he
    · exact h.1
    · exact ih h.2 e he
theorem menEs_append (l r : List Ex) : menEs (l ++ r) = menEs l ++ menEs r := by
  induction l with
  | nil => simp [menEs]
  | cons x l ih => simp [menEs, ih]
theorem menEs_at {l : List Ex} {j : Nat} {e : Ex} (h : l[j]? = some e) : menEs (l.take (j + 1)) = menEs (l.take j) ++ menE e ∧ ∃ r, menEs l = menEs (l.take j) ++ menE e ++ r := by
  obtain ⟨hj, rfl⟩ := List.getElem?_eq_some_iff.1 h
  have e1 : menEs (l.take (j + 1)) = menEs (l.take j) ++ menE l[j] := by
    rw [List.take_succ_eq_append_getElem hj, menEs_append]
    simp [menEs]
  refine ⟨e1, menEs (l.drop (j + 1)), ?_⟩
  rw [← e1, ← menEs_append, List.take_append_drop]

def Ex.yk : Ex → List Ex
  | .mk _ _ _ _ ks => ks

set_option maxHeartbeats 4000000 in
theorem inListC {w0 : World} {ly B n0 N : Nat} {X : Nat → Prop} {J Jx : List (MeR w0) → World → Prop} (hy : Yw w0 ly B n0 N X J Jx) (l : List Ex) (hwf : wfEs l) (IH : ∀ e ∈ l, InE w0 ly B n0 N X J Jx e.yk) : InE w0 ly B n0 N X J Jx l := by
  intro pre W a c hL hb hB hJ hN
  have hmf : ∀ (fn : Fn) (first cap : Array Value) (w : World), (Instr.makeFunc fn first cap).run Tryz.prog w = .ok (.func fn first cap) w := fun _ _ _ _ => rfl
  have y0 := grown_alloc W (.cells #[.func (.yield ly) #[] #[]] 146 (0, 0)) none
  have x0 := Blk.new W 146 [.func (.yield ly) #[] #[]]
  simp only [List.toArray] at x0
  have hb1 := hb.trans ((below_grown y0).mono hb.size)
  have J1 := hy.hJ _ _ _ hJ y0
  have hnx : ∀ k, B ≤ k → ¬ X k := fun k hk hx => by have := (hy.hX k hx).2; omega
  have A : ∀ W1 : World, AsksE false 159 #[.pointer (some ⟨W.heap.size, 0, none⟩)] X n0 agg a c 5 (exs l) (fun j wr => (∃ xs : List (MeR w0), xs.map MeR.me = menEs (l.take j) ∧ J (pre ++ xs) wr) ∧ Below w0.heap.size w0 wr ∧ wr.cell? ⟨W.heap.size, 0, none⟩ = some (.func (.yield ly) #[] #[]) ∧ B ≤ wr.heap.size) (fun wr => ∃ xs : List (MeR w0), xs.map MeR.me <+: menEs l ∧ Jx (pre ++ xs) wr) := by
    intro W1
    refine ⟨ent_of Tryz.func159 rfl rfl, fun j wr hi => hL.below hi.2.1, by intro r hr; rw [exs_map] at hr; obtain ⟨y, _, rfl⟩ := List.mem_map.1 hr; cases y; rfl, ?_⟩
    rintro j r wr vs hr ⟨⟨xs, hxs, hJ2⟩, hb2, hc2, hB2⟩ hvs hcs
    have hvl : vs.length = r.length := hvs.len
    have hv0 := vals_back hL hb2 hr hvl hcs
    rw [exs_map, List.getElem?_map] at hr
    obtain ⟨e, he, rfl⟩ := Option.map_eq_some_iff.1 hr
    have hwe := wfEs_mem hwf e (List.mem_of_getElem? he)
    have ihe := IH e (List.mem_of_getElem? he)
    obtain ⟨m1, rst, m2⟩ := menEs_at he
    have hxl : xs.length = (menEs (l.take j)).length := by rw [← hxs, List.length_map]
    have hN2 : (pre ++ xs).length + (menE e).length ≤ N := by
      rw [m2] at hN
      simp only [List.length_append] at hN ⊢
      omega
    obtain ⟨k, n, mod, name, kids⟩ := e
    unfold wfE at hwe
    obtain ⟨⟨k0, k8, hm, hn⟩, _⟩ := hwe
    obtain ⟨kn, rfl⟩ : ∃ kn : Nat, k = kn := ⟨k.toNat, by omega⟩
    refine (inOneC hy kn (by omega) n mod name kids (pre ++ xs) vs wr W.heap.size hv0 hc2 hB hb2 hB2 hJ2 hN2 hm hn ihe).mono ?_
    rintro e w' ⟨b, rfl, ht, hf⟩
    refine ⟨b, rfl, fun hb' => ?_, fun hb' => ?_⟩
    · obtain ⟨⟨ys, e1, e2⟩, hk⟩ := ht (by simpa using hb')
      exact ⟨⟨⟨xs ++ ys, by rw [List.map_append, hxs, e1, m1], by rw [← List.append_assoc]; exact e2⟩, Kc.below hb2 hk hy.h0 (fun k hx => (hy.hX k hx).1), hk.cell (hnx _ hB) hc2, Nat.le_trans hB2 hk.size⟩, hk⟩
    · obtain ⟨ys, e1, e2⟩ := hf (by simpa using hb')
      refine ⟨xs ++ ys, ?_, by rw [← List.append_assoc]; exact e2⟩
      rw [List.map_append, hxs, m2, List.append_assoc]
      exact (List.prefix_append_right_inj _).2 (e1.trans (List.prefix_append _ _))
  have e5 : (exs l).length = l.length := by rw [exs_map, List.length_map]
  have H1 := allEExpr 159 #[.pointer (some ⟨W.heap.size, 0, none⟩)] X n0 a l.length c (exs l) _ _ _ (A (W.alloc (.cells #[.func (.yield ly) #[] #[]] 146 (0, 0)))) e5 ⟨⟨[], by simp [menEs], by simpa using J1⟩, hb1, x0.cell (i := 0) rfl, Nat.le_trans hB y0.size⟩ (by
    rintro j w w' ⟨⟨xs, h1, h2⟩, h3, h4, h5⟩ hg
    exact ⟨⟨xs, h1, hy.hJ _ _ _ h2 hg⟩, h3.trans ((below_grown hg).mono h3.size), cell_on h4 (below_grown hg), Nat.le_trans h5 hg.size⟩) (hnx _ (Nat.le_trans hB y0.size))
  have Y0 : Hid (W.grownBy _ none) := y0
  clear A hb hJ J1 hb1 x0 y0 hL IH hwf hN e5 hnx hy
  go_enter Tryz.func137, Tryz.ntmps137
  go_upto_region 1 with fail
  generalize W.alloc (.cells #[.func (.yield ly) #[] #[]] 146 (0, 0)) = w1 at *
  go_wp2_with fail
  refine H1.mono ?_
  rintro e w2 ⟨r, rfl, ht, hf⟩
  have HT : Hid (Out n0 X J Jx pre (menEs l) W (.returned (.bool r)) w2) := by
    refine ⟨r, rfl, fun e => ?_, hf⟩
    obtain ⟨⟨⟨xs, h1, h2⟩, _⟩, hk⟩ := ht e
    rw [List.take_length] at h1
    exact ⟨⟨xs, h1, h2⟩, (Kc.grown Y0.out).trans hk⟩
  clear H1 ht hf
  go_wp2_with fail
  go_ret
  exact HT.out

mutual
theorem inKids {w0 : World} {ly B n0 N : Nat} {X : Nat → Prop} {J Jx : List (MeR w0) → World → Prop} (hy : Yw w0 ly B n0 N X J Jx) : ∀ e : Ex, wfE e → InE w0 ly B n0 N X J Jx e.yk
  | .mk k n mod name kids, h => inListC hy kids (by unfold wfE at h; exact h.2) (inAll hy kids (by unfold wfE at h; exact h.2))
theorem inAll {w0 : World} {ly B n0 N : Nat} {X : Nat → Prop} {J Jx : List (MeR w0) → World → Prop} (hy : Yw w0 ly B n0 N X J Jx) : ∀ l : List Ex, wfEs l → ∀ e ∈ l, InE w0 ly B n0 N X J Jx e.yk
  | [], _, e, he => by simp at he
  | x :: l, h, e, he => by
    unfold wfEs at h
    have h1 := inKids hy x h.1
    have h2 := inAll hy l h.2
    rcases List.mem_cons.1 he with rfl | he
    · exact h1
    · exact h2 e he
end
theorem inExprsC {w0 : World} {ly B n0 N : Nat} {X : Nat → Prop} {J Jx : List (MeR w0) → World → Prop} (hy : Yw w0 ly B n0 N X J Jx) (l : List Ex) (h : wfEs l) : InE w0 ly B n0 N X J Jx l := inListC hy l h (inAll hy l h)
end Go.Proofs.YtajnfknldofjlaaGreatDoor
namespace Go.Proofs.YtajnfknldofjlaaGreatDoor
open Go.RowKit Go.Shelf
set_option linter.unusedVariables false
set_option linter.unusedSimpArgs false
set_option maxRecDepth 100000
attribute [local go_sem] Oper.semAt_some

mutual
def menS : St → List Me
  | .mk k n name kids body els => (if stSo k.toNat = 0 then [] else [⟨name, stSo k.toNat, []⟩]) ++ (menEs kids ++ (menSs body ++ menSs els))
def menSs : List St → List Me
  | [] => []
  | s :: l => menS s ++ menSs l
end
def InS (w0 : World) (ly B n0 N : Nat) (X : Nat → Prop) (J Jx : List (MeR w0) → World → Prop) (l : List St) : Prop :=
  ∀ (pre : List (MeR w0)) (W : World) (a : Option Addr) (c : Nat), LRow w0 a c 6 (sts l) → Below w0.heap.size w0 W → B ≤ W.heap.size → J pre W → pre.length + (menSs l).length ≤ N →
    Calls Tryz.prog 112 #[.slice a l.length c, .func (.yield ly) #[] #[]] W (Out n0 X J Jx pre (menSs l) W)

/-- What stands when ms0 has come. -/
structure Sn {w0 : World} (B n0 : Nat) (X : Nat → Prop) (J : List (MeR w0) → World → Prop) (pre : List (MeR w0)) (W : World) (ms0 : List Me) (W1 : World) : Prop where
  ex : ∃ xs : List (MeR w0), xs.map MeR.me = ms0 ∧ J (pre ++ xs) W1
  kc : Kc X n0 W W1
  b : Below w0.heap.size w0 W1
  sz : B ≤ W1.heap.size
theorem out_no {w0 : World} {n0 : Nat} {X : Nat → Prop} {J Jx : List (MeR w0) → World → Prop} {pre : List (MeR w0)} {W W2 : World} {ms0 ms1 ms : List Me} (hm : ms0 ++ ms1 <+: ms) {xs : List (MeR w0)} (h0 : xs.map MeR.me = ms0) (h : ∃ ys : List (MeR w0), ys.map MeR.me <+: ms1 ∧ Jx (pre ++ xs ++ ys) W2) : Out n0 X J Jx pre ms W (.returned (.bool false)) W2 := by
  obtain ⟨ys, e1, e2⟩ := h
  refine ⟨false, rfl, fun e => (by cases e), fun _ => ⟨xs ++ ys, ?_, by rw [← List.append_assoc]; exact e2⟩⟩
  rw [List.map_append, h0]
  exact ((List.prefix_append_right_inj _).2 e1).trans hm
theorem Sn.step {w0 : World} {B n0 : Nat} {X : Nat → Prop} {J : List (MeR w0) → World → Prop} {pre : List (MeR w0)} {W W1 W2 : World} {ms0 ms1 : List Me} (h : Sn B n0 X J pre W ms0 W1) {xs : List (MeR w0)} (hxs : xs.map MeR.me = ms0) (h0 : w0.heap.size ≤ n0) (hX : ∀ k, X k → w0.heap.size ≤ k)
    (h2 : (∃ ys : List (MeR w0), ys.map MeR.me = ms1 ∧ J (pre ++ xs ++ ys) W2) ∧ Kc X n0 W1 W2) : Sn B n0 X J pre W (ms0 ++ ms1) W2 := by
  obtain ⟨⟨ys, e1, e2⟩, hk⟩ := h2
  exact ⟨⟨xs ++ ys, by rw [List.map_append, hxs, e1], by rw [← List.append_assoc]; exact e2⟩, h.kc.trans hk, Kc.below h.b hk h0 hX, Nat.le_trans h.sz hk.size⟩

def Bo (P : Prop) (Q : Prop) (b : Bool) : Prop := (b = true → P) ∧ (b = false → Q)
theorem Bo.split {P Q : Prop} {b : Bool} (h : Bo P Q b) : (b = true ∧ P) ∨ (b = false ∧ Hid Q) := by
  cases b
  · exact .inr ⟨rfl, h.2 rfl⟩
  · exact .inl ⟨rfl, h.1 rfl⟩

set_option maxHeartbeats 1000000 in
theorem restC {w0 : World} {ly B n0 N : Nat} {X : Nat → Prop} {J Jx : List (MeR w0) → World → Prop} (hy : Yw w0 ly B n0 N X J Jx) (kids : List Ex) (body els : List St) (pre : List (MeR w0)) (ms0 : List Me) (W W1 : World) (gY gS : Nat) (a3 a4 a5 : Option Addr) (c3 c4 c5 : Nat)
    (h3 : LRow w0 a3 c3 5 (exs kids)) (h4 : LRow w0 a4 c4 6 (sts body)) (h5 : LRow w0 a5 c5 6 (sts els)) (IHk : InE w0 ly B n0 N X J Jx kids) (IHb : InS w0 ly B n0 N X J Jx body) (IHe : InS w0 ly B n0 N X J Jx els)
    (hN : pre.length + (ms0 ++ (menEs kids ++ (menSs body ++ menSs els))).length ≤ N) (h : Sn B n0 X J pre W ms0 W1) (hgY : B ≤ gY) (hgS : B ≤ gS) (cY : W1.cell? ⟨gY, 0, none⟩ = some (.func (.yield ly) #[] #[])) (k4 : W1.cell? ⟨gS, 4, none⟩ = some (.slice a4 body.length c4)) (k5 : W1.cell? ⟨gS, 5, none⟩ = some (.slice a5 els.length c5)) :
    Calls Tryz.prog 137 #[.slice a3 kids.length c3, .func (.yield ly) #[] #[]] W1 fun e w2 => ∃ b : Bool, e = .returned (.bool b) ∧ Hid (Bo
      ((w2.cell? ⟨gY, 0, none⟩ = some (.func (.yield ly) #[] #[]) ∧ w2.cell? ⟨gS, 4, none⟩ = some (.slice a4 body.length c4)) ∧ Calls Tryz.prog 112 #[.slice a4 body.length c4, .func (.yield ly) #[] #[]] w2 fun e w3 => ∃ b : Bool, e = .returned (.bool b) ∧ Hid (Bo
        ((w3.cell? ⟨gY, 0, none⟩ = some (.func (.yield ly) #[] #[]) ∧ w3.cell? ⟨gS, 5, none⟩ = some (.slice a5 els.length c5)) ∧ Calls Tryz.prog 112 #[.slice a5 els.length c5, .func (.yield ly) #[] #[]] w3 (Out n0 X J Jx pre (ms0 ++ (menEs kids ++ (menSs body ++ menSs els))) W))
        (Out n0 X J Jx pre (ms0 ++ (menEs kids ++ (menSs body ++ menSs els))) W (.returned (.bool false)) w3) b))
      (Out n0 X J Jx pre (ms0 ++ (menEs kids ++ (menSs body ++ menSs els))) W (.returned (.bool false)) w2) b) := by
  have hnx : ∀ k, B ≤ k → ¬ X k := fun k hk hx => by have := (hy.hX k hx).2; omega
  have hX0 : ∀ k, X k → w0.heap.size ≤ k := fun k hx => (hy.hX k hx).1
  simp only [List.length_append] at hN
  obtain ⟨xs, e1, e2⟩ := h.ex
  have hl1 : xs.length = ms0.length := by rw [← e1, List.length_map]
  refine (IHk (pre ++ xs) W1 a3 c3 h3 h.b h.sz e2 (by simp only [List.length_append]; omega)).mono ?_
  rintro e w2 ⟨b, rfl, ht, hf⟩
  refine ⟨b, rfl, fun hb => ?_, fun hb => ?_⟩
  · have s2 := h.step e1 hy.h0 hX0 (ht hb)
    have hk2 := (ht hb).2
    have cY2 := hk2.cell (hnx _ hgY) cY
    have k42 := hk2.cell (hnx _ hgS) k4
    have k52 := hk2.cell (hnx _ hgS) k5
    refine ⟨⟨cY2, k42⟩, ?_⟩
    obtain ⟨ys, e3, e4⟩ := s2.ex
    have hl2 : ys.length = ms0.length + (menEs kids).length := by rw [← List.length_map (f := MeR.me), e3, List.length_append]
    refine (IHb (pre ++ ys) w2 a4 c4 h4 s2.b s2.sz e4 (by simp only [List.length_append]; omega)).mono ?_
    rintro e w3 ⟨b, rfl, ht, hf⟩
    refine ⟨b, rfl, fun hb => ?_, fun hb => ?_⟩
    · have s3 := s2.step e3 hy.h0 hX0 (ht hb)
      have hk3 := (ht hb).2
      refine ⟨⟨hk3.cell (hnx _ hgY) cY2, hk3.cell (hnx _ hgS) k52⟩, ?_⟩
      obtain ⟨zs, e5, e6⟩ := s3.ex
      have hl3 : zs.length = ms0.length + (menEs kids).length + (menSs body).length := by rw [← List.length_map (f := MeR.me), e5, List.length_append, List.length_append]
      refine (IHe (pre ++ zs) w3 a5 c5 h5 s3.b s3.sz e6 (by simp only [List.length_append]; omega)).mono ?_
      rintro e w4 ⟨b, rfl, ht, hf⟩
      cases b
      · exact out_no (by simp) e5 (hf rfl)
      · have s4 := s3.step e5 hy.h0 hX0 (ht rfl)
        refine ⟨true, rfl, fun _ => ⟨?_, s4.kc⟩, fun e => (by cases e)⟩
        obtain ⟨us, e7, e8⟩ := s4.ex
        exact ⟨us, by rw [e7]; simp, e8⟩
    · exact out_no (ms1 := menSs body) (by simp only [List.append_assoc]; exact (List.prefix_append_right_inj _).2 ((List.prefix_append_right_inj _).2 (List.prefix_append _ _))) e3 (hf hb)
  · exact out_no (ms1 := menEs kids) ((List.prefix_append_right_inj _).2 (List.prefix_append _ _)) e1 (hf hb)

set_option maxHeartbeats 4000000 in
theorem inOneS {w0 : World} {ly B n0 N : Nat} {X : Nat → Prop} {J Jx : List (MeR w0) → World → Prop} (hy : Yw w0 ly B n0 N X J Jx) (kn : Nat) (hk : kn < 8) (n : Int) (name : List Int) (kids : List Ex) (body els : List St) (pre : List (MeR w0)) (vs : List Value) (W : World) (gY : Nat)
    (h : RdVals w0 (St.fl (.mk kn n name kids body els)) vs) (hc : W.cell? ⟨gY, 0, none⟩ = some (.func (.yield ly) #[] #[])) (hgY : B ≤ gY) (hb : Below w0.heap.size w0 W) (hB : B ≤ W.heap.size) (hJ : J pre W) (hN : pre.length + (menS (.mk kn n name kids body els)).length ≤ N)
    (hn2 : name.length ≤ 1048576) (IHk : InE w0 ly B n0 N X J Jx kids) (IHb : InS w0 ly B n0 N X J Jx body) (IHe : InS w0 ly B n0 N X J Jx els) :
    Calls Tryz.prog 136 #[agg vs, .pointer (some ⟨gY, 0, none⟩)] W (Out n0 X J Jx pre (menS (.mk kn n name kids body els)) W) := by
  obtain ⟨v0, _, rfl, rfl, v1, _, rfl, rfl, v2, _, rfl, ⟨a2, c2, rfl, hb2, _⟩, v3, _, rfl, h3, v4, _, rfl, h4, v5, _, rfl, h5, rfl⟩ := h
  obtain ⟨a3, c3, rfl, hL3⟩ := h3.list
  obtain ⟨a4, c4, rfl, hL4⟩ := h4.list
  obtain ⟨a5, c5, rfl, hL5⟩ := h5.list
  rw [show (exs kids).length = kids.length by simp [exs_map], show (sts body).length = body.length by simp [sts_map], show (sts els).length = els.length by simp [sts_map]]
  have y0 := grown_alloc W (.cells #[.int .i64 kn, .int .i64 n, .slice a2 name.length c2, .slice a3 kids.length c3, .slice a4 body.length c4, .slice a5 els.length c5] 133 (0, 0)) none
  have x0 := Blk.new W 133 [.int .i64 kn, .int .i64 n, .slice a2 name.length c2, .slice a3 kids.length c3, .slice a4 body.length c4, .slice a5 els.length c5]
  simp only [List.toArray] at x0
  have hb1 := hb.trans ((below_grown y0).mono hb.size)
  have t1 := cell_on (hy.st kn hk) hb1
  have c1 := cell_on hc (below_grown y0)
  have J1 := hy.hJ _ _ _ hJ y0
  have hB1 : B ≤ (W.alloc (.cells #[.int .i64 kn, .int .i64 n, .slice a2 name.length c2, .slice a3 kids.length c3, .slice a4 body.length c4, .slice a5 els.length c5] 133 (0, 0))).heap.size := Nat.le_trans hB y0.size
  simp only [agg]
  by_cases hs : stSo kn = 0
  · have HM : Hid (menS (.mk kn n name kids body els) = [] ++ (menEs kids ++ (menSs body ++ menSs els))) := by show _ = _; unfold menS; simp [hs]
    rw [HM.out] at hN ⊢
    rw [hs] at t1
    have H4 := restC hy kids body els pre [] W (W.alloc (.cells #[.int .i64 kn, .int .i64 n, .slice a2 name.length c2, .slice a3 kids.length c3, .slice a4 body.length c4, .slice a5 els.length c5] 133 (0, 0))) gY W.heap.size a3 a4 a5 c3 c4 c5 hL3 hL4 hL5 IHk IHb IHe hN ⟨⟨[], rfl, by simpa using J1⟩, Kc.grown y0, hb1, hB1⟩ hgY hB c1 (x0.cell (i := 4) rfl) (x0.cell (i := 5) rfl)
    clear hb hc hJ IHk IHb IHe hL3 hL4 hL5 h3 h4 h5 hb2 J1 hy hb1
    go_enter Tryz.func136, Tryz.ntmps136
    go_upto_region 1 with fail
    generalize (W.alloc (.cells #[.int .i64 kn, .int .i64 n, .slice a2 name.length c2, .slice a3 kids.length c3, .slice a4 body.length c4, .slice a5 els.length c5] 133 (0, 0))) = w1 at *
    have k0 := x0.cell (i := 0) rfl
    have k3 := x0.cell (i := 3) rfl
    clear y0 hB1
    go_wp2_with fail
    refine H4.mono ?_
    rintro e w2 ⟨b, rfl, HB⟩
    clear H4 k0 k3 t1 c1 x0
    cases b
    · have HO : Hid (Out n0 X J Jx pre ([] ++ (menEs kids ++ (menSs body ++ menSs els))) W (.returned (.bool false)) w2) := HB.out.2 rfl
      clear HB
      go_wp2_with fail
      go_ret
      exact HO.out
    · obtain ⟨⟨c2', k4'⟩, H5⟩ := HB.out.1 rfl
      clear HB
      go_wp2_with fail
      refine H5.mono ?_
      rintro e w3 ⟨b, rfl, HB⟩
      clear H5 c2' k4'
      cases b
      · have HO : Hid (Out n0 X J Jx pre ([] ++ (menEs kids ++ (menSs body ++ menSs els))) W (.returned (.bool false)) w3) := HB.out.2 rfl
        clear HB
        go_wp2_with fail
        go_ret
        exact HO.out
      · obtain ⟨⟨c3', k5'⟩, H6⟩ := HB.out.1 rfl
        clear HB
        go_wp2_with fail
        refine H6.mono ?_
        rintro e w4 ⟨b, rfl, HT⟩
        replace HT : Hid _ := HT
        clear H6 c3' k5'
        go_wp2_with fail
        go_ret
        exact ⟨b, rfl, HT.out⟩
  · obtain ⟨x, hxm, hxe⟩ : ∃ (x : MeR w0), x.me = ⟨name, stSo kn, []⟩ ∧ x.enc = .agg #[.string (strOfNums name), .int .i64 (stSo kn), .slice none 0 0] := ⟨⟨⟨name, stSo kn, []⟩, none, 0, hb2.2.1, Nat.le_trans hn2 (by decide), lrow_nil w0⟩, rfl, rfl⟩
    have HM : Hid (menS (.mk kn n name kids body els) = [x.me] ++ (menEs kids ++ (menSs body ++ menSs els))) := by show _ = _; unfold menS; rw [hxm]; simp [hs]
    rw [HM.out] at hN ⊢
    have hnx : ∀ k, B ≤ k → ¬ X k := fun k hk hx => by have := (hy.hX k hx).2; omega
    have HYA : YieldAt Fence.wide 0 Tryz.prog ly #[x.enc] (W.alloc (.cells #[.int .i64 kn, .int .i64 n, .slice a2 name.length c2, .slice a3 kids.length c3, .slice a4 body.length c4, .slice a5 els.length c5] 133 (0, 0))) fun e w3 => ∃ be : Bool, e = .returned (.bool be) ∧ Hid (Bo ((w3.cell? ⟨gY, 0, none⟩ = some (.func (.yield ly) #[] #[]) ∧ w3.cell? ⟨W.heap.size, 3, none⟩ = some (.slice a3 kids.length c3)) ∧
        Calls Tryz.prog 137 #[.slice a3 kids.length c3, .func (.yield ly) #[] #[]] w3 fun e w2 => ∃ b : Bool, e = .returned (.bool b) ∧ Hid (Bo
      ((w2.cell? ⟨gY, 0, none⟩ = some (.func (.yield ly) #[] #[]) ∧ w2.cell? ⟨W.heap.size, 4, none⟩ = some (.slice a4 body.length c4)) ∧ Calls Tryz.prog 112 #[.slice a4 body.length c4, .func (.yield ly) #[] #[]] w2 fun e w3 => ∃ b : Bool, e = .returned (.bool b) ∧ Hid (Bo
        ((w3.cell? ⟨gY, 0, none⟩ = some (.func (.yield ly) #[] #[]) ∧ w3.cell? ⟨W.heap.size, 5, none⟩ = some (.slice a5 els.length c5)) ∧ Calls Tryz.prog 112 #[.slice a5 els.length c5, .func (.yield ly) #[] #[]] w3 (Out n0 X J Jx pre ([x.me] ++ (menEs kids ++ (menSs body ++ menSs els))) W))
        (Out n0 X J Jx pre ([x.me] ++ (menEs kids ++ (menSs body ++ menSs els))) W (.returned (.bool false)) w3) b))
      (Out n0 X J Jx pre ([x.me] ++ (menEs kids ++ (menSs body ++ menSs els))) W (.returned (.bool false)) w2) b)) (Out n0 X J Jx pre ([x.me] ++ (menEs kids ++ (menSs body ++ menSs els))) W (.returned (.bool false)) w3) be) := by
      refine YieldAt.mono (hy.hY 0 pre x _ J1 (by simp only [List.length_append, List.length_singleton] at hN; omega)) ?_
      rintro e w3 (⟨rfl, hJ3, hk3⟩ | ⟨rfl, hJx⟩)
      · refine ⟨true, rfl, fun _ => ⟨⟨hk3.cell (hnx _ hgY) c1, hk3.cell (hnx _ hB) (x0.cell (i := 3) rfl)⟩, ?_⟩, fun e => (by cases e)⟩
        exact restC hy kids body els pre [x.me] W w3 gY W.heap.size a3 a4 a5 c3 c4 c5 hL3 hL4 hL5 IHk IHb IHe hN ⟨⟨[x], rfl, hJ3⟩, (Kc.grown y0).trans hk3, Kc.below hb1 hk3 hy.h0 (fun k hx => (hy.hX k hx).1), Nat.le_trans hB1 hk3.size⟩ hgY hB (hk3.cell (hnx _ hgY) c1) (hk3.cell (hnx _ hB) (x0.cell (i := 4) rfl)) (hk3.cell (hnx _ hB) (x0.cell (i := 5) rfl))
      · exact ⟨false, rfl, fun e => (by cases e), fun _ => ⟨false, rfl, fun e => (by cases e), fun _ => ⟨[x], by simp, hJx⟩⟩⟩
    obtain ⟨fn, tmps, assign, body', hyl, hR⟩ := HYA
    rw [hxe] at hyl
    have kc := conv_bytes c2 (hb2.below hb1)
    have hsb : (stSo kn != 0) = true := by simpa using hs
    clear hb hc hJ IHk IHb IHe hL3 hL4 hL5 h3 h4 h5 hb2 J1 hy hb1 hxe hxm hnx hs y0 hB1
    refine callsIn_wide (n := 0) |>.1 ?_
    refine callsIn_of_wp Tryz.func136 rfl trivial ?_ rfl
    simp only [Tryz.ntmps136, List.size_toArray, List.length_cons, List.length_nil, Nat.reduceAdd, Nat.reduceSub, Array.replicate_succ, Array.replicate_zero, List.push_toArray, List.append_toArray, List.nil_append, List.cons_append]
    have k0 := x0.cell (i := 0) rfl
    have k2 := x0.cell (i := 2) rfl
    gi_wp2_with (first
      | (refine ⟨rfl, ?_⟩; refine hR.mono ?_; clear hR; rintro e w3 ⟨be, rfl, HB⟩; rcases Bo.split HB.out with ⟨rfl, ⟨cY3, k33⟩, H4⟩ | ⟨rfl, HO⟩)
      | (refine ⟨trivial, rfl, ?_⟩; gi_at_call 137; refine (callsIn_wide.2 H4).mono ?_; clear H4; rintro e w4 ⟨be4, rfl, HB4⟩; rcases Bo.split HB4.out with ⟨rfl, ⟨cY4, k44⟩, H5⟩ | ⟨rfl, HO⟩)
      | (refine ⟨trivial, rfl, ?_⟩; gi_at_call 112; refine (callsIn_wide.2 H5).mono ?_; clear H5; rintro e w5 ⟨be5, rfl, HB5⟩; rcases Bo.split HB5.out with ⟨rfl, ⟨cY5, k55⟩, H6⟩ | ⟨rfl, HO⟩)
      | (refine ⟨trivial, rfl, ?_⟩; gi_at_call 112; refine (callsIn_wide.2 H6).mono ?_; clear H6; rintro e w6 ⟨be6, rfl, HT⟩; replace HT : Hid _ := HT))
    all_goals first
      | (go_ret; exact ⟨be6, rfl, HT.out⟩)
      | (go_ret; exact HO.out)
      | (refine ⟨trivial, ?_⟩; gi_wp2_with fail; go_ret; exact HO.out)
      | (refine ⟨trivial, ?_⟩; gi_wp2_with fail; refine ⟨trivial, ?_⟩; gi_wp2_with fail; go_ret; exact HO.out)

mutual
def wfS : St → Prop
  | .mk k n name kids body els => (0 ≤ k ∧ k < 8 ∧ name.length ≤ 1048576) ∧ wfEs kids ∧ wfSs body ∧ wfSs els
def wfSs : List St → Prop
  | [] => True
  | s :: l => wfS s ∧ wfSs l
end
theorem wfSs_mem : ∀ {l : List St}, wfSs l → ∀ e ∈ l, wfS e := by
  intro l
  induction l with
  | nil => intro _ e he; simp at he
  | cons x l ih =>
    intro h e he
    unfold wfSs at h
    rcases List.mem_cons.1 he with rfl | he
    · exact h.1
    · exact ih h.2 e he
theorem menSs_append (l r : List St) : menSs (l ++ r) = menSs l ++ menSs r := by
  induction l with
  | nil => simp [menSs]
  | cons x l ih => simp [menSs, ih]
theorem menSs_at {l : List St} {j : Nat} {e : St} (h : l[j]? = some e) : menSs (l.take (j + 1)) = menSs (l.take j) ++ menS e ∧ ∃ r, menSs l = menSs (l.take j) ++ menS e ++ r := by
  obtain ⟨hj, rfl⟩ := List.getElem?_eq_some_iff.1 h
  have e1 : menSs (l.take (j + 1)) = menSs (l.take j) ++ menS l[j] := by
    rw [List.take_succ_eq_append_getElem hj, menSs_append]
    simp [menSs]
  refine ⟨e1, menSs (l.drop (j + 1)), ?_⟩
  rw [← e1, ← menSs_append, List.take_append_drop]
def St.yb : St → List St
  | .mk _ _ _ _ b _ => b
def St.ye : St → List St
  | .mk _ _ _ _ _ e => e

set_option maxHeartbeats 4000000 in
theorem inListS {w0 : World} {ly B n0 N : Nat} {X : Nat → Prop} {J Jx : List (MeR w0) → World → Prop} (hy : Yw w0 ly B n0 N X J Jx) (l : List St) (hwf : wfSs l) (IH : ∀ e ∈ l, InS w0 ly B n0 N X J Jx e.yb ∧ InS w0 ly B n0 N X J Jx e.ye) : InS w0 ly B n0 N X J Jx l := by
  intro pre W a c hL hb hB hJ hN
  have hmf : ∀ (fn : Fn) (first cap : Array Value) (w : World), (Instr.makeFunc fn first cap).run Tryz.prog w = .ok (.func fn first cap) w := fun _ _ _ _ => rfl
  have y0 := grown_alloc W (.cells #[.func (.yield ly) #[] #[]] 146 (0, 0)) none
  have x0 := Blk.new W 146 [.func (.yield ly) #[] #[]]
  simp only [List.toArray] at x0
  have hb1 := hb.trans ((below_grown y0).mono hb.size)
  have J1 := hy.hJ _ _ _ hJ y0
  have hnx : ∀ k, B ≤ k → ¬ X k := fun k hk hx => by have := (hy.hX k hx).2; omega
  have A : ∀ W1 : World, AsksE false 136 #[.pointer (some ⟨W.heap.size, 0, none⟩)] X n0 agg a c 6 (sts l) (fun j wr => (∃ xs : List (MeR w0), xs.map MeR.me = menSs (l.take j) ∧ J (pre ++ xs) wr) ∧ Below w0.heap.size w0 wr ∧ wr.cell? ⟨W.heap.size, 0, none⟩ = some (.func (.yield ly) #[] #[]) ∧ B ≤ wr.heap.size) (fun wr => ∃ xs : List (MeR w0), xs.map MeR.me <+: menSs l ∧ Jx (pre ++ xs) wr) := by
    intro W1
    refine ⟨ent_of Tryz.func136 rfl rfl, fun j wr hi => hL.below hi.2.1, by intro r hr; rw [sts_map] at hr; obtain ⟨y, _, rfl⟩ := List.mem_map.1 hr; cases y; rfl, ?_⟩
    rintro j r wr vs hr ⟨⟨xs, hxs, hJ2⟩, hb2, hc2, hB2⟩ hvs hcs
    have hvl : vs.length = r.length := hvs.len
    have hv0 := vals_back hL hb2 hr hvl hcs
    rw [sts_map, List.getElem?_map] at hr
    obtain ⟨e, he, rfl⟩ := Option.map_eq_some_iff.1 hr
    have hwe := wfSs_mem hwf e (List.mem_of_getElem? he)
    have ihe := IH e (List.mem_of_getElem? he)
    obtain ⟨m1, rst, m2⟩ := menSs_at he
    have hxl : xs.length = (menSs (l.take j)).length := by rw [← hxs, List.length_map]
    have hN2 : (pre ++ xs).length + (menS e).length ≤ N := by
      rw [m2] at hN
      simp only [List.length_append] at hN ⊢
      omega
    obtain ⟨k, n, name, kids, body, els⟩ := e
    unfold wfS at hwe
    obtain ⟨⟨k0, k8, hn⟩, hwk, _⟩ := hwe
    obtain ⟨kn, rfl⟩ : ∃ kn : Nat, k = kn := ⟨k.toNat, by omega⟩
    refine (inOneS hy kn (by omega) n name kids body els (pre ++ xs) vs wr W.heap.size hv0 hc2 hB hb2 hB2 hJ2 hN2 hn (inExprsC hy kids hwk) ihe.1 ihe.2).mono ?_
    rintro e w' ⟨b, rfl, ht, hf⟩
    refine ⟨b, rfl, fun hb' => ?_, fun hb' => ?_⟩
    · obtain ⟨⟨ys, e1, e2⟩, hk⟩ := ht (by simpa using hb')
      exact ⟨⟨⟨xs ++ ys, by rw [List.map_append, hxs, e1, m1], by rw [← List.append_assoc]; exact e2⟩, Kc.below hb2 hk hy.h0 (fun k hx => (hy.hX k hx).1), hk.cell (hnx _ hB) hc2, Nat.le_trans hB2 hk.size⟩, hk⟩
    · obtain ⟨ys, e1, e2⟩ := hf (by simpa using hb')
      refine ⟨xs ++ ys, ?_, by rw [← List.append_assoc]; exact e2⟩
      rw [List.map_append, hxs, m2, List.append_assoc]
      exact (List.prefix_append_right_inj _).2 (e1.trans (List.prefix_append _ _))
  have e5 : (sts l).length = l.length := by rw [sts_map, List.length_map]
  have H1 := allEStmt 136 #[.pointer (some ⟨W.heap.size, 0, none⟩)] X n0 a l.length c (sts l) _ _ _ (A (W.alloc (.cells #[.func (.yield ly) #[] #[]] 146 (0, 0)))) e5 ⟨⟨[], by simp [menSs], by simpa using J1⟩, hb1, x0.cell (i := 0) rfl, Nat.le_trans hB y0.size⟩ (by
    rintro j w w' ⟨⟨xs, h1, h2⟩, h3, h4, h5⟩ hg
    exact ⟨⟨xs, h1, hy.hJ _ _ _ h2 hg⟩, h3.trans ((below_grown hg).mono h3.size), cell_on h4 (below_grown hg), Nat.le_trans h5 hg.size⟩) (hnx _ (Nat.le_trans hB y0.size))
  have Y0 : Hid (W.grownBy _ none) := y0
  clear A hb hJ J1 hb1 x0 y0 hL IH hwf hN e5 hnx hy
  go_enter Tryz.func112, Tryz.ntmps112
  go_upto_region 1 with fail
  generalize W.alloc (.cells #[.func (.yield ly) #[] #[]] 146 (0, 0)) = w1 at *
  go_wp2_with fail
  refine H1.mono ?_
  rintro e w2 ⟨r, rfl, ht, hf⟩
  have HT : Hid (Out n0 X J Jx pre (menSs l) W (.returned (.bool r)) w2) := by
    refine ⟨r, rfl, fun e => ?_, hf⟩
    obtain ⟨⟨⟨xs, h1, h2⟩, _⟩, hk⟩ := ht e
    rw [List.take_length] at h1
    exact ⟨⟨xs, h1, h2⟩, (Kc.grown Y0.out).trans hk⟩
  clear H1 ht hf
  go_wp2_with fail
  go_ret
  exact HT.out

mutual
theorem inBodies {w0 : World} {ly B n0 N : Nat} {X : Nat → Prop} {J Jx : List (MeR w0) → World → Prop} (hy : Yw w0 ly B n0 N X J Jx) : ∀ e : St, wfS e → InS w0 ly B n0 N X J Jx e.yb ∧ InS w0 ly B n0 N X J Jx e.ye
  | .mk k n name kids body els, h => ⟨inListS hy body (by unfold wfS at h; exact h.2.2.1) (inAllS hy body (by unfold wfS at h; exact h.2.2.1)), inListS hy els (by unfold wfS at h; exact h.2.2.2) (inAllS hy els (by unfold wfS at h; exact h.2.2.2))⟩
theorem inAllS {w0 : World} {ly B n0 N : Nat} {X : Nat → Prop} {J Jx : List (MeR w0) → World → Prop} (hy : Yw w0 ly B n0 N X J Jx) : ∀ l : List St, wfSs l → ∀ e ∈ l, InS w0 ly B n0 N X J Jx e.yb ∧ InS w0 ly B n0 N X J Jx e.ye
  | [], _, e, he => by simp at he
  | x :: l, h, e, he => by
    unfold wfSs at h
    have h1 := inBodies hy x h.1
    have h2 := inAllS hy l h.2
    rcases List.mem_cons.1 he with rfl | he
    · exact h1
    · exact h2 e he
end
theorem inStmtsC {w0 : World} {ly B n0 N : Nat} {X : Nat → Prop} {J Jx : List (MeR w0) → World → Prop} (hy : Yw w0 ly B n0 N X J Jx) (l : List St) (h : wfSs l) : InS w0 ly B n0 N X J Jx l := inListS hy l h (inAllS hy l h)

/-- The iterator's contract. -/
theorem mentionsSeq (w0 w : World) (m n0 B gB : Nat) (X : Nat → Prop) (body : List St) (a : Option Addr) (c : Nat) (hL : LRow w0 a c 6 (sts body)) (hwf : wfSs body) (hb : Below w0.heap.size w0 w) (hB : B ≤ w.heap.size) (hX : ∀ k, X k → w0.heap.size ≤ k ∧ k < B) (h0 : w0.heap.size ≤ n0)
    (hex : ∀ i, i < 8 → w0.cell? ⟨2, i, none⟩ = some (.int .i64 (exSo i))) (hst : ∀ i, i < 8 → w0.cell? ⟨1, i, none⟩ = some (.int .i64 (stSo i))) (hgB : w.cell? ⟨gB, 0, none⟩ = some (.slice a body.length c)) :
    SeqStopsK Fence.wide m Tryz.prog 111 #[.pointer (some ⟨gB, 0, none⟩)] (fun x : MeR w0 => #[x.enc]) (Kc X n0) (fun xs => xs.map MeR.me = menSs body) (fun xs => xs.map MeR.me <+: menSs body) (menSs body).length w := by
  intro l J Jx W hW hJ hJx hY hI
  have hyw : Yw w0 l B n0 (menSs body).length X J Jx := ⟨fun s A C h hg => hJ s A C none h hg (fun r e => by cases e), fun m' pre x W1 h1 h2 => by
      obtain ⟨fn, tmps, assign, bdy, hy, hR⟩ := hY pre x W1 h1 h2
      exact ⟨fn, tmps, assign, bdy, hy, hR.1, fun c cs _ => hR.2 c cs (room_wide _)⟩, hX, h0, hex, hst⟩
  have H := inStmtsC hyw body hwf [] W a c hL (hb.trans (hW.mono hb.size)) (Nat.le_trans hB hW.size) hI (by simp)
  have cB := cell_on hgB hW
  refine callsIn_wide.2 ?_
  clear hyw hY hI hJ hJx
  go_enter Tryz.func111, Tryz.ntmps111
  go_wp2_with fail
  refine H.mono ?_
  rintro e w2 ⟨b, rfl, ht, hf⟩
  have HT : Hid ((∃ xs : List (MeR w0), xs.map MeR.me = menSs body ∧ J xs w2) ∨ (∃ xs : List (MeR w0), xs.map MeR.me <+: menSs body ∧ Jx xs w2)) := by
    cases b
    · exact .inr (by simpa using hf rfl)
    · exact .inl (by simpa using (ht rfl).1)
  clear H ht hf
  go_wp2_with fail
  exact bodyPost_end (results_none rfl _ _ _) rfl ⟨⟨_, rfl⟩, HT.out⟩
end Go.Proofs.YtajnfknldofjlaaGreatDoor
namespace Go.Proofs.YtajnfknldofjlaaGreatDoor
open Go.RowKit

section
variable {P : Program} {ops : Array Oper} {Q : Exit → Act → World → Prop} {md : Region.Mode} {S : World → Prop} {l n : Nat}

theorem rowsIn_of {row : String} {args : Array Value} {w : World} {R : Value → World → Prop} (h : Rows P row args w R) : RowsIn (Fence.wide.inRound l) n P row args w R := by
  intro c cs _
  obtain ⟨v, w', hr, hs⟩ := h c cs
  exact ⟨v, w', hr, stepsIn_wide.2 hs⟩
theorem opIn_of {o : Oper} {a : Act} {w : World} {K : Act → World → Prop} (hnd : ∀ c, o.op ≠ .defer c) (h : o.wp P a w K Q) : o.wpIn (Fence.wide.inRound l) n P a w K Q := by
  refine ⟨fun _ _ => trivial, ?_⟩
  rw [Oper.semAt_eq _ _ _ hnd]
  unfold Oper.wp at h
  generalize (execOp a.eval o).run P w = r at h ⊢
  cases r with
  | ok x w' =>
    cases x with
    | enter f args => exact ⟨fun h0 => (by cases h0), (CallsIn.inRound l (callsIn_wide.2 h)).mono (fun e w'' he => by cases e <;> exact he)⟩
    | row r args => exact ⟨fun h0 => (by cases h0), rowsIn_of h⟩
    | round => exact h.elim
    | _ => exact h
  | halt x w' => cases x <;> first | exact h | exact h.elim
/-- No operation defers anything. -/
def noDefer (ops : Array Oper) : Bool := ops.all fun o => match o.op with
  | .defer _ => false
  | _ => true
theorem noDefer_at {i : Nat} {o : Oper} (h : noDefer ops = true) (ho : ops[i]? = some o) : ∀ c, o.op ≠ .defer c := by
  intro c hc
  obtain ⟨hi, rfl⟩ := Array.getElem?_eq_some_iff.1 ho
  have := Array.all_eq_true.1 h i hi
  rw [hc] at this
  cases this
theorem anyIn_of (hd : noDefer ops = true) (hQ : ¬ LetsOut Q) : ∀ (fuel : Nat) (listed : Array Bool) (a : Act) (w : World), wpAny P md ops Q fuel listed a w → wpAnyIn (Fence.wide.inRound l) n P md ops Q fuel listed a w
  | 0, _, _, _, h => h
  | fuel + 1, listed, a, w, h => by
    refine ⟨h.1, fun i hi => ?_⟩
    have h1 := h.2 i hi
    unfold wpOp at h1
    unfold wpOpIn
    cases ho : ops[i]? with
    | none => rw [ho] at h1; exact anyIn_of hd hQ fuel _ a w h1
    | some o =>
      rw [ho] at h1
      simp only at h1 ⊢
      split
      · rename_i hw
        rw [if_pos hw] at h1
        rcases h1 with h1 | ⟨_, h1⟩
        · exact Oper.wpIn_mono (fun a' w' h2 => anyIn_of hd hQ fuel _ a' w' h2) (opIn_of (noDefer_at hd ho) h1)
        · exact absurd h1 hQ
      · rename_i hw
        rw [if_neg hw] at h1
        exact ⟨fun _ _ => trivial, anyIn_of hd hQ fuel _ _ w h1⟩
theorem any_of_H : ∀ (fuel : Nat) (listed : Array Bool) (a : Act) (w : World), wpAnyH P md ops Q S fuel listed a w → wpAny P md ops Q fuel listed a w
  | 0, _, _, _, h => h
  | fuel + 1, _, _, _, h => ⟨h.1, fun i hi => wpOp_mono (fun a' w' h' => any_of_H fuel _ a' w' h'.2) (h.2 i hi)⟩
theorem ro {id : Nat} {a : Act} {w : World} (hm : P.follows .mixedOrders = true) (hd : noDefer ops = true) (hQ : ¬ LetsOut Q) (hS : S w.drew)
    (h : S w.drew → wpAnyH P .any ops Q S ops.size (Array.replicate ops.size false) a w.drew) : (Code.region id ops true).wpIn (Fence.wide.inRound l) n P Q a w :=
  wpIn_region_any hm (anyIn_of hd hQ _ _ _ _ (any_of_H _ _ _ _ (h hS)))
end
end Go.Proofs.YtajnfknldofjlaaGreatDoor
namespace Go.Proofs.YtajnfknldofjlaaGreatDoor
open Go.RowKit Go.Shelf
set_option linter.unusedVariables false
set_option linter.unusedSimpArgs false
set_option maxRecDepth 100000
attribute [local go_sem] Oper.semAt_some

theorem mentionsC (a : Option Addr) (n c : Nat) (w : World) :
    Calls Tryz.prog 76 #[.slice a n c] w fun e w' => e = .returned (.func (.func 111) #[] #[.pointer (some ⟨w.heap.size, 0, none⟩)]) ∧ w' = w.alloc (.cells #[.slice a n c] 62 (0, 0)) := by
  have hmf : ∀ (fn : Fn) (first cap : Array Value) (w : World), (Instr.makeFunc fn first cap).run Tryz.prog w = .ok (.func fn first cap) w := fun _ _ _ _ => rfl
  go_enter Tryz.func76, Tryz.ntmps76
  go_wp2_with fail
  go_ret
  exact ⟨rfl, rfl⟩

theorem kc_b {X : Nat → Prop} {n0 : Nat} {w : World} (hn : n0 ≤ w.heap.size) (W : World) (l : Nat) (o o' : Obj) (hl : w.heap.size ≤ l) (h : W.heap[l]? = some o) (hc : o.isCells = false) (_ : o.isWalk = false) : Kc X n0 W (W.putObj l o') := by
  have hg := grownBy_putObj' W l o'
  refine ⟨hg.os, hg.tape, hg.output, hg.size, fun k o2 hk _ hcl => ?_⟩
  by_cases e : k = l
  · subst e
    rw [h] at hk
    cases hk
    rcases hcl with hcl | hcl
    · rw [hc] at hcl; cases hcl
    · omega
  · exact (hg.block k (Array.getElem?_eq_some_iff.1 hk).1 (by simpa using e)).trans hk
theorem kc_set {X : Nat → Prop} {n0 : Nat} {W : World} {g : Nat} {v : Value} (hx : X g) : Kc X n0 W (W.setCell ⟨g, 0, none⟩ v) := by
  have hg := grownBy_setCell' W g v
  refine ⟨hg.os, hg.tape, hg.output, hg.size, fun k o hk hnx _ => ?_⟩
  exact (hg.block k (Array.getElem?_eq_some_iff.1 hk).1 (by simp; intro e; subst e; exact hnx hx)).trans hk
theorem blk_own {A C : World} {row : Option Nat} {g : Nat} {T : TypeId} {vs : List Value} (h : Blk A g T vs) (hg : A.grownBy C row) (hr : ∀ r, row = some r → ∃ o : Obj, A.heap[r]? = some o ∧ o.isCells = false) : Blk C g T vs :=
  h.below_row hg (fun e => by
    obtain ⟨o, ho, hc⟩ := hr g e
    have h' : A.heap[g]? = _ := h
    rw [h'] at ho
    cases ho
    cases hc)

def misM (g : List Int → Mn) (m : Me) : Bool := decide (m.kids.length ≠ (g m.name).2.length) || (List.range m.kids.length).any fun i => decide ((if (m.kids[i]?.map Ex.kind).getD 0 = 7 then (1 : Int) else 0) ≠ (g m.name).2[i]?.getD 0)
def toldM (g : List Int → Mn) (ms : List Me) : Int := if ms.any (misM g) then 4 else 0
def toldB (g : List Int → Mn) (ms : List Me) : Int := if ms.any (fun m => decide ((g m.name).1 ≠ m.sort)) then 2 else toldM g ms
theorem toldM_snoc (g : List Int → Mn) (ms : List Me) (m : Me) : toldM g (ms ++ [m]) = if misM g m then 4 else toldM g ms := by
  unfold toldM
  rw [List.any_append]
  cases ms.any (misM g) <;> cases h : misM g m <;> simp [h]

set_option maxHeartbeats 4000000 in
theorem toldOfBodyC (g : List Int → Mn) (body : List St) (a : Option Addr) (n c : Nat) (w0 w : World) (b k : Nat) (hL : LRow w0 a c 6 (sts body)) (hn : body.length = n) (hwf : wfSs body) (hb : Below w0.heap.size w0 w) (hN : NT w b k g)
    (hex : ∀ i, i < 8 → w0.cell? ⟨2, i, none⟩ = some (.int .i64 (exSo i))) (hst : ∀ i, i < 8 → w0.cell? ⟨1, i, none⟩ = some (.int .i64 (stSo i))) :
    Calls Tryz.prog 43 #[.map (some b), .slice a n c] w fun e w' => e = .returned (.int .i64 (toldB g (menSs body))) ∧ Below w.heap.size w w' := by
  subst hn
  refine callsIn_wide (n := 5) |>.1 ?_
  refine callsIn_of_wp_marks Tryz.func43 rfl trivial ?_ rfl
  simp only [Tryz.ntmps43, List.size_toArray, List.length_cons, List.length_nil, Nat.reduceAdd, Nat.reduceSub, Array.replicate_succ, Array.replicate_zero, List.push_toArray, List.append_toArray, List.nil_append, List.cons_append]
  gi_wp2_with fail
  refine wpIn_wide.2 (wp_scope_straight ((wpIn_wide (n := 5)).1 ?_))
  gi_wp2_with fail
  refine wpIn_label ?_
  gi_wp2_with (refine ⟨trivial, ?_⟩; gi_at_call 76; refine (callsIn_wide.2 (mentionsC _ _ _ _)).mono ?_; rintro e w' ⟨rfl, rfl⟩)
  have bN := (((Blk.new w 44 [.map (some b)]).old (o := .cells #[.int .i64 0] 3 (0, 0))).old (o := .cells #[.int .i64 0] 3 (0, 0))).old (o := .cells #[.slice a body.length c] 62 (0, 0))
  have bR := ((Blk.new (w.alloc (.cells #[.map (some b)] 44 (0, 0))) 3 [.int .i64 0]).old (o := .cells #[.int .i64 0] 3 (0, 0))).old (o := .cells #[.slice a body.length c] 62 (0, 0))
  have bT := (Blk.new ((w.alloc (.cells #[.map (some b)] 44 (0, 0))).alloc (.cells #[.int .i64 0] 3 (0, 0))) 3 [.int .i64 0]).old (o := .cells #[.slice a body.length c] 62 (0, 0))
  have bB := Blk.new (((w.alloc (.cells #[.map (some b)] 44 (0, 0))).alloc (.cells #[.int .i64 0] 3 (0, 0))).alloc (.cells #[.int .i64 0] 3 (0, 0))) 62 [.slice a body.length c]
  simp only [List.toArray, World.size_alloc] at bN bR bT bB
  have hB0 : Below w.heap.size w ((((w.alloc (.cells #[.map (some b)] 44 (0, 0))).alloc (.cells #[.int .i64 0] 3 (0, 0))).alloc (.cells #[.int .i64 0] 3 (0, 0))).alloc (.cells #[.slice a body.length c] 62 (0, 0))) := ((((Below.refl _ w).alloc (Nat.le_refl _) _).alloc (by simp) _).alloc (by simp; omega) _).alloc (by simp; omega) _
  have hsz : ((((w.alloc (.cells #[.map (some b)] 44 (0, 0))).alloc (.cells #[.int .i64 0] 3 (0, 0))).alloc (.cells #[.int .i64 0] 3 (0, 0))).alloc (.cells #[.slice a body.length c] 62 (0, 0))).heap.size = w.heap.size + 4 := by simp
  obtain ⟨W0, hW0⟩ : ∃ W0, (((w.alloc (.cells #[.map (some b)] 44 (0, 0))).alloc (.cells #[.int .i64 0] 3 (0, 0))).alloc (.cells #[.int .i64 0] 3 (0, 0))).alloc (.cells #[.slice a body.length c] 62 (0, 0)) = W0 := ⟨_, rfl⟩
  have hW0' : (((w.alloc (.cells { toList := [.map (some b)] } 44 (0, 0))).alloc (.cells #[.int .i64 0] 3 (0, 0))).alloc (.cells #[.int .i64 0] 3 (0, 0))).alloc (.cells #[.slice a body.length c] 62 (0, 0)) = W0 := hW0
  replace bN : Blk W0 w.heap.size 44 [.map (some b)] := by rw [← hW0]; exact bN
  replace bR : Blk W0 (w.heap.size + 1) 3 [.int .i64 0] := by rw [← hW0]; exact bR
  replace bT : Blk W0 (w.heap.size + 1 + 1) 3 [.int .i64 0] := by rw [← hW0]; exact bT
  replace bB : Blk W0 (w.heap.size + 1 + 1 + 1) 62 [.slice a body.length c] := by rw [← hW0]; exact bB
  rw [hW0] at hB0 hsz ⊢
  clear hW0 hW0'
  have hs0 := hb.size
  refine wpIn_rangeFunc_ownH rfl (by omega) (gf := 111) (lb := #[.pointer (some ⟨w.heap.size + 1 + 1 + 1, 0, none⟩)]) rfl trivial (enters_of Tryz.func111 (by kernel_rfl) rfl)
    (mentionsSeq w0 W0 4 w0.heap.size (w.heap.size + 4) (w.heap.size + 1 + 1 + 1) (fun k => k = w.heap.size + 1 ∨ k = w.heap.size + 1 + 1) body a c hL hwf (hb.trans (hB0.mono hs0)) (by omega) (by rintro k (rfl | rfl) <;> constructor <;> omega) (Nat.le_refl _) hex hst (bB.cell (i := 0) rfl)) Kc.trans (kc_b (by omega)) (Below.refl _ _) (fun _ => rfl)
    (fun pre W => (Blk W w.heap.size 44 [.map (some b)] ∧ Blk W (w.heap.size + 1) 3 [.int .i64 0] ∧ Blk W (w.heap.size + 1 + 1) 3 [.int .i64 (toldM g (pre.map MeR.me))] ∧ ∀ x ∈ pre, (g x.me.name).1 = x.me.sort) ∧ Below w.heap.size w W)
    (fun cd pre W => (cd = .ret ∧ (∃ x ∈ pre, (g x.me.name).1 ≠ x.me.sort) ∧ Blk W (w.heap.size + 1) 3 [.int .i64 2]) ∧ Below w.heap.size w W)
    (OwnFrom.and (Own.from (fun s A C row hs hg hr => ⟨blk_own hs.1 hg hr, blk_own hs.2.1 hg hr, blk_own hs.2.2.1 hg hr, hs.2.2.2⟩) _) (ownFrom_below (Nat.le_refl _) (by omega)))
    (fun cd => OwnFrom.and (Own.from (fun s A C row hs hg hr => ⟨hs.1, hs.2.1, blk_own hs.2.2 hg hr⟩) _) (ownFrom_below (Nat.le_refl _) (by omega)))
    ⟨⟨bN, bR, bT, by simp⟩, hB0⟩
    (fun x a' W => ∃ Bx, w.heap.size + 1 + 1 < Bx ∧ Blk W Bx 120 [.string (strOfNums x.me.name), .int .i64 x.me.sort, .slice x.a x.me.kids.length x.c] ∧ a' = { tmps := #[.map (some b), .slice a body.length c, .pointer (some ⟨w.heap.size, 0, none⟩), undef, .pointer (some ⟨w.heap.size + 1, 0, none⟩), .pointer (some ⟨w.heap.size + 1 + 1, 0, none⟩), .pointer (some ⟨Bx, 0, none⟩), undef, undef, undef, .slice a body.length c, .func (.func 111) #[] #[.pointer (some ⟨w.heap.size + 1 + 1 + 1, 0, none⟩)], x.enc, undef, undef, undef, undef, undef, undef, undef, undef, undef, undef, undef, undef, undef, undef, undef, undef, undef, undef, undef, undef, undef, undef, undef, undef, undef, undef, undef, undef, undef, undef, undef, undef, undef, undef, undef, undef], defers := [] })
    (fun x a' _ A C row hs hg hr => by obtain ⟨Bx, h1, h2, h3⟩ := hs; exact ⟨Bx, h1, blk_own h2 hg (fun r e => (hr r e).2), h3⟩)
    ?assign ?body ?done ?stop
  case assign =>
    rintro l pre x W K ⟨⟨b1, b2, b3, hall⟩, hB1⟩ hK
    have HK : Hid (∀ a' W', KeepsFrom W0.heap.size W W' → Kc (fun k => k = w.heap.size + 1 ∨ k = w.heap.size + 1 + 1) w0.heap.size W W' → ((Blk W' w.heap.size 44 [.map (some b)] ∧ Blk W' (w.heap.size + 1) 3 [.int .i64 0] ∧ Blk W' (w.heap.size + 1 + 1) 3 [.int .i64 (toldM g (pre.map MeR.me))] ∧ ∀ x ∈ pre, (g x.me.name).1 = x.me.sort) ∧ Below w.heap.size w W') → (∃ Bx, w.heap.size + 1 + 1 < Bx ∧ Blk W' Bx 120 [.string (strOfNums x.me.name), .int .i64 x.me.sort, .slice x.a x.me.kids.length x.c] ∧ a' = { tmps := #[.map (some b), .slice a body.length c, .pointer (some ⟨w.heap.size, 0, none⟩), undef, .pointer (some ⟨w.heap.size + 1, 0, none⟩), .pointer (some ⟨w.heap.size + 1 + 1, 0, none⟩), .pointer (some ⟨Bx, 0, none⟩), undef, undef, undef, .slice a body.length c, .func (.func 111) #[] #[.pointer (some ⟨w.heap.size + 1 + 1 + 1, 0, none⟩)], x.enc, undef, undef, undef, undef, undef, undef, undef, undef, undef, undef, undef, undef, undef, undef, undef, undef, undef, undef, undef, undef, undef, undef, undef, undef, undef, undef, undef, undef, undef, undef, undef, undef, undef, undef, undef, undef], defers := [] }) → K a' W') := hK
    clear hK
    simp only [MeR.enc]
    gi_wp2_with fail
    exact HK.out _ _ ((KeepsOthers.alloc _ _).from _) (Kc.grown (grown_alloc W _ none)) ⟨⟨b1.old, b2.old, b3.old, hall⟩, hB1.alloc hB1.size _⟩ ⟨W.heap.size, b3.lt, Blk.new W 120 [.string (strOfNums x.me.name), .int .i64 x.me.sort, .slice x.a x.me.kids.length x.c], rfl⟩
  case body =>
    rintro l pre x a' W hl ⟨r, hr⟩ ⟨⟨b1, b2, b3, hall⟩, hB1⟩ ⟨Bx, hBx, bX, rfl⟩ hlt
    have HSZ : Hid (W0.heap.size = w.heap.size + 4) := hsz
    clear hsz hl hr hlt bN bR bT bB hB0 hex hst
    have hbW := hb.trans (hB1.mono hs0)
    have NW := hN.below hB1
    obtain ⟨f, hf1, hf2⟩ := NW.ex
    have hlk := hf1.lookup x.bt (Nat.le_trans x.nl (by unfold maxLen; omega))
    obtain ⟨_, ef, ak, ck, rfl, hkr, hkc, hkm, hkz⟩ := hf2 x.me.name x.bt
    rw [ef] at hlk
    have HL : Hid (LRow w0 x.a x.c 5 (exs x.me.kids)) := x.row
    have HM : Hid (misM g x.me = (decide (x.me.kids.length ≠ (g x.me.name).2.length) || (List.range x.me.kids.length).any fun i => decide ((if (x.me.kids[i]?.map Ex.kind).getD 0 = 7 then (1 : Int) else 0) ≠ (g x.me.name).2[i]?.getD 0))) := rfl
    obtain ⟨s, hs⟩ : ∃ s, s = (g x.me.name).1 := ⟨_, rfl⟩
    obtain ⟨ks, hks⟩ : ∃ ks, ks = (g x.me.name).2 := ⟨_, rfl⟩
    have HSE : Hid ((g x.me.name).1 = s) := hs.symm
    rw [← hs, ← hks] at hlk
    rw [← hks] at HM hkr hkc
    have cN := b1.cell (i := 0) rfl
    have x0 := bX.cell (i := 0) rfl
    have mB := Blk.new W 80 [.int .i64 s, .slice ak ks.length ck]
    have y1 := grown_alloc W (.cells #[.int .i64 s, .slice ak ks.length ck] 80 (0, 0)) none
    have XX := bX.old (o := .cells #[.int .i64 s, .slice ak ks.length ck] 80 (0, 0))
    have RR := b2.old (o := .cells #[.int .i64 s, .slice ak ks.length ck] 80 (0, 0))
    have TT := b3.old (o := .cells #[.int .i64 s, .slice ak ks.length ck] 80 (0, 0))
    have NN := b1.old (o := .cells #[.int .i64 s, .slice ak ks.length ck] 80 (0, 0))
    simp only [List.toArray] at mB
    have HKR : Hid (NRow W ak ks.length ks) := hkr
    have hk9 : ks.length ≤ 9223372036854775807 := by unfold maxLen at hkm; omega
    clear hs hks ef hf1 hf2 hN hkr hkc hkm hkz NW
    gi_upto_region 5 with fail
    have HBW : Hid (Below w.heap.size w (W.alloc (.cells #[.int .i64 s, .slice ak ks.length ck] 80 (0, 0)))) := hB1.alloc hB1.size _
    have HBW0 : Hid (Below w0.heap.size w0 (W.alloc (.cells #[.int .i64 s, .slice ak ks.length ck] 80 (0, 0)))) := hbW.alloc hbW.size _
    have HKO : Hid (KeepsOthers W (W.alloc (.cells #[.int .i64 s, .slice ak ks.length ck] 80 (0, 0)))) := KeepsOthers.alloc _ _
    have HY1 : Hid (W.grownBy (W.alloc (.cells #[.int .i64 s, .slice ak ks.length ck] 80 (0, 0))) none) := y1
    have HSW : Hid (w.heap.size ≤ W.heap.size) := hB1.size
    generalize W.alloc (.cells #[.int .i64 s, .slice ak ks.length ck] 80 (0, 0)) = w1 at *
    generalize hgM : W.heap.size = gM at *
    clear hlk cN x0 hbW y1 b1 b2 b3 bX
    have x1 := XX.cell (i := 1) rfl
    have x2 := XX.cell (i := 2) rfl
    have m0 := mB.cell (i := 0) rfl
    have m1 := mB.cell (i := 1) rfl
    have r1 := RR.cell (i := 0) rfl
    have fr1 := RR.free 0
    have t1 := TT.cell (i := 0) rfl
    have ft1 := TT.free 0
    by_cases hne : s = x.me.sort
    · have hneb : (s != x.me.sort) = false := by simpa using hne
      have HALL : Hid (∀ y ∈ pre ++ [x], (g y.me.name).1 = y.me.sort) := by
        intro y hy
        rcases List.mem_append.1 hy with hy | hy
        · exact hall y hy
        · rw [List.mem_singleton.1 hy, HSE.out]; exact hne
      have FIN4 : Hid (misM g x.me = true → ∀ wr, w1.grownBy wr none → KeepsFrom W0.heap.size W (wr.setCell ⟨w.heap.size + 1 + 1, 0, none⟩ (.int .i64 4)) ∧ Kc (fun k => k = w.heap.size + 1 ∨ k = w.heap.size + 1 + 1) w0.heap.size W (wr.setCell ⟨w.heap.size + 1 + 1, 0, none⟩ (.int .i64 4)) ∧ ((Blk (wr.setCell ⟨w.heap.size + 1 + 1, 0, none⟩ (.int .i64 4)) w.heap.size 44 [.map (some b)] ∧ Blk (wr.setCell ⟨w.heap.size + 1 + 1, 0, none⟩ (.int .i64 4)) (w.heap.size + 1) 3 [.int .i64 0] ∧ Blk (wr.setCell ⟨w.heap.size + 1 + 1, 0, none⟩ (.int .i64 4)) (w.heap.size + 1 + 1) 3 [.int .i64 (toldM g ((pre ++ [x]).map MeR.me))] ∧ ∀ y ∈ pre ++ [x], (g y.me.name).1 = y.me.sort) ∧ Below w.heap.size w (wr.setCell ⟨w.heap.size + 1 + 1, 0, none⟩ (.int .i64 4)))) := by
        intro hm wr hg
        have hbr := below_grown hg
        have n2 : w.heap.size ≠ w.heap.size + 1 + 1 := by omega
        have n3 : w.heap.size + 1 ≠ w.heap.size + 1 + 1 := by omega
        refine ⟨(KeepsFrom.of_grownBy (grown_trans HY1.out hg) (fun j e => by cases e)).trans ((KeepsOthers.setCell _ _ _).from _), (Kc.grown (grown_trans HY1.out hg)).trans (kc_set (.inr rfl)), ⟨(NN.below hbr NN.lt).other n2, (RR.below hbr RR.lt).other n3, ?_, HALL.out⟩, (HBW.out.trans (hbr.mono HBW.out.size)).setCell (p := ⟨w.heap.size + 1 + 1, 0, none⟩) (by show _ ≤ w.heap.size + 1 + 1; omega) _⟩
        rw [List.map_append, List.map_singleton, toldM_snoc, if_pos hm]
        exact (TT.below hbr TT.lt).set (i := 0) _
      have FIN0 : Hid (misM g x.me = false → ∀ wr, w1.grownBy wr none → KeepsFrom W0.heap.size W wr ∧ Kc (fun k => k = w.heap.size + 1 ∨ k = w.heap.size + 1 + 1) w0.heap.size W wr ∧ ((Blk (wr) w.heap.size 44 [.map (some b)] ∧ Blk (wr) (w.heap.size + 1) 3 [.int .i64 0] ∧ Blk (wr) (w.heap.size + 1 + 1) 3 [.int .i64 (toldM g ((pre ++ [x]).map MeR.me))] ∧ ∀ y ∈ pre ++ [x], (g y.me.name).1 = y.me.sort) ∧ Below w.heap.size w (wr))) := by
        intro hm wr hg
        have hbr := below_grown hg
        refine ⟨KeepsFrom.of_grownBy (grown_trans HY1.out hg) (fun j e => by cases e), Kc.grown (grown_trans HY1.out hg), ⟨NN.below hbr NN.lt, RR.below hbr RR.lt, ?_, HALL.out⟩, HBW.out.trans (hbr.mono HBW.out.size)⟩
        rw [List.map_append, List.map_singleton, toldM_snoc, if_neg (by rw [hm]; simp)]
        exact TT.below hbr TT.lt
      have hx9 := HL.out.len9
      rw [show (exs x.me.kids).length = x.me.kids.length by simp [exs_map]] at hx9
      obtain ⟨nk, hnk⟩ : ∃ z, z = x.me.kids.length := ⟨_, rfl⟩
      obtain ⟨ns, hns⟩ : ∃ z, z = ks.length := ⟨_, rfl⟩
      have HNK : Hid (x.me.kids.length = nk) := hnk.symm
      have HNS : Hid (ks.length = ns) := hns.symm
      rw [← hnk] at hx9 x2
      rw [← hns] at hk9 m1
      clear hne hall hnk hns mB XX
      by_cases hle : nk = ns
      · have hleb : ((nk : Int) != (ns : Int)) = false := by simp [hle]
        subst hle
        have HS1 : Hid (w1.grownBy w1 none) := grown_refl _ _
        have HKC : ∀ j, j < nk → ∃ bs ofs, ak = some ⟨bs, ofs, none⟩ ∧ W.cell? ⟨bs, ofs + j, none⟩ = some (.int .i64 (ks[j]?.getD 0)) := by
          intro j hj
          obtain ⟨bs, ofs, h1, h2⟩ := HKR.out.2.2 (by rw [HNS.out]; omega)
          exact ⟨bs, ofs, h1, h2 j (by rw [HNS.out]; exact hj)⟩
        have HKCD : Hid (∀ j, j < nk → ∃ bs ofs, ak = some ⟨bs, ofs, none⟩ ∧ W.cell? ⟨bs, ofs + j, none⟩ = some (.int .i64 (ks[j]?.getD 0))) := HKC
        have HMB : Hid (misM g x.me = (List.range nk).any fun i => decide ((if (x.me.kids[i]?.map Ex.kind).getD 0 = 7 then (1 : Int) else 0) ≠ ks[i]?.getD 0)) := by show _ = _; rw [HM.out, HNK.out, HNS.out]; simp
        have m1' := m1
        have FRT : Hid (∀ wl, w1.grownBy wl none → wl.drew.frozen? ⟨w.heap.size + 1 + 1, 0, none⟩ = false) := fun wl hg => (TT.below (below_grown hg) TT.lt).free 0
        clear HKC HALL RR TT NN HM
        gi_wp2_with fail
        gi_loopw [32] (fun i wr => ∃ j : Nat, j ≤ nk ∧ i = .int .i64 j ∧ Hid (∀ i, i < j → (if (x.me.kids[i]?.map Ex.kind).getD 0 = 7 then (1 : Int) else 0) = ks[i]?.getD 0) ∧ Hid (w1.grownBy wr none)) (fun i _ => nk - (intOf i).toNat)
        case atStart => exact ⟨0, Nat.zero_le _, rfl, by show ∀ _, _; omega, HS1⟩
        case round =>
          obtain ⟨j, hj, rfl, hno, hgr⟩ := hrel
          clear HS1
          by_cases hlj : j < nk
          · obtain ⟨e, he⟩ : ∃ e, x.me.kids[j]? = some e := ⟨_, List.getElem?_eq_getElem (by rw [HNK.out]; exact hlj)⟩
            obtain ⟨bk, off, es, hxa, hes, hcl⟩ := LRow.cellsAt HL.out (show (exs x.me.kids)[j]? = some e.fl by rw [exs_map, List.getElem?_map, he]; rfl)
            obtain ⟨kd, en, a2, n2, c2, a3, n3, c3, a4, n4, c4, hkd, rfl⟩ : ∃ kd en a2 n2 c2 a3 n3 c3 a4 n4 c4, kd = e.kind ∧ es = [.int .i64 kd, .int .i64 en, .slice a2 n2 c2, .slice a3 n3 c3, .slice a4 n4 c4] := by
              obtain ⟨k', n', mo', na', ki'⟩ := e
              obtain ⟨v0, _, rfl, rfl, v1, _, rfl, rfl, v2, _, rfl, ⟨a2, c2, rfl, _⟩, v3, _, rfl, ⟨a3, c3, rfl, _⟩, v4, _, rfl, ⟨a4, c4, rfl, _⟩, rfl⟩ := hes
              exact ⟨k', n', a2, _, c2, a3, _, c3, a4, _, c4, rfl, rfl⟩
            obtain ⟨bs, ofs, hak, hsc⟩ := HKCD.out j hlj
            have HEL : Hid ((if (x.me.kids[j]?.map Ex.kind).getD 0 = 7 then (1 : Int) else 0) = tI (kd == 7)) := by
              show _ = _
              rw [he, hkd]
              unfold tI
              simp
            have hbr0 := HBW0.out.trans ((below_grown hgr.out).mono HBW0.out.size)
            have q0 := cell_on (hcl 0 _ rfl) hbr0
            have q1 := cell_on (hcl 1 _ rfl) hbr0
            have q2 := cell_on (hcl 2 _ rfl) hbr0
            have q3 := cell_on (hcl 3 _ rfl) hbr0
            have q4 := cell_on (hcl 4 _ rfl) hbr0
            rw [Nat.add_zero] at q0
            obtain ⟨xa, hxa'⟩ : ∃ xa, xa = x.a := ⟨_, rfl⟩
            rw [← hxa'] at hxa ⊢
            subst hxa
            clear hxa'
            subst hak
            have y5 := grown_trans hgr.out (grown_alloc wr (.cells #[.int .i64 kd, .int .i64 en, .slice a2 n2 c2, .slice a3 n3 c3, .slice a4 n4 c4] 122 (0, 0)) none)
            have z5 := Blk.new wr 122 [.int .i64 kd, .int .i64 en, .slice a2 n2 c2, .slice a3 n3 c3, .slice a4 n4 c4]
            simp only [List.toArray] at z5
            have d1 : (wr.alloc (.cells #[.int .i64 kd, .int .i64 en, .slice a2 n2 c2, .slice a3 n3 c3, .slice a4 n4 c4] 122 (0, 0))).drew.cell? ⟨gM, 1, none⟩ = some (.slice (some ⟨bs, ofs, none⟩) nk ck) := cell_on m1' (below_grown y5).drew
            have d2 : (wr.alloc (.cells #[.int .i64 kd, .int .i64 en, .slice a2 n2 c2, .slice a3 n3 c3, .slice a4 n4 c4] 122 (0, 0))).drew.cell? ⟨bs, ofs + j, none⟩ = some (.int .i64 (ks[j]?.getD 0)) := cell_on (cell_on hsc (below_grown HY1.out)) (below_grown y5).drew
            have d3 : (wr.alloc (.cells #[.int .i64 kd, .int .i64 en, .slice a2 n2 c2, .slice a3 n3 c3, .slice a4 n4 c4] 122 (0, 0))).drew.cell? ⟨wr.heap.size, 0, none⟩ = some (.int .i64 kd) := z5.cell (i := 0) rfl
            have dt : (wr.alloc (.cells #[.int .i64 kd, .int .i64 en, .slice a2 n2 c2, .slice a3 n3 c3, .slice a4 n4 c4] 122 (0, 0))).drew.cell? ⟨w.heap.size + 1 + 1, 0, none⟩ = some (.int .i64 (toldM g (pre.map MeR.me))) := cell_on t1 (below_grown y5).drew
            have df : (wr.alloc (.cells #[.int .i64 kd, .int .i64 en, .slice a2 n2 c2, .slice a3 n3 c3, .slice a4 n4 c4] 122 (0, 0))).drew.frozen? ⟨w.heap.size + 1 + 1, 0, none⟩ = false := FRT.out _ y5
            have Y5 : Hid (w1.grownBy (wr.alloc (.cells #[.int .i64 kd, .int .i64 en, .slice a2 n2 c2, .slice a3 n3 c3, .slice a4 n4 c4] 122 (0, 0))).drew none) := grown_trans y5 (grown_below (Below.refl _ _).drew none)
            clear hcl hes he hsc hbr0 hkd y5 z5
            gi_upto_region 12 with fail
            generalize (wr.alloc (.cells #[.int .i64 kd, .int .i64 en, .slice a2 n2 c2, .slice a3 n3 c3, .slice a4 n4 c4] 122 (0, 0))) = w5 at *
            generalize wr.heap.size = gK at *
            clear q0 q1 q2 q3 q4
            have hmo : Tryz.prog.follows .mixedOrders = true := by kernel_rfl
            obtain ⟨kj, hkj⟩ : ∃ z, z = ks[j]?.getD 0 := ⟨_, rfl⟩
            have HKJ : Hid (kj = ks[j]?.getD 0) := hkj
            rw [← hkj] at d2
            have HLJ : Hid (j < nk) := hlj
            have z0 : (0 : Int) ≤ (j : Int) := by omega
            clear hkj x1 x2 m0 m1 m1' r1 fr1 t1 ft1 hneb hleb hB1 hL hwf hs0
            have HTR := truthC (kd == 7) w5.drew
            have HS0 : w5.drew.cell? ⟨gK, 0, none⟩ = some (.int .i64 kd) ∧ w5.drew.cell? ⟨gM, 1, none⟩ = some (.slice (some ⟨bs, ofs, none⟩) nk ck) ∧ w5.drew.cell? ⟨bs, ofs + j, none⟩ = some (.int .i64 kj) := ⟨d3, d1, d2⟩
            clear d1 d2 d3
            by_cases hm : tI (kd == 7) = kj
            · have hmb : (tI (kd == 7) != kj) = false := by simpa using hm
              have HNX : Hid (∀ i, i < j + 1 → (if (x.me.kids[i]?.map Ex.kind).getD 0 = 7 then (1 : Int) else 0) = ks[i]?.getD 0) := by
                intro i hi
                by_cases e : i = j
                · subst e; rw [HEL.out, hm, HKJ.out]
                · exact hno.out i (by omega)
              clear hm FIN4 FIN0 HMB HKCD HEL hno df dt FRT
              refine ro (S := fun wl => wl.cell? ⟨gK, 0, none⟩ = some (.int .i64 kd) ∧ wl.cell? ⟨gM, 1, none⟩ = some (.slice (some ⟨bs, ofs, none⟩) nk ck) ∧ wl.cell? ⟨bs, ofs + j, none⟩ = some (.int .i64 kj)) hmo (by kernel_rfl) (by rintro ⟨_, _, h⟩; exact h) HS0 (fun hHeld => ?_)
              refine tk (i := 0) (v := ?v501) rfl (by kernel_rfl) (.inl ⟨by rfl, ?y501⟩) hHeld (fun _ _ _ h => h) ?_
              case y501 => intro w hSw; (try dsimp only at hSw); go_simp; first | done | rfl
              refine tk (i := 1) (v := ?v502) rfl (by kernel_rfl) (.inl ⟨by rfl, ?y502⟩) hHeld (fun _ _ _ h => h) ?_
              case y502 => intro w hSw; (try dsimp only at hSw); go_simp; first | done | rfl
              refine tk (i := 2) (v := ?v503) rfl (by kernel_rfl) (.inl ⟨by rfl, ?y503⟩) hHeld (fun _ _ _ h => h) ?_
              case y503 => intro w hSw; (try dsimp only at hSw); go_simp; first | done | rfl
              try simp only [nrm]
              refine tk (i := 4) (v := ?v504) rfl (by kernel_rfl) (.inl ⟨by rfl, ?y504⟩) hHeld (fun _ _ _ h => h) ?_
              case y504 => intro w hSw; (try dsimp only at hSw); go_simp; first | done | rfl
              refine tk (i := 5) (v := ?v505) rfl (by kernel_rfl) (.inl ⟨by rfl, ?y505⟩) hHeld (fun _ _ _ h => h) ?_
              case y505 => intro w hSw; (try dsimp only at hSw); go_simp; first | done | rfl
              refine tk (i := 6) (v := ?v506) rfl (by kernel_rfl) (.inl ⟨by rfl, ?y506⟩) hHeld (fun _ _ _ h => h) ?_
              case y506 => intro w hSw; (try dsimp only at hSw); go_simp; first | done | rfl
              try simp only [nrm]
              refine tk (i := 7) (v := ?v507) rfl (by kernel_rfl) (.inl ⟨by rfl, ?y507⟩) hHeld (fun _ _ _ h => h) ?_
              case y507 => intro w hSw; (try dsimp only at hSw); go_simp; first | done | rfl
              refine tk (i := 8) (v := ?v508) rfl (by kernel_rfl) (.inl ⟨by rfl, ?y508⟩) hHeld (fun _ _ _ h => h) ?_
              case y508 => intro w hSw; (try dsimp only at hSw); go_simp; first | done | rfl
              try simp only [nrm]
              refine wpAnyH_ready (rs := [3]) (by kernel_rfl) (by simp) ?_
              refine AllReadyH.cons (i := 3) (o := ?o509) ?i509 (fun K hK => ?_) AllReadyH.nil
              case i509 => exact rfl
              go_simp
              (with_reducible refine HTR.mono ?_)
              rintro e wa ⟨rfl, rfl⟩
              go_wp2_with fail
              refine hK.out _ _ (HS0) (fun hHeld => ?_)
              clear hK K
              try simp only [nrm]
              refine tk (i := 9) (v := ?v510) rfl (by kernel_rfl) (.inl ⟨by rfl, ?y510⟩) hHeld (fun _ _ _ h => h) ?_
              case y510 => intro w hSw; (try dsimp only at hSw); go_simp; first | done | rfl
              try simp only [nrm]
              refine wpAnyH_done (by kernel_rfl) ?_ _
              clear hHeld HS0 HTR
              gi_wp2_with fail
              go_roundw
              case rel => exact ⟨j + 1, by omega, by go_num, HNX, Y5⟩
              case measure => simp [intOf]; omega
            · have hmb : (tI (kd == 7) != kj) = true := by simpa using hm
              have HMT : Hid (misM g x.me = true) := by
                show _ = _
                rw [HMB.out, List.any_eq_true]
                exact ⟨j, by simpa using HLJ.out, by rw [HEL.out, ← HKJ.out]; simpa using hm⟩
              have HF := FIN4.out HMT.out w5.drew Y5.out
              replace HF : Hid _ := HF
              clear hm FIN4 FIN0 HMB HKCD HEL hno FRT HMT
              refine ro (S := fun wl => wl.cell? ⟨gK, 0, none⟩ = some (.int .i64 kd) ∧ wl.cell? ⟨gM, 1, none⟩ = some (.slice (some ⟨bs, ofs, none⟩) nk ck) ∧ wl.cell? ⟨bs, ofs + j, none⟩ = some (.int .i64 kj)) hmo (by kernel_rfl) (by rintro ⟨_, _, h⟩; exact h) HS0 (fun hHeld => ?_)
              refine tk (i := 0) (v := ?v511) rfl (by kernel_rfl) (.inl ⟨by rfl, ?y511⟩) hHeld (fun _ _ _ h => h) ?_
              case y511 => intro w hSw; (try dsimp only at hSw); go_simp; first | done | rfl
              refine tk (i := 1) (v := ?v512) rfl (by kernel_rfl) (.inl ⟨by rfl, ?y512⟩) hHeld (fun _ _ _ h => h) ?_
              case y512 => intro w hSw; (try dsimp only at hSw); go_simp; first | done | rfl
              refine tk (i := 2) (v := ?v513) rfl (by kernel_rfl) (.inl ⟨by rfl, ?y513⟩) hHeld (fun _ _ _ h => h) ?_
              case y513 => intro w hSw; (try dsimp only at hSw); go_simp; first | done | rfl
              try simp only [nrm]
              refine tk (i := 4) (v := ?v514) rfl (by kernel_rfl) (.inl ⟨by rfl, ?y514⟩) hHeld (fun _ _ _ h => h) ?_
              case y514 => intro w hSw; (try dsimp only at hSw); go_simp; first | done | rfl
              refine tk (i := 5) (v := ?v515) rfl (by kernel_rfl) (.inl ⟨by rfl, ?y515⟩) hHeld (fun _ _ _ h => h) ?_
              case y515 => intro w hSw; (try dsimp only at hSw); go_simp; first | done | rfl
              refine tk (i := 6) (v := ?v516) rfl (by kernel_rfl) (.inl ⟨by rfl, ?y516⟩) hHeld (fun _ _ _ h => h) ?_
              case y516 => intro w hSw; (try dsimp only at hSw); go_simp; first | done | rfl
              try simp only [nrm]
              refine tk (i := 7) (v := ?v517) rfl (by kernel_rfl) (.inl ⟨by rfl, ?y517⟩) hHeld (fun _ _ _ h => h) ?_
              case y517 => intro w hSw; (try dsimp only at hSw); go_simp; first | done | rfl
              refine tk (i := 8) (v := ?v518) rfl (by kernel_rfl) (.inl ⟨by rfl, ?y518⟩) hHeld (fun _ _ _ h => h) ?_
              case y518 => intro w hSw; (try dsimp only at hSw); go_simp; first | done | rfl
              try simp only [nrm]
              refine wpAnyH_ready (rs := [3]) (by kernel_rfl) (by simp) ?_
              refine AllReadyH.cons (i := 3) (o := ?o519) ?i519 (fun K hK => ?_) AllReadyH.nil
              case i519 => exact rfl
              go_simp
              (with_reducible refine HTR.mono ?_)
              rintro e wa ⟨rfl, rfl⟩
              go_wp2_with fail
              refine hK.out _ _ (HS0) (fun hHeld => ?_)
              clear hK K
              try simp only [nrm]
              refine tk (i := 9) (v := ?v520) rfl (by kernel_rfl) (.inl ⟨by rfl, ?y520⟩) hHeld (fun _ _ _ h => h) ?_
              case y520 => intro w hSw; (try dsimp only at hSw); go_simp; first | done | rfl
              try simp only [nrm]
              refine wpAnyH_done (by kernel_rfl) ?_ _
              clear hHeld HS0 HTR
              gi_wp2_with fail
              exact HF.out
          · have : nk = j := by omega
            subst this
            have HMF : Hid (misM g x.me = false) := by
              show _ = _
              rw [HMB.out, List.any_eq_false]
              intro i hi
              simpa using hno.out i (by simpa using hi)
            have HF := FIN0.out HMF.out wr hgr.out
            replace HF : Hid _ := HF
            clear FIN4 FIN0 HMB HKCD
            gi_wp2_with fail
            exact HF.out
      · have hleb : ((nk : Int) != (ns : Int)) = true := by simp; omega
        have HMT : Hid (misM g x.me = true) := by show _ = _; rw [HM.out, HNK.out, HNS.out]; simp [hle]
        have HF := FIN4.out HMT.out w1 (grown_refl _ _)
        replace HF : Hid _ := HF
        clear FIN4 FIN0 HALL RR TT NN
        gi_wp2_with fail
        exact HF.out
    · have hneb : (s != x.me.sort) = true := by simpa using hne
      have HF : Hid (KeepsFrom W0.heap.size W (w1.setCell ⟨w.heap.size + 1, 0, none⟩ (.int .i64 2)) ∧ (((∃ y ∈ pre ++ [x], (g y.me.name).1 ≠ y.me.sort) ∧ Blk (w1.setCell ⟨w.heap.size + 1, 0, none⟩ (.int .i64 2)) (w.heap.size + 1) 3 [.int .i64 2]) ∧ Below w.heap.size w (w1.setCell ⟨w.heap.size + 1, 0, none⟩ (.int .i64 2)))) :=
        ⟨(HKO.out.trans (KeepsOthers.setCell _ _ _)).from _, ⟨⟨x, by simp, by rw [HSE.out]; exact hne⟩, RR.set (i := 0) _⟩, HBW.out.setCell (p := ⟨w.heap.size + 1, 0, none⟩) (by show _ ≤ w.heap.size + 1; omega) _⟩
      clear hne
      gi_wp2_with fail
      exact ⟨HF.out.1, ⟨rfl, HF.out.2.1.1, HF.out.2.1.2⟩, HF.out.2.2⟩
  case done =>
    rintro D zs W hD hS ⟨⟨b1, b2, b3, hall⟩, hB1⟩ hK
    have HT : Hid (toldB g (menSs body) = toldM g (zs.map MeR.me)) := by
      show _ = _
      unfold toldB
      rw [← hS, if_neg]
      rw [Bool.not_eq_true, List.any_eq_false]
      intro m hm
      obtain ⟨x, hx, rfl⟩ := List.mem_map.1 hm
      simp [hall x hx]
    have cT := b3.cell (i := 0) rfl
    have cR := b2.cell (i := 0) rfl
    have fR := b2.free 0
    generalize toldM g (zs.map MeR.me) = tv at *
    gi_wp2_with fail
    have hK' := (KeepsOthers.setCell W ⟨w.heap.size + 1, 0, none⟩ (.int .i64 tv)).same D _ hK rfl
    refine ⟨by simp, .inl ⟨_, _, rfl, run_takeDeferred hK', ?_⟩⟩
    have b9 : Blk (W.setCell ⟨w.heap.size + 1, 0, none⟩ (.int .i64 tv)) (w.heap.size + 1) 3 [.int .i64 tv] := b2.set (i := 0) _
    have hc5 := (blk_own b9 (grownBy_putObj' _ D (.deferred none)) (fun r e => by cases e; exact ⟨_, hK', rfl⟩)).cell (i := 0) rfl
    refine ⟨.int .i64 tv, ?_, by rw [HT.out], (hB1.setCell (p := ⟨w.heap.size + 1, 0, none⟩) (by show _ ≤ w.heap.size + 1; omega) _).trans (belowK_b (w := w) (Nat.le_refl _) _ D _ _ (by omega) hK' rfl rfl)⟩
    simp only [results, Tryz.results43]
    simp [go_sem, hc5]
  case stop =>
    rintro D cd pre W hD hpre ⟨⟨rfl, hin, b2⟩, hB1⟩ hK
    have HT : Hid (toldB g (menSs body) = 2) := by
      show _ = _
      unfold toldB
      rw [if_pos]
      obtain ⟨x, hx, hne⟩ := hin
      exact List.any_eq_true.2 ⟨x.me, hpre.subset (List.mem_map.2 ⟨x, hx, rfl⟩), by simpa using hne⟩
    gi_wp2_with fail
    refine ⟨by simp, .inl ⟨_, _, rfl, run_takeDeferred hK, ?_⟩⟩
    have hc5 := (blk_own b2 (grownBy_putObj' _ D (.deferred none)) (fun r e => by cases e; exact ⟨_, hK, rfl⟩)).cell (i := 0) rfl
    refine ⟨.int .i64 2, ?_, by rw [HT.out], hB1.trans (belowK_b (w := w) (Nat.le_refl _) W D _ _ (by omega) hK rfl rfl)⟩
    simp only [results, Tryz.results43]
    simp [go_sem, hc5]
end Go.Proofs.YtajnfknldofjlaaGreatDoor
namespace Go.Proofs.YtajnfknldofjlaaGreatDoor
open Go.RowKit
set_option linter.unusedVariables false
set_option linter.unusedSimpArgs false
set_option maxRecDepth 100000

/-- What the program tells of procedures. -/
def toldP (g : List Int → Mn) : Int → List Pr → Int
  | c, [] => c
  | c, q :: l => if toldB (enG g q) (menSs q.body) = 2 then 2 else toldP g (if toldB (enG g q) (menSs q.body) = 4 then 4 else c) l
theorem toldP_step {g : List Int → Mn} {c : Int} {l : List Pr} {j : Nat} {q : Pr} (h : l[j]? = some q) : toldP g c (l.drop j) = if toldB (enG g q) (menSs q.body) = 2 then 2 else toldP g (if toldB (enG g q) (menSs q.body) = 4 then 4 else c) (l.drop (j + 1)) := by
  obtain ⟨hj, rfl⟩ := List.getElem?_eq_some_iff.1 h
  rw [List.drop_eq_getElem_cons hj, toldP]

set_option maxHeartbeats 4000000 in
theorem toldOfC (l : List Pr) (a : Option Addr) (n c : Nat) (w0 w : World) (b k : Nat) (g : List Int → Mn) (hL : LRow w0 a c 5 (l.map Pr.fl)) (hn : l.length = n) (hw : Below w0.heap.size w0 w) (hb0 : w0.heap.size ≤ b) (hN : NT w b k g) (hk : k + 12 * n ≤ 999000) (hcl : Clean g) (hpl : ∀ q ∈ l, PrLen q) (hok : ∀ q ∈ l, okEn g q = true) (hwf : ∀ q ∈ l, wfSs q.body)
    (hex : ∀ i, i < 8 → w0.cell? ⟨2, i, none⟩ = some (.int .i64 (exSo i))) (hst : ∀ i, i < 8 → w0.cell? ⟨1, i, none⟩ = some (.int .i64 (stSo i))) :
    Calls Tryz.prog 16 #[.map (some b), .slice a n c] w fun e w' => e = .returned (.int .i64 (toldP g 0 l)) ∧ Below w0.heap.size w0 w' := by
  have HL : Hid (LRow w0 a c 5 (l.map Pr.fl)) := hL
  have HN : Hid (l.length = n) := hn
  have h9 := hL.len9
  rw [List.length_map, hn] at h9
  have HQ : Hid (∀ q ∈ l, PrLen q ∧ okEn g q = true ∧ wfSs q.body) := fun q hq => ⟨hpl q hq, hok q hq, hwf q hq⟩
  have HEX : Hid (∀ i, i < 8 → w0.cell? ⟨2, i, none⟩ = some (.int .i64 (exSo i))) := hex
  have HSX : Hid (∀ i, i < 8 → w0.cell? ⟨1, i, none⟩ = some (.int .i64 (stSo i))) := hst
  have HC : Hid (Clean g) := hcl
  have S0 : Hid (toldP g 0 l = toldP g 0 (l.drop 0) ∧ NT w b (k + 12 * 0) g ∧ Below w0.heap.size w0 w) := ⟨rfl, hN, hw⟩
  clear hL hn hpl hok hwf hex hst hcl hN hw
  go_enter Tryz.func16, Tryz.ntmps16
  go_wp2_with fail
  go_loopw [5, 10] (fun t i wr => ∃ (j : Nat) (tv : Int), j ≤ n ∧ t = .int .i64 tv ∧ i = .int .i64 j ∧ Hid (toldP g 0 l = toldP g tv (l.drop j) ∧ NT wr b (k + 12 * j) g ∧ Below w0.heap.size w0 wr)) (fun _ i _ => n - (intOf i).toNat)
  case atStart => exact ⟨0, 0, Nat.zero_le _, rfl, rfl, S0⟩
  case round =>
    obtain ⟨j, tv, hj, rfl, rfl, hst⟩ := hrel
    obtain ⟨hT, hN, hb⟩ := hst.out
    clear S0 hst
    by_cases hlt : j < n
    · obtain ⟨q, hq⟩ : ∃ q, l[j]? = some q := ⟨_, List.getElem?_eq_getElem (by rw [HN.out]; exact hlt)⟩
      have HQQ : Hid (PrLen q ∧ okEn g q = true ∧ wfSs q.body) := HQ.out q (List.mem_of_getElem? hq)
      have HST : Hid (toldP g 0 l = if toldB (enG g q) (menSs q.body) = 2 then 2 else toldP g (if toldB (enG g q) (menSs q.body) = 4 then 4 else tv) (l.drop (j + 1))) := hT.trans (toldP_step hq)
      have HLS : Hid (dropG (dropG (enG g q) (q.params.map Pa.name)) q.locals = g) := left_same HC.out HQQ.out.2.1
      obtain ⟨bx, off, ys, rfl, hys, hcl⟩ := LRow.cellsAt HL.out (show (l.map Pr.fl)[j]? = some q.fl by rw [List.getElem?_map, hq]; rfl)
      have HY0 := hys
      obtain ⟨v0, _, rfl, ⟨a0, c0, rfl, _⟩, v1, _, rfl, rfl, v2, _, rfl, h2, v3, _, rfl, h3, v4, _, rfl, h4, rfl⟩ := hys
      obtain ⟨a2, c2, rfl, _⟩ := h2.list
      obtain ⟨a3, c3, rfl, _⟩ := h3.list
      obtain ⟨ab, cb, rfl, hLb⟩ := h4.list
      generalize (q.params.map Pa.fl).length = n2 at hcl HY0
      generalize (txts q.locals).length = n3 at hcl HY0
      generalize q.name.length = n0 at hcl HY0
      generalize q.opn = o1 at hcl HY0
      have e4 : (sts q.body).length = q.body.length := by rw [sts_map, List.length_map]
      rw [e4] at hcl HY0
      obtain ⟨nb, hnb⟩ : ∃ z, z = q.body.length := ⟨_, rfl⟩
      have HNB : Hid (q.body.length = nb) := hnb.symm
      rw [← hnb] at hcl HY0
      have HY : Hid (RdVals w0 q.fl [.slice a0 n0 c0, .bool o1, .slice a2 n2 c2, .slice a3 n3 c3, .slice ab nb cb]) := HY0
      have HLB : Hid (LRow w0 ab cb 6 (sts q.body)) := hLb
      have r0 := cell_on (hcl 0 _ rfl) hb
      have r1 := cell_on (hcl 1 _ rfl) hb
      have r2 := cell_on (hcl 2 _ rfl) hb
      have r3 := cell_on (hcl 3 _ rfl) hb
      have r4 := cell_on (hcl 4 _ rfl) hb
      rw [Nat.add_zero] at r0
      have z5 := Blk.new wr 64 [.slice a0 n0 c0, .bool o1, .slice a2 n2 c2, .slice a3 n3 c3, .slice ab nb cb]
      have g5 := grown_alloc wr (.cells #[.slice a0 n0 c0, .bool o1, .slice a2 n2 c2, .slice a3 n3 c3, .slice ab nb cb] 64 (0, 0)) none
      simp only [List.toArray] at z5
      have N5 := hN.grown g5
      have b5 := hb.trans ((below_grown g5).mono hb.size)
      clear hcl hq hN hb g5 HY0 h2 h3 h4 hLb e4 hnb hT
      go_upto_region 5 with fail
      generalize wr.alloc (.cells #[.slice a0 n0 c0, .bool o1, .slice a2 n2 c2, .slice a3 n3 c3, .slice ab nb cb] 64 (0, 0)) = w5 at *
      generalize wr.heap.size = gQ at *
      clear r0 r1 r2 r3 r4
      have e1 : (paL q).length = q.params.length := by simp [paL]
      have e2 : (loL q).length = q.locals.length := by simp [loL]
      have p4 := HQQ.out.1.np
      have p8 := HQQ.out.1.nl
      have H1 := enterC q _ w0 w5 b (k + 12 * j) g HY.out b5 hb0 N5 (by show k + 12 * j + (paL q).length + (loL q).length ≤ _; omega) HQQ.out.1.pn HQQ.out.1.ln
      change Calls _ _ _ _ (fun e w' => e = .returned (.bool (okEn g q)) ∧ Dn w5 w' b (k + 12 * j + (paL q).length + (loL q).length) (enG g q) (okEn g q)) at H1
      rw [HQQ.out.2.1] at H1
      simp only [agg, List.toArray] at H1
      have HE5 : Hid (NT w5 b (k + 12 * j) g) := N5
      have q0 := z5.cell (i := 0) rfl
      have q1 := z5.cell (i := 1) rfl
      have q2 := z5.cell (i := 2) rfl
      have q3 := z5.cell (i := 3) rfl
      have q4 := z5.cell (i := 4) rfl
      clear z5
      go_wp2_with fail
      refine H1.mono ?_
      rintro e w6 ⟨rfl, hd⟩
      have N6 := hd.yes rfl
      have hg6 := hd.grown
      have b6 := below_map b5 hg6 hb0
      replace q0 := HE5.out.cell q0 hg6
      replace q1 := HE5.out.cell q1 hg6
      replace q2 := HE5.out.cell q2 hg6
      replace q3 := HE5.out.cell q3 hg6
      replace q4 := HE5.out.cell q4 hg6
      have H2 := toldOfBodyC (enG g q) q.body ab nb cb w0 w6 b _ HLB.out HNB.out HQQ.out.2.2 b6 N6 HEX.out HSX.out
      clear H1 hd hg6 HE5 N5 b5
      go_wp2_with fail
      refine H2.mono ?_
      rintro e w7 ⟨rfl, hb7⟩
      have N7 := N6.below hb7
      have b7 := b6.trans (hb7.mono b6.size)
      replace q0 := cell_on q0 hb7
      replace q1 := cell_on q1 hb7
      replace q2 := cell_on q2 hb7
      replace q3 := cell_on q3 hb7
      replace q4 := cell_on q4 hb7
      have H3 := leaveC q _ w0 w7 b _ _ HY.out b7 hb0 N7 HQQ.out.1.pn HQQ.out.1.ln
      rw [HLS.out] at H3
      simp only [agg, List.toArray] at H3
      have HLE : Hid (k + 12 * j + (paL q).length + (loL q).length ≤ k + 12 * (j + 1)) := by show _ ≤ _; omega
      clear H2 N6 b6 N7 hb7
      generalize toldB (enG g q) (menSs q.body) = t at *
      by_cases t2 : t = 2
      · have HF : Hid (toldP g 0 l = 2) := by show _ = _; rw [HST.out, if_pos t2]
        subst t2
        have B7 : Hid (Below w0.heap.size w0 w7) := b7
        clear H3 q0 q1 q2 q3 q4 b7
        go_wp2_with fail
        go_ret
        exact ⟨ret_int HF.out.symm, B7.out⟩
      · have t2b : (t == 2) = false := by simpa using t2
        by_cases t4 : t = 4
        · have HF : Hid (toldP g 0 l = toldP g 4 (l.drop (j + 1))) := by show _ = _; rw [HST.out, if_neg t2, if_pos t4]
          have t4b : (t == 4) = true := by simpa using t4
          clear t2 t4
          go_wp2_with fail
          refine H3.mono ?_
          rintro e w8 ⟨rfl, hN8, hg8⟩
          have HX : Hid (toldP g 0 l = toldP g 4 (l.drop (j + 1)) ∧ NT w8 b (k + 12 * (j + 1)) g ∧ Below w0.heap.size w0 w8) := ⟨HF.out, hN8.mono HLE.out, below_map b7 hg8 hb0⟩
          clear H3 q0 q1 q2 q3 q4 b7 hN8 hg8
          go_wp2_with fail
          go_roundw
          case rel => exact ⟨j + 1, 4, by omega, rfl, by go_num, HX⟩
          case measure => simp [intOf]; omega
        · have HF : Hid (toldP g 0 l = toldP g tv (l.drop (j + 1))) := by show _ = _; rw [HST.out, if_neg t2, if_neg t4]
          have t4b : (t == 4) = false := by simpa using t4
          clear t2 t4
          go_wp2_with fail
          refine H3.mono ?_
          rintro e w8 ⟨rfl, hN8, hg8⟩
          have HX : Hid (toldP g 0 l = toldP g tv (l.drop (j + 1)) ∧ NT w8 b (k + 12 * (j + 1)) g ∧ Below w0.heap.size w0 w8) := ⟨HF.out, hN8.mono HLE.out, below_map b7 hg8 hb0⟩
          clear H3 q0 q1 q2 q3 q4 b7 hN8 hg8
          go_wp2_with fail
          go_roundw
          case rel => exact ⟨j + 1, tv, by omega, rfl, by go_num, HX⟩
          case measure => simp [intOf]; omega
    · have : n = j := by omega
      subst this
      have HF : Hid (toldP g 0 l = tv) := by show _ = _; rw [hT, ← HN.out, List.drop_length]; rfl
      have HB : Hid (Below w0.heap.size w0 wr) := hb
      clear hT hN hb
      go_wp2_with fail
      go_ret
      exact ⟨ret_int HF.out.symm, HB.out⟩
end Go.Proofs.YtajnfknldofjlaaGreatDoor
namespace Go.Proofs.YtajnfknldofjlaaGreatDoor
open Go.RowKit
set_option linter.unusedVariables false

/-- What is laid: the tables of the forms, of the sorts, and what the library reads. -/
structure TabsS (w : World) : Prop extends TabsR w where
  exs : ∀ i, i < 8 → w.cell? ⟨2, i, none⟩ = some (.int .i64 (exSo i))
  sts : ∀ i, i < 8 → w.cell? ⟨1, i, none⟩ = some (.int .i64 (stSo i))
theorem TabsS.below {w w' : World} (h : TabsS w) (hb : Below w.heap.size w w') : TabsS w' := ⟨h.toTabsR.below hb, fun i hi => cell_on (h.exs i hi) hb, fun i hi => cell_on (h.sts i hi) hb⟩
end Go.Proofs.YtajnfknldofjlaaGreatDoor

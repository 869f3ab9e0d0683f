/- The imports of all objects, one behind the other: the iterator's contract. -/
import Derived.Test.YtefciaeajlgheaaLkUnl
import Derived.Test.YtefciaeajlgheaaTk
import Derived.RangeFuncOwn
import Derived.RangeFuncNested
import Derived.RangeFuncBound
import Derived.RangeFuncCalls
import Derived.RangeFuncLeaves
import Derived.Shelf.Abstract
import Derived.Shelf.RegionOpen
import Derived.WalkKit
import Derived.OwnWalkIn
import Derived.TacticsInMore
import Derived.LoopNIn
import Derived.LoopIn
import Derived.Scope
import Derived.Sort.CutIn
namespace Go.Proofs.Ytefciaeajlgheaa
open Go.RowKit Go.Shelf
set_option linter.unusedVariables false
set_option linter.unusedSimpArgs false
set_option maxRecDepth 100000
attribute [local go_sem] Oper.semAt_some

/-- Nothing below n0 changes, and no object, import or slice of objects. -/
structure Kt (n0 : Nat) (W W' : World) : Prop where
  os : W'.os = W.os
  tape : W'.tape = W.tape
  output : W'.output = W.output
  size : W.heap.size ≤ W'.heap.size
  low : ∀ k, k < n0 → W'.heap[k]? = W.heap[k]?
  own : ∀ (k : Nat) (c : Array Value) (T : TypeId) (f : Nat × Nat), W.heap[k]? = some (Obj.cells c T f) → (T = 47 ∨ T = 52 ∨ T = 30) → W'.heap[k]? = W.heap[k]?
theorem Kt.refl (n0 : Nat) (W : World) : Kt n0 W W := ⟨rfl, rfl, rfl, Nat.le_refl _, fun _ _ => rfl, fun _ _ _ _ _ _ => rfl⟩
theorem Kt.trans {n0 : Nat} {A B C : World} (h : Kt n0 A B) (k : Kt n0 B C) : Kt n0 A C :=
  ⟨k.os.trans h.os, k.tape.trans h.tape, k.output.trans h.output, Nat.le_trans h.size k.size, fun i hi => (k.low i hi).trans (h.low i hi), fun i c T f hc hT => (k.own i c T f ((h.own i c T f hc hT).trans hc) hT).trans (h.own i c T f hc hT)⟩
theorem Kt.grown {n0 : Nat} {A B : World} (h : A.grownBy B none) (hn : n0 ≤ A.heap.size) : Kt n0 A B :=
  ⟨h.os, h.tape, h.output, h.size, fun k hk => h.block k (by omega) (by simp), fun k c T f hc _ => h.block k (Array.getElem?_eq_some_iff.1 hc).1 (by simp)⟩
theorem Kt.below {n0 : Nat} {w0 W W' : World} (hb : Below w0.heap.size w0 W) (h : Kt n0 W W') (h0 : w0.heap.size ≤ n0) : Below w0.heap.size w0 W' :=
  ⟨h.os.trans hb.os, h.tape.trans hb.tape, h.output.trans hb.output, Nat.le_trans hb.size h.size, fun k hk => (h.low k (by omega)).trans (hb.block k hk)⟩
theorem Kt.blk {n0 : Nat} {W W' : World} {g T : Nat} {vs : List Value} (h : Kt n0 W W') (hb : Blk W g T vs) (hT : T = 47 ∨ T = 52 ∨ T = 30) : Blk W' g T vs := (h.own g _ T _ hb hT).trans hb

/-- An import as it is handed over. -/
structure IrR (w0 : World) (nb : Nat) where
  own : Nat
  lt : own < nb
  ip : Ip
  am : Option Addr
  cm : Nat
  an : Option Addr
  cn : Nat
  hm : BRow w0 am ip.mod.length ip.mod
  hn : BRow w0 an ip.name.length ip.name
def IrR.enc {w0 : World} {nb : Nat} (x : IrR w0 nb) : Array Value := #[.int .i64 x.own, .agg #[.slice x.am x.ip.mod.length x.cm, .slice x.an x.ip.name.length x.cn, .int .i64 x.ip.print]]
def IrR.key {w0 : World} {nb : Nat} (x : IrR w0 nb) : Nat × Ip := (x.own, x.ip)
def pairsAt (l : List Oj) (j : Nat) : List (Nat × Ip) := (ojAt l j).im.map fun i => (j, i)
def pairsTo (l : List Oj) : Nat → List (Nat × Ip)
  | 0 => []
  | j + 1 => pairsTo l j ++ pairsAt l j
theorem pairs_pre (l : List Oj) {j n : Nat} (h : j ≤ n) : pairsTo l j <+: pairsTo l n := by
  induction n with
  | zero => rw [show j = 0 by omega]; exact List.prefix_refl _
  | succ n ih =>
    by_cases e : j = n + 1
    · rw [e]; exact List.prefix_refl _
    · exact (ih (by omega)).trans (List.prefix_append _ _)

/-- What is known of the yield ly. -/
structure Yi (w0 : World) (nb ly n0 N : Nat) (J Jx : List (IrR w0 nb) → World → Prop) : Prop where
  hJ : ∀ s A C, J s A → A.grownBy C none → J s C
  hY : ∀ m pre x W, J pre W → pre.length < N → YieldAt Fence.wide m Try.prog ly (IrR.enc x) W fun e W' => (e = .returned (.bool true) ∧ J (pre ++ [x]) W' ∧ Kt n0 W W') ∨ (e = .returned (.bool false) ∧ Jx (pre ++ [x]) W')

theorem pairs_next {l : List Oj} {j k : Nat} {o : Oj} {i : Ip} (ho : l[j]? = some o) (hi : o.im[k]? = some i) : (pairsAt l j).take (k + 1) = (pairsAt l j).take k ++ [(j, i)] := by
  have e : (pairsAt l j)[k]? = some (j, i) := by
    unfold pairsAt
    rw [ojAt_some ho, List.getElem?_map, hi]
    rfl
  obtain ⟨hk, hx'⟩ := List.getElem?_eq_some_iff.1 e
  rw [List.take_succ_eq_append_getElem hk, hx']
theorem pairs_all {l : List Oj} {j n : Nat} {o : Oj} (ho : l[j]? = some o) (hn : o.im.length = n) : (pairsAt l j).take n = pairsAt l j := List.take_of_length_le (by unfold pairsAt; rw [ojAt_some ho, List.length_map, hn]; exact Nat.le_refl _)

/-- Where the iterator stands. -/
structure Se {w0 : World} {nb : Nat} (n0 gB : Nat) (bv : Value) (J : List (IrR w0 nb) → World → Prop) (ms : List (Nat × Ip)) (W : World) : Prop where
  ex : ∃ xs : List (IrR w0 nb), xs.map IrR.key = ms ∧ J xs W
  b : Below w0.heap.size w0 W
  box : Blk W gB 30 [bv]
  sz : n0 ≤ W.heap.size
theorem Se.step {w0 W W' : World} {nb n0 gB : Nat} {bv : Value} {J : List (IrR w0 nb) → World → Prop} {ms : List (Nat × Ip)} (h : Se n0 gB bv J ms W) (hJ : ∀ s A C, J s A → A.grownBy C none → J s C) (hg : W.grownBy W' none) : Se n0 gB bv J ms W' := by
  obtain ⟨xs, e, hj⟩ := h.ex
  exact ⟨⟨xs, e, hJ _ _ _ hj hg⟩, h.b.trans ((below_grown hg).mono h.b.size), h.box.below (below_grown hg) h.box.lt, Nat.le_trans h.sz hg.size⟩

set_option maxHeartbeats 8000000 in
theorem importsSeq (w0 w : World) (m n0 gB : Nat) (l : List Oj) (a : Option Addr) (n c : Nat) (hL : LRow w0 a c 5 (l.map Oj.fl)) (hn : l.length = n) (hb : Below w0.heap.size w0 w) (h0 : w0.heap.size ≤ n0) (hn0 : n0 ≤ w.heap.size) (hgB : Blk w gB 30 [.slice a n c]) :
    SeqStopsK Fence.wide m Try.prog 80 #[.pointer (some ⟨gB, 0, none⟩)] (fun x : IrR w0 n => x.enc) (Kt n0) (fun xs => xs.map IrR.key = pairsTo l n) (fun xs => xs.map IrR.key <+: pairsTo l n) (pairsTo l n).length w := by
  intro ly J Jx W hW hJ hJx hY hI
  have hyi : Hid (Yi w0 n ly n0 (pairsTo l n).length J Jx) := ⟨fun s A C h hg => hJ s A C none h hg (fun r e => by cases e), fun m' pre x W1 h1 h2 => by
      obtain ⟨fn, tmps, assign, bdy, hy, hR⟩ := hY pre x W1 h1 h2
      exact ⟨fn, tmps, assign, bdy, hy, hR.1, fun c cs _ => hR.2 c cs (room_wide _)⟩⟩
  have S0 : Hid (Se n0 gB (.slice a n c) J (pairsTo l 0) W) := ⟨⟨[], rfl, hI⟩, hb.trans (hW.mono hb.size), hgB.below hW hgB.lt, Nat.le_trans hn0 hW.size⟩
  have hn9 := hL.len9
  rw [List.length_map, hn] at hn9
  have HN : Hid (l.length = n) := hn
  have HL : Hid (LRow w0 a c 5 (l.map Oj.fl)) := hL
  clear hY hI hJ hJx hb hn hL hgB hW hn0
  refine (callsIn_wide (n := m)).2 ((callsIn_wide (n := 0)).1 ?_)
  refine callsIn_of_wp Try.func80 rfl trivial ?_ rfl
  simp only [Try.ntmps80, List.size_toArray, List.length_cons, List.length_nil, Nat.reduceAdd, Nat.reduceSub, Array.replicate_succ, Array.replicate_zero, List.push_toArray, List.append_toArray, List.nil_append, List.cons_append]
  refine wpIn_wide.2 (wp_scope_straight ((wpIn_wide (n := 0)).1 ?_))
  gi_wp2_with fail
  refine wpIn_label ?_
  have cB := S0.out.box.cell (i := 0) rfl
  gi_wp2_with fail
  gi_loopw [3, 4, 6, 9] (fun _ _ _ i wr => ∃ j : Nat, j ≤ n ∧ i = .int .i64 j ∧ Hid (Se n0 gB (.slice a n c) J (pairsTo l j) wr)) (fun _ _ _ i _ => n - (intOf i).toNat)
  case atStart => exact ⟨0, Nat.zero_le _, rfl, S0⟩
  case round =>
    obtain ⟨j, hj, rfl, hst⟩ := hrel
    clear S0 cB
    have st := hst.out
    clear hst
    by_cases hlt : j < n
    · obtain ⟨b, off, rfl⟩ := LRow.addr HL.out (by rw [List.length_map, HN.out]; omega)
      obtain ⟨o, v0, v1, v2, v3, v4, ho, hv, c0, c1, c2, c3, c4⟩ := objCells HL.out HN.out j hlt
      have b0 := cell_on c0 st.b
      have b1 := cell_on c1 st.b
      have b2 := cell_on c2 st.b
      have b3 := cell_on c3 st.b
      have b4 := cell_on c4 st.b
      obtain ⟨a0, e0, a1, e1, a2, e2, a4, e4, rfl, rfl, rfl, rfl, rfl, _, _, hL2, _⟩ := objShape hv
      have HO : Hid (l[j]? = some o) := ho
      have HI2 : Hid (LRow w0 a2 e2 3 (o.im.map Ip.fl)) := hL2
      have hn29 := hL2.len9
      rw [List.length_map] at hn29
      obtain ⟨n2, hn2⟩ : ∃ z, z = o.im.length := ⟨_, rfl⟩
      have HN2 : Hid (o.im.length = n2) := hn2.symm
      rw [← hn2] at b2 hn29
      generalize o.name.length = n0' at *
      generalize o.ex.length = n1 at *
      generalize o.code.length = n4 at *
      generalize o.data = d3 at *
      have hj' : (j : Int) < (n : Int) := by omega
      have hNle : Hid ((pairsTo l j).length + n2 ≤ (pairsTo l n).length) := by
        show _ ≤ _
        have := (pairs_pre l (show j + 1 ≤ n by omega)).length_le
        rw [show pairsTo l (j + 1) = pairsTo l j ++ pairsAt l j from rfl, List.length_append] at this
        have e : (pairsAt l j).length = n2 := by unfold pairsAt; rw [ojAt_some HO.out, List.length_map, HN2.out]
        omega
      have yO := grown_alloc wr (.cells #[.slice a0 n0' e0, .slice a1 n1 e1, .slice a2 n2 e2, .int .i64 d3, .slice a4 n4 e4] 47 (0, 0)) none
      have oB := Blk.new wr 47 [.slice a0 n0' e0, .slice a1 n1 e1, .slice a2 n2 e2, .int .i64 d3, .slice a4 n4 e4]
      have st1 := st.step hyi.out.hJ yO
      simp only [List.toArray] at oB
      clear c0 c1 c2 c3 c4 ho hv hL2 hn2 st yO
      gi_upto_region 3 with fail
      generalize wr.alloc (.cells #[.slice a0 n0' e0, .slice a1 n1 e1, .slice a2 n2 e2, .int .i64 d3, .slice a4 n4 e4] 47 (0, 0)) = w1 at *
      generalize wr.heap.size = gO at *
      clear b0 b1 b2 b3 b4
      have oc2 := oB.cell (i := 2) rfl
      have HI0 : Hid (Se n0 gB (.slice (some ⟨b, off, none⟩) n c) J (pairsTo l j ++ (pairsAt l j).take 0) w1 ∧ Blk w1 gO 47 [.slice a0 n0' e0, .slice a1 n1 e1, .slice a2 n2 e2, .int .i64 d3, .slice a4 n4 e4]) := ⟨by rw [List.take_zero, List.append_nil]; exact st1, oB⟩
      clear st1 oB
      gi_wp2_with fail
      gi_loopw [6, 17] (fun _ i wr => ∃ k : Nat, k ≤ n2 ∧ i = .int .i64 k ∧ Hid (Se n0 gB (.slice (some ⟨b, off, none⟩) n c) J (pairsTo l j ++ (pairsAt l j).take k) wr ∧ Blk wr gO 47 [.slice a0 n0' e0, .slice a1 n1 e1, .slice a2 n2 e2, .int .i64 d3, .slice a4 n4 e4])) (fun _ i _ => n2 - (intOf i).toNat)
      case atStart => exact ⟨0, Nat.zero_le _, rfl, HI0⟩
      case round =>
        obtain ⟨k, hk, rfl, hst⟩ := hrel
        clear HI0 oc2
        obtain ⟨st, oB⟩ := hst.out
        clear hst
        by_cases hlk : k < n2
        · obtain ⟨i, hi9⟩ : ∃ i, o.im[k]? = some i := ⟨_, List.getElem?_eq_getElem (by rw [HN2.out]; exact hlk)⟩
          obtain ⟨bi, ofi, am, cm, an, cn, rfl, ⟨r0, r1, r2⟩, hBm, hBn⟩ := impCells HI2.out hi9
          have s0 := cell_on r0 st.b
          have s1 := cell_on r1 st.b
          have s2 := cell_on r2 st.b
          have hk' : (k : Int) < (n2 : Int) := by omega
          have HPN : Hid ((pairsAt l j).take (k + 1) = (pairsAt l j).take k ++ [(j, i)]) := pairs_next HO.out hi9
          obtain ⟨x, hxk, hxe⟩ : ∃ x : IrR w0 n, x.key = (j, i) ∧ x.enc = #[.int .i64 j, .agg #[.slice am i.mod.length cm, .slice an i.name.length cn, .int .i64 i.print]] := ⟨⟨j, hlt, i, am, cm, an, cn, hBm, hBn⟩, rfl, rfl⟩
          have HXK : Hid (x.key = (j, i)) := hxk
          generalize i.mod.length = nm at *
          generalize i.name.length = nn at *
          have yI := grown_alloc wr (.cells #[.slice am nm cm, .slice an nn cn, .int .i64 i.print] 52 (0, 0)) none
          have iB := Blk.new wr 52 [.slice am nm cm, .slice an nn cn, .int .i64 i.print]
          have st2 := st.step hyi.out.hJ yI
          have oB2 := oB.below (below_grown yI) oB.lt
          simp only [List.toArray] at iB
          clear r0 r1 r2 hi9 hBm hBn st oB yI hxk
          gi_upto_region 6 with fail
          generalize wr.alloc (.cells #[.slice am nm cm, .slice an nn cn, .int .i64 i.print] 52 (0, 0)) = w2 at *
          generalize wr.heap.size = gI at *
          clear s0 s1 s2
          have i0 := iB.cell (i := 0) rfl
          have i1 := iB.cell (i := 1) rfl
          have i2 := iB.cell (i := 2) rfl
          obtain ⟨xs, hxs, hJxs⟩ := st2.ex
          have hlx : xs.length < (pairsTo l n).length := by
            have e1 : xs.length = (pairsTo l j ++ (pairsAt l j).take k).length := by rw [← hxs, List.length_map]
            have e2 := hNle.out
            rw [List.length_append, List.length_take] at e1
            omega
          have HY := hyi.out.hY 0 xs x w2 hJxs hlx
          rw [hxe] at HY
          obtain ⟨fn, tmps, assign, bdy, hyl, hR⟩ := HY
          have HT : Hid (∀ W3, J (xs ++ [x]) W3 → Kt n0 w2 W3 → Se n0 gB (.slice (some ⟨b, off, none⟩) n c) J (pairsTo l j ++ (pairsAt l j).take (k + 1)) W3 ∧ Blk W3 gO 47 [.slice a0 n0' e0, .slice a1 n1 e1, .slice (some ⟨bi, ofi, none⟩) n2 e2, .int .i64 d3, .slice a4 n4 e4]) := by
            intro W3 hJ3 hk3
            refine ⟨⟨⟨xs ++ [x], ?_, hJ3⟩, Kt.below st2.b hk3 h0, hk3.blk st2.box (.inr (.inr rfl)), Nat.le_trans st2.sz hk3.size⟩, hk3.blk oB2 (.inl rfl)⟩
            rw [List.map_append, hxs, HPN.out, ← List.append_assoc, List.map_singleton, HXK.out]
          have HF : Hid (∀ W3, Jx (xs ++ [x]) W3 → ∃ pre, pre.map IrR.key <+: pairsTo l n ∧ Jx pre W3) := by
            intro W3 hJ3
            refine ⟨xs ++ [x], ?_, hJ3⟩
            rw [List.map_append, hxs, List.map_singleton, HXK.out, List.append_assoc, ← HPN.out]
            exact ((List.prefix_append_right_inj _).2 (List.take_prefix _ _)).trans (pairs_pre l (show j + 1 ≤ n by omega))
          clear hJxs hxs hlx st2 oB2 iB hxe HPN
          gi_wp2_with (refine ⟨rfl, ?_⟩; refine hR.mono ?_; rintro e w3 (⟨rfl, hJ3, hk3⟩ | ⟨rfl, hJx3⟩))
          · have H9 : Hid _ := HT.out w3 hJ3 hk3
            clear HT HF hR hyl hJ3 hk3 i0 i1 i2
            gi_wp2_with fail
            go_roundw
            case rel => exact ⟨k + 1, by omega, by go_num, H9⟩
            case measure => simp [intOf]; omega
          · have H9 : Hid _ := HF.out w3 hJx3
            clear HT HF hR hyl hJx3 i0 i1 i2
            gi_wp2_with fail
            dsimp only [Exit.noGoto]
            exact bodyPost_end (results_none rfl _ _ _) rfl ⟨⟨_, rfl⟩, .inr H9.out⟩
        · have : n2 = k := by omega
          subst this
          rw [pairs_all HO.out HN2.out] at st
          have H9 : Hid (Se n0 gB (.slice (some ⟨b, off, none⟩) n c) J (pairsTo l (j + 1)) wr) := st
          clear st oB
          gi_wp2_with fail
          go_roundw
          case rel => exact ⟨j + 1, by omega, by go_num, H9⟩
          case measure => simp [intOf]; omega
    · have : n = j := by omega
      subst this
      obtain ⟨xs, hxs, hJxs⟩ := st.ex
      have H9 : Hid (∃ xs, xs.map IrR.key = pairsTo l n ∧ J xs wr) := ⟨xs, hxs, hJxs⟩
      clear st hxs hJxs
      gi_wp2_with fail
      dsimp only [Exit.noGoto]
      exact bodyPost_end (results_none rfl _ _ _) rfl ⟨⟨_, rfl⟩, .inl H9.out⟩
end Go.Proofs.Ytefciaeajlgheaa

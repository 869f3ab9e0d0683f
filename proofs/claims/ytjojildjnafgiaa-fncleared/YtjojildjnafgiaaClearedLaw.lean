/- The law of clearing: whatever the bytes, words of drawn memory that are cleared are 0, all others stay. -/
import Derived.Test.YtjojildjnafgiaaDrawC
import Derived.Test.YtjojildjnafgiaaMemClear3
import Derived.Deep.Cut
namespace Go.Proofs.Ytjojildjnafgiaa
open Go.RowKit
set_option linter.unusedVariables false
set_option linter.unusedSimpArgs false
set_option maxRecDepth 100000

theorem one_mem : memB [(⟨false, 1, 0, 0, 0, 0, 0⟩ : Wd)] = true := by simp [memB, fitW, okW, dataW, okB, isIntB, wrap64, wrap32]
theorem zero_fit (n : Nat) : fitW n zeroW = true := by simp [fitW, okW, dataW, okB, isIntB, wrap64, wrap32, zeroW]

theorem clr_mem {l : List Wd} {A B : Nat} {x : Wd} (h : x ∈ clr l A B) : x = zeroW ∨ x ∈ l := by
  rw [clr, List.mem_append, List.mem_append] at h
  rcases h with h | h | h
  · exact .inr (List.mem_of_mem_take h)
  · exact .inl (List.eq_of_mem_replicate h)
  · exact .inr (List.mem_of_mem_drop h)

theorem memB_clr {l : List Wd} {A B : Nat} (h1 : A ≤ B) (h2 : B ≤ l.length) (h : memB l = true) : memB (clr l A B) = true := by
  rw [memB, Bool.and_eq_true] at h ⊢
  rw [clr_len h1 h2]
  refine ⟨h.1, List.all_eq_true.2 fun x hx => ?_⟩
  rcases clr_mem hx with rfl | hx
  · exact zero_fit _
  · exact List.all_eq_true.1 h.2 x hx

theorem clr_at {l : List Wd} {A B k : Nat} {u : Wd} (h1 : A ≤ B) (h2 : B ≤ l.length) (hu : (clr l A B)[k]? = some u) : (A ≤ k → k < B → u = zeroW) ∧ (¬ (A ≤ k ∧ k < B) → l[k]? = some u) := by
  rw [clr] at hu
  by_cases hA : k < A
  · rw [List.getElem?_append_left (by simp; omega), List.getElem?_take, if_pos hA] at hu
    exact ⟨fun h => absurd h (by omega), fun _ => hu⟩
  · rw [List.getElem?_append_right (by simp; omega)] at hu
    simp only [List.length_take, Nat.min_eq_left (show A ≤ l.length by omega)] at hu
    by_cases hB : k < B
    · rw [List.getElem?_append_left (by simp; omega), List.getElem?_replicate, if_pos (by omega)] at hu
      exact ⟨fun _ _ => (Option.some.inj hu).symm, fun h => absurd ⟨by omega, hB⟩ h⟩
    · rw [List.getElem?_append_right (by simp; omega), List.getElem?_drop] at hu
      simp only [List.length_replicate] at hu
      rw [show B + (k - A - (B - A)) = k by omega] at hu
      exact ⟨fun _ h => absurd h hB, fun _ => hu⟩

theorem word_neq (xt : Bool) (xn xl xh xa xp xs : Int) (yt : Bool) (yn yl yh ya yp ys : Int) (w : World) :
    (binOp .neq 29 (.agg #[.bool xt, .int .i64 xn, .int .i64 xl, .int .i64 xh, .int .i64 xa, .int .i64 xp, .int .i64 xs]) (.agg #[.bool yt, .int .i64 yn, .int .i64 yl, .int .i64 yh, .int .i64 ya, .int .i64 yp, .int .i64 ys])).run Try.prog w = .ok (.bool (!((xt == yt) && ((xn == yn) && ((xl == yl) && ((xh == yh) && ((xa == ya) && ((xp == yp) && (xs == ys))))))))) w := by
  have h := word_eq xt xn xl xh xa xp xs yt yn yl yh ya yp ys w
  rw [run_eql_struct] at h
  rw [run_neq_struct]
  cases hq : (Op.equalIn 10000 29 (.agg #[.bool xt, .int .i64 xn, .int .i64 xl, .int .i64 xh, .int .i64 xa, .int .i64 xp, .int .i64 xs]) (.agg #[.bool yt, .int .i64 yn, .int .i64 yl, .int .i64 yh, .int .i64 ya, .int .i64 yp, .int .i64 ys])).run Try.prog w with
  | ok a w' =>
    rw [hq] at h
    simp only [Result.andThen_ok, Result.ok.injEq, Value.bool.injEq] at h ⊢
    exact ⟨by rw [h.1], h.2⟩
  | _ => rw [hq] at h; simp [Result.andThen] at h

/-- Where the law stands: its variables' blocks. -/
structure US (w : World) (W : World) (gm gx : Nat) (a : Option Addr) (n c : Nat) (z : Value) (l : List Wd) : Prop where
  mb : W.heap[gm]? = some (.cells #[.slice a n c] 25 (0, 0))
  zb : W.heap[gx]? = some (.cells #[z] 25 (0, 0))
  mem : WRow W a n l
  bl : Below w.heap.size w W
theorem US.below {w W W' : World} {gm gx n c : Nat} {a : Option Addr} {z : Value} {l : List Wd} (h : US w W gm gx a n c z l) (hb : Below W.heap.size W W') : US w W' gm gx a n c z l :=
  ⟨(hb.block _ (Array.getElem?_eq_some_iff.1 h.mb).1).trans h.mb, (hb.block _ (Array.getElem?_eq_some_iff.1 h.zb).1).trans h.zb, h.mem.below hb, h.bl.trans (hb.mono h.bl.size)⟩

theorem US.over {w W W' : World} {gm gx n c j : Nat} {a : Option Addr} {z : Value} {l : List Wd} (h : US w W gm gx a n c z l) (hgr : W.grownBy W' (some j)) (h1 : gm ≠ j) (h2 : gx ≠ j) (h3 : ∀ b off, a = some ⟨b, off, none⟩ → b ≠ j) (h4 : w.heap.size ≤ j) : US w W' gm gx a n c z l := by
  refine ⟨(hgr.block _ (Array.getElem?_eq_some_iff.1 h.mb).1 (by simpa using h1)).trans h.mb, (hgr.block _ (Array.getElem?_eq_some_iff.1 h.zb).1 (by simpa using h2)).trans h.zb, ⟨h.mem.1, fun hn => ?_⟩, h.bl.grown hgr h.bl.size (fun k hk => by cases hk; exact h4)⟩
  obtain ⟨b, off, e, hc⟩ := h.mem.2 hn
  refine ⟨b, off, e, fun k v hv => ?_⟩
  have h0 := hc k v hv
  rw [World.cell?_of_block (hgr.block b (World.block_lt_of_cell? W _ h0) (by simpa using h3 b off e))]
  exact h0

set_option maxHeartbeats 8000000 in
theorem cleared_walk (ar : Option Addr) (nr cr : Nat) (zs : List Int) (w : World) (w0 : RowIn .u8 w ar nr cr zs) :
    Calls Try.prog 3 #[.slice ar nr cr] w fun e w' => e = .returned (.bool true) ∧ Below w.heap.size w w' := by
  obtain ⟨hr, hlc, hm⟩ := w0.row
  unfold maxLen at hm
  have HR : Hid (BRow w ar nr (zs.take nr)) := hr
  clear hr w0
  have hbO : Below w.heap.size w (w.alloc (.cells #[.bool false, .int .i64 1, .int .i64 0, .int .i64 0, .int .i64 0, .int .i64 0, .int .i64 0] 29)) := (Below.refl _ _).alloc (Nat.le_refl _) _
  have hWO : WB (w.alloc (.cells #[.bool false, .int .i64 1, .int .i64 0, .int .i64 0, .int .i64 0, .int .i64 0, .int .i64 0] 29)) w.heap.size [⟨false, 1, 0, 0, 0, 0, 0⟩] := heap_alloc_new w _
  have HC1 := implClearYesA (some ⟨w.heap.size, 0, none⟩) 1 1 [⟨false, 1, 0, 0, 0, 0, 0⟩] 0 1 (w.alloc (.cells #[.bool false, .int .i64 1, .int .i64 0, .int .i64 0, .int .i64 0, .int .i64 0, .int .i64 0] 29)) (hWO.row rfl) (by omega) (by intro x hx; rw [List.mem_singleton.1 hx]; exact in64_0) one_mem (by omega) (by omega)
  have HBO : Hid (Below w.heap.size w (w.alloc (.cells #[.bool false, .int .i64 1, .int .i64 0, .int .i64 0, .int .i64 0, .int .i64 0, .int .i64 0] 29))) := hbO
  clear hbO hWO
  go_enter Try.func3, Try.ntmps3
  go_wp2_with fail
  refine HC1.mono ?_
  rintro e w1 ⟨g1, rfl, _, hW1, hb1⟩
  have hz1 : w1.heap[g1]? = some (.cells #[.bool false, .int .i64 0, .int .i64 0, .int .i64 0, .int .i64 0, .int .i64 0, .int .i64 0] 29 (0, 0)) := hW1
  have HZ1 : Hid (w1.heap[g1]? = some (.cells #[.bool false, .int .i64 0, .int .i64 0, .int .i64 0, .int .i64 0, .int .i64 0, .int .i64 0] 29 (0, 0))) := hz1
  have HB1 : Hid (Below w.heap.size w w1) := HBO.out.trans (hb1.mono HBO.out.size)
  clear hz1 hW1 hb1 HBO HC1
  go_upto_region 2 with fail
  have HZ2 : Hid ((w1.alloc (.cells #[.slice (some ⟨g1, 0, none⟩) 1 1] 25)).heap[g1]? = some (.cells #[.bool false, .int .i64 0, .int .i64 0, .int .i64 0, .int .i64 0, .int .i64 0, .int .i64 0] 29 (0, 0))) := (alloc_block (Array.getElem?_eq_some_iff.1 HZ1.out).1).trans HZ1.out
  have HB2 : Hid (Below w.heap.size w (w1.alloc (.cells #[.slice (some ⟨g1, 0, none⟩) 1 1] 25))) := HB1.out.alloc HB1.out.size _
  have ho2 := heap_alloc_new w1 (.cells #[.slice (some ⟨g1, 0, none⟩) 1 1] 25)
  clear HZ1 HB1
  generalize w1.alloc (.cells #[.slice (some ⟨g1, 0, none⟩) 1 1] 25) = w2 at *
  generalize w1.heap.size = g2 at *
  obtain ⟨z0, _⟩ := one_facts ho2
  obtain ⟨c0, c1, c2, c3, c4, c5, c6, _⟩ := row_facts HZ2.out
  clear ho2
  go_wp2_with fail
  refine (drawClearM ar nr cr _ w2 (HR.out.below HB2.out) (by omega)).mono ?_
  rintro e w3 ⟨a, n, c, l, lo, hi, rfl, hmd, hb3⟩
  have hn40 : n ≤ 40 := hmd.2.1
  have hn : n ≤ 1048576 := by omega
  have HL : Hid (l.length = n) := hmd.1
  have HF : Hid (∀ x ∈ l, In64 x.s) := hmd.2.2.2
  have hM3 : WRow w3 a n l := ⟨hmd.1, fun hp => by
    obtain ⟨gb, e, hw, _⟩ := hmd.2.2.1 hp
    exact ⟨gb, 0, e, by obtain ⟨b', o', e', hc⟩ := (hw.row hmd.1).2 hp; cases e'; exact hc⟩⟩
  have HB3 : Hid (Below w.heap.size w w3) := HB2.out.trans (hb3.mono HB2.out.size)
  have HM3 : Hid (WRow w3 a n l) := hM3
  clear hmd hM3 hb3 HB2 HZ2 z0 c0 c1 c2 c3 c4 c5 c6 HR
  go_upto_region 5 with fail
  have HM4 : Hid (WRow (w3.alloc (.cells #[.slice a n c] 25)) a n l) := HM3.out.below ((Below.refl _ _).alloc (Nat.le_refl _) _)
  have HB4 : Hid (Below w.heap.size w (w3.alloc (.cells #[.slice a n c] 25))) := HB3.out.alloc HB3.out.size _
  have HMB4 : Hid ((w3.alloc (.cells #[.slice a n c] 25)).heap[w3.heap.size]? = some (.cells #[.slice a n c] 25 (0, 0))) := heap_alloc_new w3 _
  clear HM3 HB3
  generalize w3.alloc (.cells #[.slice a n c] 25) = w4 at *
  generalize w3.heap.size = gm at *
  obtain ⟨m0, _⟩ := one_facts HMB4.out
  go_wp2_with fail
  cases hc : clrB l lo hi
  · refine (implClearNoA a n c l lo hi w4 HM4.out hn HF.out hc).mono ?_
    rintro e w5 ⟨rfl, hb5⟩
    have HB5 : Hid (Below w.heap.size w w5) := HB4.out.trans (hb5.mono HB4.out.size)
    clear hb5 HB4 HM4 HMB4 m0 hc
    go_wp2_with fail
    go_ret
    exact ⟨rfl, HB5.out.alloc HB5.out.size _⟩
  · obtain ⟨hmB, A, B, rfl, rfl, h1, h2⟩ := clrB_yes hc
    refine (implClearYesA a n c l A B w4 HM4.out hn HF.out hmB h1 (by rw [← HL.out]; exact h2)).mono ?_
    rintro e w5 ⟨g', rfl, _, hW5, hb5⟩
    obtain ⟨L, hL⟩ : ∃ L, L = clr l A B := ⟨_, rfl⟩
    rw [← hL] at hW5
    have HLL : Hid (L = clr l A B) := hL
    have HLn : Hid (L.length = n) := by show _ = _; rw [hL, clr_len h1 h2]; exact HL.out
    have HMB : Hid (memB L = true) := by show _ = _; rw [hL]; exact memB_clr h1 h2 hmB
    have HFL : Hid (∀ x ∈ L, In64 x.s) := by
      intro x hx
      rw [hL] at hx
      rcases clr_mem hx with rfl | hx
      · exact in64_0
      · exact HF.out x hx
    have H12 : Hid (A ≤ B ∧ B ≤ l.length) := ⟨h1, h2⟩
    clear hL hc hmB h1 h2
    go_upto_region 6 with fail
    have V : Hid (US w (w5.alloc (.cells #[.slice (some ⟨g', 0, none⟩) n n] 25)) gm w5.heap.size a n c (.slice (some ⟨g', 0, none⟩) n n) l) := by
      have hb6 : Below w4.heap.size w4 (w5.alloc (.cells #[.slice (some ⟨g', 0, none⟩) n n] 25)) := hb5.alloc hb5.size _
      exact ⟨(hb6.block _ (Array.getElem?_eq_some_iff.1 HMB4.out).1).trans HMB4.out, heap_alloc_new w5 _, HM4.out.below hb6, HB4.out.trans (hb6.mono HB4.out.size)⟩
    have HW : Hid (WB (w5.alloc (.cells #[.slice (some ⟨g', 0, none⟩) n n] 25)) g' L) := (alloc_block (Array.getElem?_eq_some_iff.1 hW5).1).trans hW5
    clear hW5 hb5 HM4 HB4 HMB4 m0
    generalize w5.alloc (.cells #[.slice (some ⟨g', 0, none⟩) n n] 25) = w6 at *
    generalize w5.heap.size = gx at *
    go_wp2_with fail
    go_loopw [10] (fun i wr => ∃ k : Nat, k ≤ n ∧ i = .int .i64 k ∧ Hid (US w wr gm gx a n c (.slice (some ⟨g', 0, none⟩) n n) l) ∧ Hid (WB wr g' L)) (fun i _ => n - (intOf i).toNat)
    case atStart => exact ⟨0, Nat.zero_le _, rfl, V, HW⟩
    case round =>
      obtain ⟨k, hk, rfl, V2, HW2⟩ := hrel
      clear V HW
      have V : Hid (US w wr gm gx a n c (.slice (some ⟨g', 0, none⟩) n n) l) := V2
      have HW : Hid (WB wr g' L) := HW2
      clear V2 HW2
      obtain ⟨m0, _⟩ := one_facts V.out.mb
      obtain ⟨z0, _⟩ := one_facts V.out.zb
      by_cases hlt : k < n
      · obtain ⟨b0, off, rfl, _⟩ := V.out.mem.2 (Nat.lt_of_le_of_lt (Nat.zero_le _) hlt)
        obtain ⟨u, hu⟩ : ∃ u, L[k]? = some u := ⟨_, List.getElem?_eq_getElem (by rw [HLn.out]; exact hlt)⟩
        obtain ⟨v, hv, p0, p1, p2, p3, p4, p5, p6⟩ := WRow.el V.out.mem hlt
        have hcl := clr_at H12.out.1 H12.out.2 (by rw [← HLL.out]; exact hu)
        have HU : Hid (L[k]? = some u) := hu
        have HC : Hid ((A ≤ k → k < B → u = zeroW) ∧ (¬ (A ≤ k ∧ k < B) → v = u)) := ⟨hcl.1, fun h => by have := hcl.2 h; rw [hv] at this; exact Option.some.inj this⟩
        clear hcl hu hv
        go_upto_region 12 with fail
        have hb7 : Below wr.heap.size wr (wr.alloc (.cells #[.bool v.t, .int .i64 v.n, .int .i64 v.l, .int .i64 v.h, .int .i64 v.a, .int .i64 v.p, .int .i64 v.s] 29)) := (Below.refl _ _).alloc (Nat.le_refl _) _
        have V7 : Hid (US w (wr.alloc (.cells #[.bool v.t, .int .i64 v.n, .int .i64 v.l, .int .i64 v.h, .int .i64 v.a, .int .i64 v.p, .int .i64 v.s] 29)) gm gx (some ⟨b0, off, none⟩) n c (.slice (some ⟨g', 0, none⟩) n n) l) := V.out.below hb7
        have HW7 : Hid (WB (wr.alloc (.cells #[.bool v.t, .int .i64 v.n, .int .i64 v.l, .int .i64 v.h, .int .i64 v.a, .int .i64 v.p, .int .i64 v.s] 29)) g' L) := HW.out.below hb7 (Array.getElem?_eq_some_iff.1 HW.out).1
        have HV7 : Hid ((wr.alloc (.cells #[.bool v.t, .int .i64 v.n, .int .i64 v.l, .int .i64 v.h, .int .i64 v.a, .int .i64 v.p, .int .i64 v.s] 29)).heap[wr.heap.size]? = some (.cells #[.bool v.t, .int .i64 v.n, .int .i64 v.l, .int .i64 v.h, .int .i64 v.a, .int .i64 v.p, .int .i64 v.s] 29 (0, 0))) := heap_alloc_new wr _
        have HGG : Hid (g' < wr.heap.size ∧ gm < wr.heap.size ∧ gx < wr.heap.size ∧ w.heap.size ≤ wr.heap.size ∧ b0 < wr.heap.size) := ⟨(Array.getElem?_eq_some_iff.1 HW.out).1, (Array.getElem?_eq_some_iff.1 V.out.mb).1, (Array.getElem?_eq_some_iff.1 V.out.zb).1, V.out.bl.size, World.block_lt_of_cell? wr _ p0⟩
        clear V HW m0 z0 p0 p1 p2 p3 p4 p5 p6 hb7
        generalize wr.alloc (.cells #[.bool v.t, .int .i64 v.n, .int .i64 v.l, .int .i64 v.h, .int .i64 v.a, .int .i64 v.p, .int .i64 v.s] 29) = w7 at *
        generalize wr.heap.size = gv at *
        by_cases hin : A ≤ k ∧ k < B
        · have hu0 := HC.out.1 hin.1 hin.2
          subst hu0
          have hd1 : decide ((A : Int) ≤ (k : Int)) = true := by simp; omega
          have hd2 : decide ((k : Int) < (B : Int)) = true := by simp; omega
          obtain ⟨q0, q1, q2, q3, q4, q5, q6, f0, f1, f2, f3, f4, f5, f6⟩ := row_facts HV7.out
          go_upto_region 14 with fail
          have V : Hid (US w (((((((w7.setCell ⟨gv, 0, none⟩ (.bool false)).setCell ⟨gv, 1, none⟩ (.int .i64 0)).setCell ⟨gv, 2, none⟩ (.int .i64 0)).setCell ⟨gv, 3, none⟩ (.int .i64 0)).setCell ⟨gv, 4, none⟩ (.int .i64 0)).setCell ⟨gv, 5, none⟩ (.int .i64 0)).setCell ⟨gv, 6, none⟩ (.int .i64 0)) gm gx (some ⟨b0, off, none⟩) n c (.slice (some ⟨g', 0, none⟩) n n) l) := V7.out.over (put7_grown w7 gv (.bool false) (.int .i64 0) (.int .i64 0) (.int .i64 0) (.int .i64 0) (.int .i64 0) (.int .i64 0)) (by have := HGG.out; omega) (by have := HGG.out; omega) (fun b o e => by cases e; have := HGG.out; omega) HGG.out.2.2.2.1
          have HW : Hid (WB (((((((w7.setCell ⟨gv, 0, none⟩ (.bool false)).setCell ⟨gv, 1, none⟩ (.int .i64 0)).setCell ⟨gv, 2, none⟩ (.int .i64 0)).setCell ⟨gv, 3, none⟩ (.int .i64 0)).setCell ⟨gv, 4, none⟩ (.int .i64 0)).setCell ⟨gv, 5, none⟩ (.int .i64 0)).setCell ⟨gv, 6, none⟩ (.int .i64 0)) g' L) := ((put7_grown w7 gv (.bool false) (.int .i64 0) (.int .i64 0) (.int .i64 0) (.int .i64 0) (.int .i64 0) (.int .i64 0)).block g' (Array.getElem?_eq_some_iff.1 HW7.out).1 (by have := HGG.out; simp; omega)).trans HW7.out
          have hq8 : (((((((w7.setCell ⟨gv, 0, none⟩ (.bool false)).setCell ⟨gv, 1, none⟩ (.int .i64 0)).setCell ⟨gv, 2, none⟩ (.int .i64 0)).setCell ⟨gv, 3, none⟩ (.int .i64 0)).setCell ⟨gv, 4, none⟩ (.int .i64 0)).setCell ⟨gv, 5, none⟩ (.int .i64 0)).setCell ⟨gv, 6, none⟩ (.int .i64 0)).heap[gv]? = some (.cells #[.bool false, .int .i64 0, .int .i64 0, .int .i64 0, .int .i64 0, .int .i64 0, .int .i64 0] 29 (0, 0)) := put7_block (.bool false) (.int .i64 0) (.int .i64 0) (.int .i64 0) (.int .i64 0) (.int .i64 0) (.int .i64 0) HV7.out
          clear V7 HW7 HV7 q0 q1 q2 q3 q4 q5 q6 f0 f1 f2 f3 f4 f5 f6 hd1 hd2
          generalize (((((((w7.setCell ⟨gv, 0, none⟩ (.bool false)).setCell ⟨gv, 1, none⟩ (.int .i64 0)).setCell ⟨gv, 2, none⟩ (.int .i64 0)).setCell ⟨gv, 3, none⟩ (.int .i64 0)).setCell ⟨gv, 4, none⟩ (.int .i64 0)).setCell ⟨gv, 5, none⟩ (.int .i64 0)).setCell ⟨gv, 6, none⟩ (.int .i64 0)) = w8 at *
          obtain ⟨q0, q1, q2, q3, q4, q5, q6, _⟩ := row_facts hq8
          have hcw := HW.out.word HU.out
          simp only [zeroW] at hcw
          obtain ⟨c0, c1, c2, c3, c4, c5, c6⟩ := hcw
          have hq := fun w => word_neq false 0 0 0 0 0 0 false 0 0 0 0 0 0 w
          simp only [beq_self_eq_true, Bool.and_self, Bool.not_true] at hq
          clear hq8
          obtain ⟨m0, _⟩ := one_facts V.out.mb
          obtain ⟨z0, _⟩ := one_facts V.out.zb
          go_wp2_with fail
          go_quiet (fail)
          go_wp2_with fail
          go_roundw
          case rel => exact ⟨k + 1, by omega, by go_num, V.out.below (below_drewN (Below.refl _ _) _), HW.out⟩
          case measure => simp [intOf]; omega
        · have hu0 := HC.out.2 hin
          subst hu0
          have V : Hid (US w w7 gm gx (some ⟨b0, off, none⟩) n c (.slice (some ⟨g', 0, none⟩) n n) l) := V7
          have HW : Hid (WB w7 g' L) := HW7
          clear V7 HW7
          obtain ⟨q0, q1, q2, q3, q4, q5, q6, _⟩ := row_facts HV7.out
          obtain ⟨c0, c1, c2, c3, c4, c5, c6⟩ := HW.out.word HU.out
          have hq := fun w => word_neq v.t v.n v.l v.h v.a v.p v.s v.t v.n v.l v.h v.a v.p v.s w
          simp only [beq_self_eq_true, Bool.and_self, Bool.not_true] at hq
          by_cases hA : A ≤ k
          · have hd1 : decide ((A : Int) ≤ (k : Int)) = true := by simp; omega
            have hd2 : decide ((k : Int) < (B : Int)) = false := by simp; omega
            obtain ⟨m0, _⟩ := one_facts V.out.mb
            obtain ⟨z0, _⟩ := one_facts V.out.zb
            go_wp2_with fail
            go_quiet (fail)
            go_wp2_with fail
            go_roundw
            case rel => exact ⟨k + 1, by omega, by go_num, V.out.below (below_drewN (Below.refl _ _) _), HW.out⟩
            case measure => simp [intOf]; omega
          · have hd1 : decide ((A : Int) ≤ (k : Int)) = false := by simp; omega
            obtain ⟨m0, _⟩ := one_facts V.out.mb
            obtain ⟨z0, _⟩ := one_facts V.out.zb
            go_wp2_with fail
            go_quiet (fail)
            go_wp2_with fail
            go_roundw
            case rel => exact ⟨k + 1, by omega, by go_num, V.out.below (below_drewN (Below.refl _ _) _), HW.out⟩
            case measure => simp [intOf]; omega
      · have hkn : n = k := by omega
        subst hkn
        go_wp2_with fail
        refine (implMemM (some ⟨g', 0, none⟩) n n L wr (HW.out.row HLn.out) HFL.out hn).mono ?_
        rintro e w9 ⟨rfl, hb9⟩
        have hB9 := V.out.bl.trans (hb9.mono V.out.bl.size)
        rw [HMB.out]
        clear hb9
        go_wp2_with fail
        go_ret
        exact ⟨rfl, hB9⟩
end Go.Proofs.Ytjojildjnafgiaa

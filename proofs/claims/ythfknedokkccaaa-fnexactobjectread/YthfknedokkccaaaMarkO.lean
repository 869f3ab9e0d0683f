/- Marks over an object, by the laws' helper. -/
import Derived.Test.YthfknedokkccaaaMarkM
import Derived.Test.YthfknedokkccaaaObjHelp
namespace Go.Proofs.Ythfknedokkccaaa
open Go.RowKit
set_option linter.unusedVariables false
set_option linter.unusedSimpArgs false
set_option maxRecDepth 100000

theorem Fd.Has.keep {w w' : World} {base : Nat} {v : Value} {f : Fd} {os : List (Option Nat)} (h : f.Has w base v) (hk : KeepO os w w') (hd : v.ownBlock = none ∨ v.ownBlock ∉ os) : f.Has w' base v := by
  cases f with
  | n x => exact h
  | b l =>
    obtain ⟨a, c, e, ho⟩ := h
    refine ⟨a, c, e, ⟨ho.1.1, ?_⟩, ho.2⟩
    rcases ho.1.2 with hn | ⟨g, cap, cur, hv, hg, hh, r⟩
    · exact .inl hn
    · refine .inr ⟨g, cap, cur, hv, hg, ?_, r⟩
      rw [hk.block g (Array.getElem?_eq_some_iff.1 hh).1 (by rw [hv] at hd; simpa [Value.ownBlock] using hd)]
      exact hh

theorem Hs.keep {w w' : World} {base : Nat} {r : R3} {d : D3} {os : List (Option Nat)} (h : Hs w base r d) (hk : KeepO os w w') (hd : ∀ o ∈ r.owns, o = none ∨ o ∉ os) : Hs w' base r d :=
  ⟨h.1.keep hk (hd _ (by simp [R3.owns])), h.2.1.keep hk (hd _ (by simp [R3.owns])), h.2.2.keep hk (hd _ (by simp [R3.owns]))⟩

theorem DOwn.keep {w w' : World} {T base n : Nat} {v : Value} {l : List R3} {ds : List D3} {os : List (Option Nat)} (h : DOwn w T base v n l ds) (hk : KeepO os w w') (hd : ∀ o ∈ v.ownBlock :: owners l, o = none ∨ o ∉ os) : DOwn w' T base v n l ds := by
  refine ⟨⟨h.row.1, ?_⟩, h.len, h.lend, fun i r d h1 h2 => (h.has i r d h1 h2).keep hk (fun o ho => hd o (List.mem_cons_of_mem _ (owners_mem h1 ho)))⟩
  rcases h.row.2 with hn | ⟨g, cap, cur, hv, hg, hh, r⟩
  · exact .inl hn
  · refine .inr ⟨g, cap, cur, hv, hg, ?_, r⟩
    have := hd v.ownBlock (by simp)
    rw [hk.block g (Array.getElem?_eq_some_iff.1 hh).1 (by rw [hv] at this; simpa [Value.ownBlock] using this)]
    exact hh

theorem apart_left {A B : List (Option Nat)} (h : ∀ a ∈ A, ∀ b ∈ B, a = none ∨ a ≠ b) : ∀ b ∈ B, b = none ∨ b ∉ A := by
  intro b hb
  by_cases e : b = none
  · exact .inl e
  · refine .inr fun hm => ?_
    rcases h b hm b hb with h1 | h1
    · exact e h1
    · exact h1 rfl
theorem apart_right {A B : List (Option Nat)} (h : ∀ a ∈ A, ∀ b ∈ B, a = none ∨ a ≠ b) : ∀ a ∈ A, a = none ∨ a ∉ B := by
  intro a ha
  by_cases e : a = none
  · exact .inl e
  · refine .inr fun hm => ?_
    rcases h a ha a hm with h1 | h1
    · exact e h1
    · exact h1 rfl

theorem wt_le (d : D3) : d.wt ≤ d.len + 3 := by
  obtain ⟨x, y, z⟩ := d
  cases x <;> cases y <;> cases z <;> simp [D3.wt, D3.len, Fd.wt, Fd.len] <;> omega
theorem wsum_le (ds : List D3) : wsum ds ≤ dsum ds + 3 * ds.length := by
  induction ds with
  | nil => simp [wsum, dsum]
  | cons x l ih => have := wt_le x; simp [wsum, dsum]; omega

def ownsO (o : O5) (lE lI : List R3) : List (Option Nat) := [o.x.ownBlock] ++ (o.e.ownBlock :: owners lE) ++ (o.i.ownBlock :: owners lI) ++ [o.c.ownBlock]
def markOb (k : Nat) (b : Ob) : Ob := ⟨marks k b.name.length, markL (k + b.name.length) b.ex, markL (k + b.name.length + wsum b.ex) b.im, b.data, marks (k + b.name.length + wsum b.ex + wsum b.im) b.code.length⟩
def wtO (b : Ob) : Nat := b.name.length + wsum b.ex + wsum b.im + b.code.length

theorem wtO_le (b : Ob) : wtO b ≤ 4 * osz b := by
  have h1 := wsum_le b.ex
  have h2 := wsum_le b.im
  unfold wtO osz
  omega

theorem B5.keep {w w' : World} {g : Nat} {t : TypeId} {o : O5} {os : List (Option Nat)} (h : B5 w g t o) (hk : KeepO os w w') (hn : some g ∉ os) : B5 w' g t o := (hk.block g h.lt hn).trans h

set_option maxHeartbeats 4000000 in
theorem markObjectM (base : Nat) (o : O5) (b : Ob) (lE lI : List R3) (w : World) (h : OOwn w base o b lE lI) (hs : osz b ≤ 1048576) (hE : ∀ d ∈ b.ex, isE d) (hI : ∀ d ∈ b.im, isM d) :
    Calls Try.prog 10 #[.agg #[o.x, o.e, o.i, o.d, o.c], .int .i64 1] w fun e w' => ∃ lE' lI', e = .returned (.int .i64 ((1 + wtO b : Nat) : Int)) ∧ OOwn w' base o (markOb 1 b) lE' lI' ∧ KeepO (ownsO o lE lI) w w' := by
  have hbig : wtO b ≤ 4194304 := Nat.le_trans (wtO_le b) (by omega)
  have EX := osz_ex hs hE
  have IM := osz_im hs hI
  have hbk := h.bk
  obtain ⟨a1, c1, a2, c2, a3, c3, a4, c4, eo⟩ := (h.read hE hI).shape
  subst eo
  obtain ⟨⟨_, _, e1, oN⟩, oE, oI, _, ⟨_, _, e4, oC⟩, _⟩ := h
  simp only [Value.slice.injEq, true_and] at e1 e4
  obtain ⟨rfl, rfl⟩ := e1
  obtain ⟨rfl, rfl⟩ := e4
  simp only at oN oE oI oC hbk ⊢
  have hpw := hbk.2
  have hlo := hbk.1
  obtain ⟨hABC, _, hABCD⟩ := List.pairwise_append.1 hpw
  obtain ⟨hAB, hC, hABC'⟩ := List.pairwise_append.1 hABC
  obtain ⟨_, hB, hAB'⟩ := List.pairwise_append.1 hAB
  have hfresh : some w.heap.size ∉ ownsO ⟨.slice a1 b.name.length c1, .slice a2 b.ex.length c2, .slice a3 b.im.length c3, .int .i64 b.data, .slice a4 b.code.length c4⟩ lE lI := fun hm => by have := (hlo _ hm).2; omega
  have x0 := B5.new w 26 ⟨.slice a1 b.name.length c1, .slice a2 b.ex.length c2, .slice a3 b.im.length c3, .int .i64 b.data, .slice a4 b.code.length c4⟩
  have y0 : Below w.heap.size w (w.alloc (.cells #[.slice a1 b.name.length c1, .slice a2 b.ex.length c2, .slice a3 b.im.length c3, .int .i64 b.data, .slice a4 b.code.length c4] 26 (0, 0))) := (Below.refl _ _).alloc (Nat.le_refl _) _
  simp only at x0
  unfold osz at hs
  unfold wtO at hbig ⊢
  have XAB := hAB'
  have XAC : ∀ a ∈ [(Value.slice a1 b.name.length c1).ownBlock], ∀ b_1 ∈ ((Value.slice a3 b.im.length c3).ownBlock :: owners lI), a = none ∨ a ≠ b_1 := fun a ha => hABC' a (List.mem_append_left _ ha)
  have XBC : ∀ a ∈ ((Value.slice a2 b.ex.length c2).ownBlock :: owners lE), ∀ b_1 ∈ ((Value.slice a3 b.im.length c3).ownBlock :: owners lI), a = none ∨ a ≠ b_1 := fun a ha => hABC' a (List.mem_append_right _ ha)
  have XAD : ∀ a ∈ [(Value.slice a1 b.name.length c1).ownBlock], ∀ b_1 ∈ [(Value.slice a4 b.code.length c4).ownBlock], a = none ∨ a ≠ b_1 := fun a ha => hABCD a (List.mem_append_left _ (List.mem_append_left _ ha))
  have XBD : ∀ a ∈ ((Value.slice a2 b.ex.length c2).ownBlock :: owners lE), ∀ b_1 ∈ [(Value.slice a4 b.code.length c4).ownBlock], a = none ∨ a ≠ b_1 := fun a ha => hABCD a (List.mem_append_left _ (List.mem_append_right _ ha))
  have XCD : ∀ a ∈ ((Value.slice a3 b.im.length c3).ownBlock :: owners lI), ∀ b_1 ∈ [(Value.slice a4 b.code.length c4).ownBlock], a = none ∨ a ≠ b_1 := fun a ha => hABCD a (List.mem_append_right _ ha)
  have sA : ∀ o ∈ [(Value.slice a1 b.name.length c1).ownBlock], o ∈ ownsO ⟨.slice a1 b.name.length c1, .slice a2 b.ex.length c2, .slice a3 b.im.length c3, .int .i64 b.data, .slice a4 b.code.length c4⟩ lE lI := fun o ho => List.mem_append_left _ (List.mem_append_left _ (List.mem_append_left _ ho))
  have sB : ∀ o ∈ ((Value.slice a2 b.ex.length c2).ownBlock :: owners lE), o ∈ ownsO ⟨.slice a1 b.name.length c1, .slice a2 b.ex.length c2, .slice a3 b.im.length c3, .int .i64 b.data, .slice a4 b.code.length c4⟩ lE lI := fun o ho => List.mem_append_left _ (List.mem_append_left _ (List.mem_append_right _ ho))
  have sC : ∀ o ∈ ((Value.slice a3 b.im.length c3).ownBlock :: owners lI), o ∈ ownsO ⟨.slice a1 b.name.length c1, .slice a2 b.ex.length c2, .slice a3 b.im.length c3, .int .i64 b.data, .slice a4 b.code.length c4⟩ lE lI := fun o ho => List.mem_append_left _ (List.mem_append_right _ ho)
  have sD : ∀ o ∈ [(Value.slice a4 b.code.length c4).ownBlock], o ∈ ownsO ⟨.slice a1 b.name.length c1, .slice a2 b.ex.length c2, .slice a3 b.im.length c3, .int .i64 b.data, .slice a4 b.code.length c4⟩ lE lI := fun o ho => List.mem_append_right _ ho
  have hCp : ((Value.slice a3 b.im.length c3).ownBlock :: owners lI).Pairwise (fun a b => a = none ∨ a ≠ b) := hC
  have hBp : ((Value.slice a2 b.ex.length c2).ownBlock :: owners lE).Pairwise (fun a b => a = none ∨ a ≠ b) := hB
  have hBK : Bk base w.heap.size (ownsO ⟨.slice a1 b.name.length c1, .slice a2 b.ex.length c2, .slice a3 b.im.length c3, .int .i64 b.data, .slice a4 b.code.length c4⟩ lE lI) := hbk
  clear hABC hABCD hAB hC hABC' hB hAB' hpw hlo hbk
  go_enter Try.func10, Try.ntmps10
  go_upto_region 1 with fail
  generalize w.alloc (.cells #[.slice a1 b.name.length c1, .slice a2 b.ex.length c2, .slice a3 b.im.length c3, .int .i64 b.data, .slice a4 b.code.length c4] 26 (0, 0)) = w0 at *
  have K0 : KeepO (ownsO ⟨.slice a1 b.name.length c1, .slice a2 b.ex.length c2, .slice a3 b.im.length c3, .int .i64 b.data, .slice a4 b.code.length c4⟩ lE lI) w w0 := ⟨y0.os, y0.tape, y0.output, y0.size, fun g h1 _ => y0.block g h1⟩
  have nN := oN.below y0
  have nE := oE.below y0
  have nI := oI.below y0
  have nC := oC.below y0
  clear oN oE oI oC y0
  have H1 := markM base (.slice a1 b.name.length c1) b.name.length b.name 1 w0 nN (by omega) (by omega) (by omega)
  obtain ⟨q0, _, _, _, _⟩ := x0.facts
  simp only at q0
  go_wp2_with fail
  refine H1.mono ?_
  rintro e w1 ⟨rfl, mN, hg1⟩
  have L1 := KeepO.of (os := [(Value.slice a1 b.name.length c1).ownBlock]) hg1 (by simp)
  have M1 := L1.more sA
  have x1 := x0.keep M1 hfresh
  have mE := nE.keep L1 (apart_left XAB)
  have mI := nI.keep L1 (apart_left XAC)
  have mC := (show (Fd.b b.code).Has w0 base (.slice a4 b.code.length c4) from ⟨_, _, rfl, nC⟩).keep L1 (apart_left XAD _ (by simp))
  have K1 := K0.trans M1
  clear H1 q0 nN nE nI nC hg1 L1 M1 x0 K0
  have H2 := markExportsM base a2 b.ex.length c2 lE b.ex (1 + b.name.length) w1 mE hBp EX (by omega) (by omega)
  rw [Int.natCast_add] at H2
  obtain ⟨_, q0, _, _, _⟩ := x1.facts
  simp only at q0
  go_wp2_with fail
  refine H2.mono ?_
  rintro e w2 ⟨lE2, rfl, nE, eqE, L2⟩
  have M2 := L2.more sB
  have x2 := x1.keep M2 hfresh
  have nN := (show (Fd.b (marks 1 b.name.length)).Has w1 base (.slice a1 b.name.length c1) from ⟨_, _, by rw [marks_length], by rw [marks_length]; exact mN⟩).keep L2 (apart_right XAB _ (by simp))
  have nI := mI.keep L2 (apart_left XBC)
  have nC := mC.keep L2 (apart_left XBD _ (by simp))
  have K2 := K1.trans M2
  clear H2 q0 mN mE mI mC L2 M2 x1 K1
  have H3 := markImportsM base a3 b.im.length c3 lI b.im (1 + b.name.length + wsum b.ex) w2 nI hCp IM (by omega) (by omega)
  obtain ⟨_, _, q0, _, _⟩ := x2.facts
  simp only at q0
  go_wp2_with fail
  refine H3.mono ?_
  rintro e w3 ⟨lI2, rfl, mI, eqI, L3⟩
  have M3 := L3.more sC
  have x3 := x2.keep M3 hfresh
  have mN := nN.keep L3 (apart_right XAC _ (by simp))
  have mE := nE.keep L3 (by rw [eqE]; exact apart_right XBC)
  have mC := nC.keep L3 (apart_left XCD _ (by simp))
  have K3 := K2.trans M3
  clear H3 q0 nN nE nI nC L3 M3 x2 K2
  obtain ⟨_, _, ec, oC⟩ := mC
  simp only [Value.slice.injEq, true_and] at ec
  obtain ⟨rfl, rfl⟩ := ec
  have H4 := markM base (.slice a4 b.code.length c4) b.code.length b.code ((1 + b.name.length + wsum b.ex + wsum b.im : Nat) : Int) w3 oC (by omega) (by omega) (by omega)
  rw [Int.toNat_natCast] at H4
  obtain ⟨_, _, _, _, q0⟩ := x3.facts
  simp only at q0
  go_wp2_with fail
  refine H4.mono ?_
  rintro e w4 ⟨rfl, nC, hg4⟩
  have L4 := KeepO.of (os := [(Value.slice a4 b.code.length c4).ownBlock]) hg4 (by simp)
  have M4 := L4.more sD
  have nN := mN.keep L4 (apart_right XAD _ (by simp))
  have nE := mE.keep L4 (by rw [eqE]; exact apart_right XBD)
  have nI := mI.keep L4 (by rw [eqI]; exact apart_right XCD)
  have K4 := K3.trans M4
  clear H4 q0 mN mE mI oC L4 M4 x3 K3 hg4
  have FO : OOwn w4 base ⟨.slice a1 b.name.length c1, .slice a2 b.ex.length c2, .slice a3 b.im.length c3, .int .i64 b.data, .slice a4 b.code.length c4⟩ (markOb 1 b) lE2 lI2 := by
    refine ⟨nN, ?_, ?_, rfl, ⟨a4, c4, by simp only [markOb, marks_length], by simp only [markOb, marks_length]; exact nC⟩, ?_⟩
    · simp only [markOb, markL_len]; exact nE
    · simp only [markOb, markL_len]; exact nI
    · rw [eqE, eqI]; exact hBK.mono K4.size
  go_wp2_with fail
  go_ret
  exact ⟨lE2, lI2, ret_int (by omega), FO, K4⟩
end Go.Proofs.Ythfknedokkccaaa

/- The tokens of a text, one behind the other: the iterator's contract. -/
import Derived.Test.YtajnfknldofjlaaGreatDoorPsKind
import Derived.RangeFuncOwn
import Derived.RangeFuncNested
import Derived.RangeFuncBound
import Derived.RangeFuncCalls
import Derived.RangeFuncLeaves
import Derived.Shelf.Abstract
import Derived.Shelf.RegionOpen
import Derived.WalkKit
import Derived.OwnWalkIn
import Derived.TacticsInMore
import Derived.LoopNIn
import Derived.LoopIn
import Derived.Scope
import Derived.Sort.CutIn
namespace Go.Proofs.YtajnfknldofjlaaGreatDoor
open Go.RowKit Go.Shelf
set_option linter.unusedVariables false
set_option linter.unusedSimpArgs false
set_option maxRecDepth 100000
attribute [local go_sem] Oper.semAt_some

/-- Nothing below n0 changes, and no slice of bytes that lies in a cell. -/
structure Kl (n0 : Nat) (W W' : World) : Prop where
  os : W'.os = W.os
  tape : W'.tape = W.tape
  output : W'.output = W.output
  size : W.heap.size ≤ W'.heap.size
  low : ∀ k, k < n0 → W'.heap[k]? = W.heap[k]?
  own : ∀ (k : Nat) (c : Array Value) (T : TypeId) (f : Nat × Nat), W.heap[k]? = some (Obj.cells c T f) → T = 22 → W'.heap[k]? = W.heap[k]?
theorem Kl.trans {n0 : Nat} {A B C : World} (h : Kl n0 A B) (k : Kl n0 B C) : Kl n0 A C :=
  ⟨k.os.trans h.os, k.tape.trans h.tape, k.output.trans h.output, Nat.le_trans h.size k.size, fun i hi => (k.low i hi).trans (h.low i hi), fun i c T f hc hT => (k.own i c T f ((h.own i c T f hc hT).trans hc) hT).trans (h.own i c T f hc hT)⟩
theorem Kl.grown {n0 : Nat} {A B : World} (h : A.grownBy B none) (hn : n0 ≤ A.heap.size) : Kl n0 A B :=
  ⟨h.os, h.tape, h.output, h.size, fun k hk => h.block k (by omega) (by simp), fun k c T f hc _ => h.block k (Array.getElem?_eq_some_iff.1 hc).1 (by simp)⟩
theorem Kl.below {n0 : Nat} {w0 W W' : World} (hb : Below w0.heap.size w0 W) (h : Kl n0 W W') (h0 : w0.heap.size ≤ n0) : Below w0.heap.size w0 W' :=
  ⟨h.os.trans hb.os, h.tape.trans hb.tape, h.output.trans hb.output, Nat.le_trans hb.size h.size, fun k hk => (h.low k (by omega)).trans (hb.block k hk)⟩
theorem Kl.blk {n0 : Nat} {W W' : World} {g : Nat} {vs : List Value} (h : Kl n0 W W') (hb : Blk W g 22 vs) : Blk W' g 22 vs := (h.own g _ _ _ hb rfl).trans hb

def Tok.enc (x : Tok) : Array Value := #[.agg #[.int .i64 x.kind, .string (strOfNums x.text), .int .i64 x.pos]]
def lexAll (l : List Int) : List Tok := lexP (l.length + 1) l 0

/-- What is known of the yield ly. -/
structure Yt (ly n0 N : Nat) (J Jx : List Tok → World → Prop) : Prop where
  hJ : ∀ s A C, J s A → A.grownBy C none → J s C
  hY : ∀ m pre x W, J pre W → pre.length < N → YieldAt Fence.wide m Tryz.prog ly (Tok.enc x) W fun e W' => (e = .returned (.bool true) ∧ J (pre ++ [x]) W' ∧ Kl n0 W W') ∨ (e = .returned (.bool false) ∧ Jx (pre ++ [x]) W')

/-- Where the iterator stands: at the place i, xs told so far. -/
structure Sl (w0 : World) (n0 gB : Nat) (bv : Value) (J : List Tok → World → Prop) (l : List Int) (i : Nat) (W : World) : Prop where
  ex : ∃ xs f, l.length - i < f ∧ xs ++ lexP f (l.drop i) i = lexAll l ∧ J xs W
  b : Below w0.heap.size w0 W
  box : Blk W gB 22 [bv]
  sz : n0 ≤ W.heap.size
theorem Sl.step {w0 W W' : World} {n0 gB : Nat} {bv : Value} {J : List Tok → World → Prop} {l : List Int} {i : Nat} (h : Sl w0 n0 gB bv J l i W) (hJ : ∀ s A C, J s A → A.grownBy C none → J s C) (hg : W.grownBy W' none) : Sl w0 n0 gB bv J l i W' := by
  obtain ⟨xs, f, hf, e, hj⟩ := h.ex
  exact ⟨⟨xs, f, hf, e, hJ _ _ _ hj hg⟩, h.b.trans ((below_grown hg).mono h.b.size), h.box.below (below_grown hg) h.box.lt, Nat.le_trans h.sz hg.size⟩

theorem drop_cons {l : List Int} {i : Nat} (h : i < l.length) : l.drop i = l[i]?.getD 0 :: l.drop (i + 1) := by
  rw [List.drop_eq_getElem_cons h, List.getElem?_eq_getElem h]; rfl
theorem lex_blank {l : List Int} {i f : Nat} (h : i < l.length) (hb : l[i]?.getD 0 = 32 ∨ l[i]?.getD 0 = 10) : lexP (f + 1) (l.drop i) i = lexP f (l.drop (i + 1)) (i + 1) := by
  rw [drop_cons h]
  simp only [lexP]
  rw [if_pos hb]
theorem lex_tok {l : List Int} {i f : Nat} (h : i < l.length) (hb : ¬ (l[i]?.getD 0 = 32 ∨ l[i]?.getD 0 = 10)) :
    lexP (f + 1) (l.drop i) i = ⟨tokKind ((l.drop i).take (tokSize (l.drop i))), (l.drop i).take (tokSize (l.drop i)), i⟩ :: lexP f (l.drop (i + tokSize (l.drop i))) (i + tokSize (l.drop i)) := by
  have e := drop_cons h
  rw [← List.drop_drop]
  generalize l.drop i = d at *
  subst e
  simp only [lexP]
  rw [if_neg hb]
theorem lex_end (f : Nat) (i : Nat) : lexP f [] i = [] := by cases f <;> simp [lexP]
theorem tokSize_pos (l : List Int) : 1 ≤ tokSize l := by unfold tokSize; split <;> (try split) <;> omega
theorem hasP_len {l : List Int} (h : Lib.hasPrefix (Lib.bytesOf l) (Lib.bytesOf [58, 61]) = true) : 2 ≤ l.length := by
  match l, h with
  | [], h => revert h; decide
  | [x], h => simp [Lib.hasPrefix, Lib.bytesOf] at h
  | x :: y :: r, _ => simp
theorem tokSize_le {l : List Int} (h : 0 < l.length) : tokSize l ≤ l.length := by
  unfold tokSize
  split
  · have := pieceLen_le l.tail; rw [List.length_tail] at this; omega
  · split
    · rename_i h2; exact hasP_len h2
    · omega

theorem below_none {W W' : World} (h : Below W.heap.size W W') : W.grownBy W' none := ⟨h.os, h.tape, h.output, h.size, fun k hk _ => h.block k hk⟩

set_option maxHeartbeats 8000000 in
theorem tokensSeq (w0 w : World) (m n0 gB : Nat) (l : List Int) (a : Option Addr) (n c : Nat) (hR : BRow w0 a n l) (hn2 : n ≤ 3000) (hnc : n ≤ c) (hcm : c ≤ 9223372036854775807) (ht : TabsR w0) (hb : Below w0.heap.size w0 w) (h0 : w0.heap.size ≤ n0) (hn0 : n0 ≤ w.heap.size) (hgB : Blk w gB 22 [.slice a n c]) :
    SeqStopsK Fence.wide m Tryz.prog 44 #[.pointer (some ⟨gB, 0, none⟩)] (fun x : Tok => x.enc) (Kl n0) (fun xs => xs = lexAll l) (fun xs => xs <+: lexAll l) (lexAll l).length w := by
  intro ly J Jx W hW hJ hJx hY hI
  have hyi : Hid (Yt ly n0 (lexAll l).length J Jx) := ⟨fun s A C h hg => hJ s A C none h hg (fun r e => by cases e), fun m' pre x W1 h1 h2 => by
      obtain ⟨fn, tmps, assign, bdy, hy, hR⟩ := hY pre x W1 h1 h2
      exact ⟨fn, tmps, assign, bdy, hy, hR.1, fun c cs _ => hR.2 c cs (room_wide _)⟩⟩
  have hl : l.length = n := hR.1
  have S0 : Hid (Sl w0 n0 gB (.slice a n c) J l 0 W) := ⟨⟨[], l.length + 1, by omega, rfl, hI⟩, hb.trans (hW.mono hb.size), hgB.below hW hgB.lt, Nat.le_trans hn0 hW.size⟩
  have HN : Hid (l.length = n) := hl
  have HR : Hid (BRow w0 a n l) := hR
  have HT : Hid (TabsR w0) := ht
  clear hY hI hJ hJx hb hR hgB hW hn0 ht hl
  refine (callsIn_wide (n := m)).2 ((callsIn_wide (n := 0)).1 ?_)
  refine callsIn_of_wp Tryz.func44 rfl trivial ?_ rfl
  simp only [Tryz.ntmps44, List.size_toArray, List.length_cons, List.length_nil, Nat.reduceAdd, Nat.reduceSub, Array.replicate_succ, Array.replicate_zero, List.push_toArray, List.append_toArray, List.nil_append, List.cons_append]
  gi_wp2_with fail
  gi_loopw [3, 4] (fun i _ wr => ∃ j : Nat, j ≤ n ∧ i = .int .i64 j ∧ Hid (Sl w0 n0 gB (.slice a n c) J l j wr)) (fun i _ _ => n - (intOf i).toNat)
  case atStart => exact ⟨0, Nat.zero_le _, rfl, S0⟩
  case round =>
    obtain ⟨j, hj, rfl, hst⟩ := hrel
    clear S0
    have st := hst.out
    clear hst
    have cB := st.box.cell (i := 0) rfl
    by_cases hlt : j < n
    · have hj' : (j : Int) < (n : Int) := by omega
      obtain ⟨b, off, rfl, hd⟩ := HR.out.2.2 (by omega)
      have hx := cell_on (hd j hlt) st.b
      by_cases hbl : l[j]?.getD 0 = 32 ∨ l[j]?.getD 0 = 10
      · have H9 : Hid (Sl w0 n0 gB (.slice (some ⟨b, off, none⟩) n c) J l (j + 1) wr) := by
          obtain ⟨xs, f, hf, e, hj9⟩ := st.ex
          obtain ⟨f', rfl⟩ : ∃ f', f = f' + 1 := ⟨f - 1, by omega⟩
          refine ⟨⟨xs, f', by rw [HN.out] at hf ⊢; omega, ?_, hj9⟩, st.b, st.box, st.sz⟩
          rw [← lex_blank (by rw [HN.out]; exact hlt) hbl]
          exact e
        generalize l[j]?.getD 0 = x at *
        clear hd st
        rcases hbl with rfl | rfl
        · gi_wp2_with fail
          go_roundw
          case rel => exact ⟨j + 1, by omega, by go_num, H9⟩
          case measure => simp [intOf]; omega
        · gi_wp2_with fail
          go_roundw
          case rel => exact ⟨j + 1, by omega, by go_num, H9⟩
          case measure => simp [intOf]; omega
      · have hx32 : ¬ l[j]?.getD 0 = 32 := fun h => hbl (.inl h)
        have hx10 : ¬ l[j]?.getD 0 = 10 := fun h => hbl (.inr h)
        have hxb := byte_at HR.out.2.1 j
        have HBL : Hid (¬ (l[j]?.getD 0 = 32 ∨ l[j]?.getD 0 = 10)) := hbl
        generalize hxx : l[j]?.getD 0 = x at hx32 hx10 hxb hx
        have e32 : (x == 32) = false := by simpa using hx32
        have e10 : (x == 10) = false := by simpa using hx10
        have bD : Below wr.heap.size wr wr.drew := (Below.refl _ _).drew
        have st1 := st.step hyi.out.hJ (below_none bD)
        have cB1 : wr.drew.cell? ⟨gB, 0, none⟩ = some (.slice (some ⟨b, off, none⟩) n c) := cB
        gi_upto_region 4 with fail
        clear st cB hx hxx hbl hx32 hx10 hxb bD e32 e10
        refine wpIn_wide.2 ?_
        refine wp_region_held_drew (S := fun wl => wl.cell? ⟨gB, 0, none⟩ = some (.slice (some ⟨b, off, none⟩) n c)) (by kernel_rfl) cB1 (fun hHeld => ?_)
        generalize wr.drew = w1 at *
        have z0 : (0 : Int) ≤ (j : Int) := by omega
        have z1 : (j : Int) ≤ (n : Int) := by omega
        have z2 : (n : Int) ≤ (c : Int) := by omega
        have z3 : ¬ c = j := by omega
        refine tk (i := 0) (v := ?v501) rfl (by kernel_rfl) (.inl ⟨by rfl, ?y501⟩) hHeld (fun _ _ _ h => h) ?_
        case y501 => intro w hSw; (try dsimp only at hSw); go_simp; first | done | rfl
        refine tk (i := 1) (v := ?v502) rfl (by kernel_rfl) (.inl ⟨by rfl, ?y502⟩) hHeld (fun _ _ _ h => h) ?_
        case y502 => intro w hSw; (try dsimp only at hSw); go_simp; first | done | rfl
        refine tk (i := 2) (v := ?v503) rfl (by kernel_rfl) (.inl ⟨by rfl, ?y503⟩) hHeld (fun _ _ _ h => h) ?_
        case y503 => intro w hSw; (try dsimp only at hSw); go_simp; first | done | rfl
        try simp only [nrm]
        refine tk (i := 3) (v := ?v504) rfl (by kernel_rfl) (.inl ⟨by rfl, ?y504⟩) hHeld (fun _ _ _ h => h) ?_
        case y504 => intro w hSw; (try dsimp only at hSw); go_simp; first | done | rfl
        refine tk (i := 4) (v := ?v505) rfl (by kernel_rfl) (.inl ⟨by rfl, ?y505⟩) hHeld (fun _ _ _ h => h) ?_
        case y505 => intro w hSw; (try dsimp only at hSw); go_simp; first | done | rfl
        refine tk (i := 5) (v := ?v506) rfl (by kernel_rfl) (.inl ⟨by rfl, ?y506⟩) hHeld (fun _ _ _ h => h) ?_
        case y506 => intro w hSw; (try dsimp only at hSw); go_simp; first | done | rfl
        try simp only [nrm]
        have hlj : (l.drop j).length = n - j := by rw [List.length_drop, HN.out]
        have hbd : ∀ y ∈ l.drop j, 0 ≤ y ∧ y ≤ 255 := fun y hy => HR.out.2.1 y (List.mem_of_mem_drop hy)
        have hcd : ∀ (W1 : World), Below w0.heap.size w0 W1 → ∀ i, i < n - j → W1.cell? ⟨b, off + j + i, none⟩ = some (.int .u8 ((l.drop j)[i]?.getD 0)) := by
          intro W1 hb1 i hi
          rw [show off + j + i = off + (j + i) by omega, List.getElem?_drop]
          exact cell_on (hd (j + i) (by omega)) hb1
        have HC := tokSizeC b (off + j) (n - j) (c - j) (l.drop j) w1 hlj (by omega) (by omega) (by omega) (by omega) hbd (hcd w1 st1.b)
        obtain ⟨q, hq⟩ : ∃ q, q = tokSize (l.drop j) := ⟨_, rfl⟩
        have hq1 : 1 ≤ q := by rw [hq]; exact tokSize_pos _
        have hq2 : q ≤ n - j := by rw [hq, ← hlj]; exact tokSize_le (by omega)
        rw [← hq] at HC
        have HQ : Hid (q = tokSize (l.drop j)) := hq
        clear hq
        refine wpAnyH_ready (rs := [6]) (by kernel_rfl) (by simp) ?_
        refine AllReadyH.cons (i := 6) (o := ?o507) ?i507 (fun K hK => ?_) AllReadyH.nil
        case i507 => exact rfl
        go_simp
        refine HC.mono ?_
        rintro e w2 ⟨rfl, hb2⟩
        have st2 := st1.step hyi.out.hJ (below_none hb2)
        have hS2 : w2.cell? ⟨gB, 0, none⟩ = some (.slice (some ⟨b, off, none⟩) n c) := cell_on cB1 hb2
        go_wp2_with fail
        refine hK.out _ _ (hS2) (fun hHeld => ?_)
        clear hK K
        try simp only [nrm]
        obtain ⟨p, hp⟩ : ∃ p, p = j + q := ⟨_, rfl⟩
        have hw : IntKind.i64.wrap ((j : Int) + (q : Int)) = (p : Int) := by rw [IntKind.wrap_i64]; omega
        have z4 : j ≤ p := by omega
        have z5 : (p : Int) ≤ (c : Int) := by omega
        have z6 : (0 : Int) ≤ (p : Int) := by omega
        have hpq : p - j = q := by omega
        have HP : Hid (p = j + q) := hp
        clear hp
        refine tk (i := 7) (v := ?v508) rfl (by kernel_rfl) (.inl ⟨by rfl, ?y508⟩) hHeld (fun _ _ _ h => h) ?_
        case y508 => intro w hSw; (try dsimp only at hSw); go_simp; first | done | rfl
        refine tk (i := 8) (v := ?v509) rfl (by kernel_rfl) (.inl ⟨by rfl, ?y509⟩) hHeld (fun _ _ _ h => h) ?_
        case y509 => intro w hSw; (try dsimp only at hSw); go_simp; first | done | rfl
        try simp only [nrm]
        have hrow : BRow w2 (some ⟨b, off + j, none⟩) q ((l.drop j).take q) := by
          refine ⟨by rw [List.length_take, hlj]; omega, fun y hy => hbd y (List.mem_of_mem_take hy), fun _ => ⟨b, off + j, rfl, fun i hi => ?_⟩⟩
          rw [hcd w2 st2.b i (by omega), List.getElem?_take, if_pos hi]
        have kc := conv_bytes (c - j) hrow
        refine wpAnyH_ready (rs := [9]) (by kernel_rfl) (by simp) ?_
        refine AllReadyH.cons (i := 9) (o := ?o510) ?i510 (fun K hK => ?_) AllReadyH.nil
        case i510 => exact rfl
        go_simp
        refine hK.out _ _ (hS2) (fun hHeld => ?_)
        clear hK K
        try simp only [nrm]
        refine tk (i := 10) (v := ?v511) rfl (by kernel_rfl) (.inl ⟨by rfl, ?y511⟩) hHeld (fun _ _ _ h => h) ?_
        case y511 => intro w hSw; (try dsimp only at hSw); go_simp; first | done | rfl
        try simp only [nrm]
        refine wpAnyH_done (by kernel_rfl) ?_ _
        generalize hT9 : (l.drop j).take q = t9 at *
        have HT9 : Hid ((l.drop j).take q = t9) := hT9
        have hb9 : ∀ y ∈ t9, 0 ≤ y ∧ y ≤ 255 := hrow.2.1
        have hl9 : t9.length = q := hrow.1
        have HK9 := tokKindC t9 hb9 (by omega) w2 (HT.out.below st2.b)
        have hsz9 := str_size t9
        clear hT9 kc hrow hcd hd hS2 hb2 HC hHeld cB1 st1 hbd
        gi_wp2_with (refine ⟨trivial, rfl, ?_⟩; gi_at_call 46; refine (callsIn_wide.2 HK9).mono ?_; rintro e w3 ⟨rfl, hb3⟩)
        have st3 := st2.step hyi.out.hJ (below_none hb3)
        have HNB : Hid (¬ (l[j]?.getD 0 = 32 ∨ l[j]?.getD 0 = 10)) := HBL.out
        obtain ⟨xs, f, hf, he, hJxs⟩ := st3.ex
        obtain ⟨f', rfl⟩ : ∃ f', f = f' + 1 := ⟨f - 1, by omega⟩
        rw [lex_tok (by rw [HN.out]; exact hlt) HNB.out, ← HQ.out, HT9.out, ← HP.out] at he
        have hlx : xs.length < (lexAll l).length := by rw [← he]; simp
        have HY := hyi.out.hY 0 xs ⟨tokKind t9, t9, j⟩ w3 hJxs hlx
        simp only [Tok.enc] at HY
        obtain ⟨fn, tmps, assign, bdy, hyl, hR⟩ := HY
        have HT3 : Hid (∀ W3, J (xs ++ [⟨tokKind t9, t9, j⟩]) W3 → Kl n0 w3 W3 → Sl w0 n0 gB (.slice (some ⟨b, off, none⟩) n c) J l p W3) := by
          intro W3 hJ3 hk3
          refine ⟨⟨xs ++ [⟨tokKind t9, t9, j⟩], f', ?_, ?_, hJ3⟩, Kl.below st3.b hk3 h0, hk3.blk st3.box, Nat.le_trans st3.sz hk3.size⟩
          · rw [HN.out] at hf ⊢; have := HP.out; omega
          · rw [List.append_assoc]; exact he
        have HF3 : Hid (∀ W3, Jx (xs ++ [⟨tokKind t9, t9, j⟩]) W3 → ∃ pre, pre <+: lexAll l ∧ Jx pre W3) := by
          intro W3 hJ3
          refine ⟨_, ?_, hJ3⟩
          rw [← he]
          exact ⟨lexP f' (l.drop p) p, by rw [List.append_assoc]; rfl⟩
        have hw9 : IntKind.i64.wrap ((j : Int) + (q : Int)) = (p : Int) := hw
        clear hJxs he hlx st3 st2 hb3 HK9 hb9 hf HNB
        rw [hyl, Oper.uponIn_round]
        refine ⟨fun h => (by cases h), ?_⟩
        refine hR.mono ?_
        rintro e w4 (⟨rfl, hJ3, hk3⟩ | ⟨rfl, hJx3⟩)
        · have H9 : Hid _ := HT3.out w4 hJ3 hk3
          clear HT3 HF3 hR hyl hJ3 hk3
          gi_wp2_with fail
          go_roundw
          case rel => exact ⟨p, by omega, rfl, H9⟩
          case measure => simp [intOf]; omega
        · have H9 : Hid _ := HF3.out w4 hJx3
          clear HT3 HF3 hR hyl hJx3
          gi_wp2_with fail
          exact bodyPost_ret (results_none rfl _ _ _) rfl ⟨⟨_, rfl⟩, .inr H9.out⟩
    · have : n = j := by omega
      subst this
      have H9 : Hid (∃ xs, xs = lexAll l ∧ J xs wr) := by
        obtain ⟨xs, f, hf, e, hj9⟩ := st.ex
        rw [List.drop_eq_nil_of_le (by rw [HN.out]; exact Nat.le_refl _), lex_end, List.append_nil] at e
        exact ⟨xs, e, hj9⟩
      clear st
      gi_wp2_with fail
      exact bodyPost_end (results_none rfl _ _ _) rfl ⟨⟨_, rfl⟩, .inl H9.out⟩
end Go.Proofs.YtajnfknldofjlaaGreatDoor

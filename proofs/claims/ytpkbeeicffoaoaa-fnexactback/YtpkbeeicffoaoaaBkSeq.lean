/- The actions of a result, one behind the other: the iterator's contract. By mkbkseq.py. -/
import Derived.Test.YtpkbeeicffoaoaaBkIter
namespace Go.Proofs.Ytpkbeeicffoaoaa
open Go.RowKit Go.Shelf
set_option linter.unusedVariables false
set_option linter.unusedSimpArgs false
set_option maxRecDepth 100000
attribute [local go_sem] Oper.semAt_some

/-- An action as it is handed over. -/
structure AcR where
  ac : Ac
  a : Option Addr
  n : Nat
  c : Nat
def AcR.v (x : AcR) : Value := .slice x.a x.n x.c
/-- Its arguments lie in a block of their own, made since. -/
def AcR.Xp (x : AcR) (W0 W1 : World) : Prop := Pc W1 89 2 W0.heap.size W1.heap.size (.slice x.a x.n x.c) x.ac.args.length (flatG x.ac.args)
def AcR.enc (x : AcR) : Value := .agg #[.int .i64 x.ac.kind, .int .i64 x.ac.to, .int .i64 x.ac.proc, .slice x.a x.n x.c, .int .i64 x.ac.n]

theorem actionsOfC (vs : List Value) (h11 : ∃ v0 v1 v2 v3 v4 v5 v6 v7 v8 v9 v10, vs = [v0, v1, v2, v3, v4, v5, v6, v7, v8, v9, v10]) (a : Option Addr) (n c : Nat) (w : World) :
    Calls Try.prog 24 #[.agg vs.toArray, .slice a n c] w fun e w' => e = .returned (.func (.func 37) #[] #[.pointer (some ⟨w.heap.size, 0, none⟩), .pointer (some ⟨w.heap.size + 1, 0, none⟩)]) ∧ w' = (w.alloc (.cells vs.toArray 35 (0, 0))).alloc (.cells #[.slice a n c] 27 (0, 0)) := by
  obtain ⟨v0, v1, v2, v3, v4, v5, v6, v7, v8, v9, v10, rfl⟩ := h11
  have hmf : ∀ (fn : Fn) (first cap : Array Value) (w : World), (Instr.makeFunc fn first cap).run Try.prog w = .ok (.func fn first cap) w := fun _ _ _ _ => rfl
  simp only [List.toArray]
  go_enter Try.func24, Try.ntmps24
  go_wp2_with fail
  go_ret
  exact ⟨rfl, rfl⟩

/-- Where the actions stand. -/
structure As (x : Rs) (l : List Bool) {w0 : World} (J : List AcR → World → Prop) (gR gW gY ly : Nat) (rv : List Value) (aw : Option Addr) (nw cw : Nat) (pre : List (EvR w0)) (W : World) : Prop where
  ex : ∃ ys : List AcR, ys.map AcR.ac = (pre.map EvR.ev).filterMap evA ∧ ys.length ≤ pre.length ∧ J ys W
  bR : Blk W gR 35 rv
  bw : Blk W gW 27 [.slice aw nw cw]
  bY : Blk W gY 77 [.func (.yield ly) #[] #[]]
  b : Below w0.heap.size w0 W
theorem As.own {x : Rs} {l : List Bool} {w0 A C : World} {J : List AcR → World → Prop} {gR gW gY ly B : Nat} {rv : List Value} {aw : Option Addr} {nw cw : Nat} {pre : List (EvR w0)} {row : Option Nat} (h : As x l J gR gW gY ly rv aw nw cw pre A) (hJ : OwnFrom B J) (hB : w0.heap.size ≤ B) (hg : A.grownBy C row) (hr : ∀ r, row = some r → B ≤ r ∧ ∃ o : Obj, A.heap[r]? = some o ∧ o.isCells = false) : As x l J gR gW gY ly rv aw nw cw pre C := by
  obtain ⟨ys, h1, h2, h3⟩ := h.ex
  exact ⟨⟨ys, h1, h2, hJ _ _ _ _ h3 hg hr⟩, blk_own h.bR hg (fun r e => (hr r e).2), blk_own h.bw hg (fun r e => (hr r e).2), blk_own h.bY hg (fun r e => (hr r e).2), h.b.grown hg h.b.size (fun k hk => Nat.le_trans hB (hr k hk).1)⟩
theorem As.grown {x : Rs} {l : List Bool} {w0 A C : World} {J : List AcR → World → Prop} {gR gW gY ly B : Nat} {rv : List Value} {aw : Option Addr} {nw cw : Nat} {pre : List (EvR w0)} (h : As x l J gR gW gY ly rv aw nw cw pre A) (hJ : OwnFrom B J) (hB : w0.heap.size ≤ B) (hg : Below A.heap.size A C) : As x l J gR gW gY ly rv aw nw cw pre C := h.own hJ hB (grown_below hg none) (fun r e => by cases e)
theorem fm_snoc (pre : List Ev) (e : Ev) : (pre ++ [e]).filterMap evA = pre.filterMap evA ++ (evA e).toList := by
  rw [List.filterMap_append]
  cases h : evA e <;> simp [h]
theorem fm_pre {a b : List Ev} (h : a <+: b) : a.filterMap evA <+: b.filterMap evA := by
  obtain ⟨c, rfl⟩ := h
  rw [List.filterMap_append]
  exact List.prefix_append _ _

set_option maxHeartbeats 8000000 in
theorem actionsSeq (w0 w : World) (gR gW : Nat) (x : Rs) (l : List Bool) (a6 : Option Addr) (n6 c6 : Nat) (a7 : Option Addr) (n7 c7 : Nat) (a8 : Option Addr) (n8 c8 : Nat) (a9 : Option Addr) (n9 c9 : Nat) (a10 : Option Addr) (n10 c10 : Nat) (aw : Option Addr) (nw cw : Nat)
    (hV : RdVals w0 x.fl [.int .i64 x.fin, .int .i64 x.code, .int .i64 x.who, .int .i64 x.mod, .int .i64 x.low, .int .i64 x.steps, .slice a6 n6 c6, .slice a7 n7 c7, .slice a8 n8 c8, .slice a9 n9 c9, .slice a10 n10 c10]) (hL : LRow w0 a6 c6 6 (x.ev.map Ev.fl)) (hn : x.ev.length = n6) (hag : ∀ e ∈ x.ev, e.args.length ≤ 1048576) (hLw : LRow w0 aw cw 1 (tfs l)) (hnw : l.length = nw) (hw1 : 1 ≤ nw) (hw8 : nw ≤ 8) (hb : Below w0.heap.size w0 w)
    (hgR : Blk w gR 35 [.int .i64 x.fin, .int .i64 x.code, .int .i64 x.who, .int .i64 x.mod, .int .i64 x.low, .int .i64 x.steps, .slice a6 n6 c6, .slice a7 n7 c7, .slice a8 n8 c8, .slice a9 n9 c9, .slice a10 n10 c10]) (hgW : Blk w gW 27 [.slice aw nw cw]) :
    SeqO Try.prog 37 #[.pointer (some ⟨gR, 0, none⟩), .pointer (some ⟨gW, 0, none⟩)] (fun y : AcR => #[y.enc]) AcR.Xp (Ke w0.heap.size) (fun ys => ys.map AcR.ac = backA x l) (fun ys => ys.map AcR.ac <+: backA x l) (n6 + 1) w := by
  intro ly J Jx W hW hJ hJx hY hI
  have HY : Hid (∀ pre y W0 W1, J pre W0 → Below W0.heap.size W0 W1 → AcR.Xp y W0 W1 → pre.length < n6 + 1 → YieldAt Fence.wide 0 Try.prog ly #[AcR.enc y] W1 fun e W' => KeepsFrom W.heap.size W1 W' ∧ ((e = .returned (.bool true) ∧ J (pre ++ [y]) W' ∧ Ke w0.heap.size W1 W') ∨ (e = .returned (.bool false) ∧ Jx (pre ++ [y]) W'))) := hY
  have HLW : Hid (LRow w0 aw cw 1 (tfs l)) := hLw
  have HNW : Hid (l.length = nw) := hnw
  have HV : Hid (RdVals w0 x.fl [.int .i64 x.fin, .int .i64 x.code, .int .i64 x.who, .int .i64 x.mod, .int .i64 x.low, .int .i64 x.steps, .slice a6 n6 c6, .slice a7 n7 c7, .slice a8 n8 c8, .slice a9 n9 c9, .slice a10 n10 c10]) := hV
  have HBA : Hid (backA x l = (x.ev.filter fun e => wildAt l e.fr).filterMap evA ++ (lastO x l).toList) := by show _ = _; unfold backA actsOf; rw [lastA_eq]
  have xR := (blk_below hgR hW).old (o := .cells #[.func (.yield ly) #[] #[]] 77 (0, 0))
  have xW := (blk_below hgW hW).old (o := .cells #[.func (.yield ly) #[] #[]] 77 (0, 0))
  have xY := Blk.new W 77 [.func (.yield ly) #[] #[]]
  have y1 : Below W.heap.size W (W.alloc (.cells #[.func (.yield ly) #[] #[]] 77 (0, 0))) := (Below.refl _ _).alloc (Nat.le_refl _) _
  have hbW := hb.trans (hW.mono hb.size)
  have hb1 := hbW.trans (y1.mono hbW.size)
  have J1 := OwnFrom.grown hJ hI (grown_below y1 none)
  have hs1 : (W.alloc (.cells #[.func (.yield ly) #[] #[]] 77 (0, 0))).heap.size = W.heap.size + 1 := by simp
  simp only [List.toArray] at xR xW xY
  clear hY hI hgR hgW
  refine callsIn_wide (n := 0) |>.1 ?_
  refine callsIn_of_wp_marks Try.func37 rfl trivial ?_ rfl
  simp only [Try.ntmps37, List.size_toArray, List.length_cons, List.length_nil, Nat.reduceAdd, Nat.reduceSub, Array.replicate_succ, Array.replicate_zero, List.push_toArray, List.append_toArray, List.nil_append, List.cons_append]
  gi_wp2_with fail
  generalize (W.alloc (.cells #[.func (.yield ly) #[] #[]] 77 (0, 0))) = W1 at *
  obtain ⟨gY, hgY⟩ : ∃ z, z = W.heap.size := ⟨_, rfl⟩
  rw [← hgY] at xY
  first | rw [← hgY] | skip
  have hgY1 : gY ≤ W.heap.size := by omega
  have hs1' : W.heap.size + 1 ≤ W1.heap.size ∧ W1.heap.size ≤ W.heap.size + 1 := by omega
  clear hgY hs1
  have hS0 : (W1.drew.cell? ⟨gR, 6, none⟩ = some (.slice a6 n6 c6) ∧ W1.drew.cell? ⟨gW, 0, none⟩ = some (.slice aw nw cw)) := ⟨xR.cell (i := 6) rfl, xW.cell (i := 0) rfl⟩
  have yd : Below W1.heap.size W1 W1.drew := (Below.refl _ _).drew
  rename_i Q1 K1 hK1 K hK
  refine wpIn_mono (?_ : Code.wpIn _ _ _ _ (Exit.then K (fun _ _ _ => False)) _ _) (fun e a w h => by cases e <;> first | exact h | exact h.elim)
  refine wpIn_wide.2 ?_
  refine wp_region_held_drew (S := fun wl => wl.cell? ⟨gR, 6, none⟩ = some (.slice a6 n6 c6) ∧ wl.cell? ⟨gW, 0, none⟩ = some (.slice aw nw cw)) (by kernel_rfl) hS0 (fun hHeld => ?_)
  refine wpAnyH_take (i := 0) (v := ?v501) rfl (by kernel_rfl) (by kernel_rfl) (by kernel_rfl) (fun _ _ _ h => h) (.inl ⟨by rfl, ?y501⟩) hHeld ?_
  case y501 => intro w hSw; (try dsimp only at hSw); go_simp; first | done | rfl
  refine wpAnyH_take (i := 1) (v := ?v502) rfl (by kernel_rfl) (by kernel_rfl) (by kernel_rfl) (fun _ _ _ h => h) (.inl ⟨by rfl, ?y502⟩) hHeld ?_
  case y502 => intro w hSw; (try dsimp only at hSw); go_simp; first | done | rfl
  refine wpAnyH_take (i := 3) (v := ?v503) rfl (by kernel_rfl) (by kernel_rfl) (by kernel_rfl) (fun _ _ _ h => h) (.inl ⟨by rfl, ?y503⟩) hHeld ?_
  case y503 => intro w hSw; (try dsimp only at hSw); go_simp; first | done | rfl
  try simp only [Act.put, List.getElem_toArray, List.getElem_cons_zero, List.getElem_cons_succ, List.setIfInBounds_toArray, List.set_cons_zero, List.set_cons_succ]
  have HC1 := valuesC a6 n6 c6 W1.drew
  refine wpAnyH_ready (rs := [2]) (by kernel_rfl) (by simp) ?_
  refine AllReadyH.cons (i := 2) (o := ?o504) ?i504 (fun K hK => ?_) AllReadyH.nil
  case i504 => exact rfl
  go_simp
  (with_reducible refine HC1.mono ?_)
  rintro e wa ⟨rfl, hwa⟩
  have x1 : Blk wa W1.heap.size 32 [.slice a6 n6 c6] := by rw [hwa]; exact Blk.new W1.drew _ _
  have ya : Below W1.drew.heap.size W1.drew wa := by rw [hwa]; exact (Below.refl _ _).alloc (Nat.le_refl _) _
  have sa : wa.heap.size = W1.heap.size + 1 := by rw [hwa]; simp
  have Ya : Below W1.heap.size W1 wa := yd.trans ya
  have hSa : (wa.cell? ⟨gR, 6, none⟩ = some (.slice a6 n6 c6) ∧ wa.cell? ⟨gW, 0, none⟩ = some (.slice aw nw cw)) := ⟨(blk_below xR Ya).cell (i := 6) rfl, (blk_below xW Ya).cell (i := 0) rfl⟩
  clear hwa
  go_wp2_with fail
  refine hK.out _ _ (hSa) (fun hHeld => ?_)
  clear hK K
  try simp only [Act.put, List.getElem_toArray, List.getElem_cons_zero, List.getElem_cons_succ, List.setIfInBounds_toArray, List.set_cons_zero, List.set_cons_succ]
  have HC2 := eventsFromC (.func 49) #[] #[.pointer (some ⟨W1.heap.size, 0, none⟩)] aw nw cw wa
  rw [sa] at HC2
  refine wpAnyH_ready (rs := [4]) (by kernel_rfl) (by simp) ?_
  refine AllReadyH.cons (i := 4) (o := ?o505) ?i505 (fun K hK => ?_) AllReadyH.nil
  case i505 => exact rfl
  go_simp
  (with_reducible refine HC2.mono ?_)
  rintro e wb ⟨rfl, hwb⟩
  have x1b : Blk wb W1.heap.size 32 [.slice a6 n6 c6] := by rw [hwb]; exact x1.old.old
  have x2b : Blk wb (W1.heap.size + 1) 79 [.func (.func 49) #[] #[.pointer (some ⟨W1.heap.size, 0, none⟩)]] := by rw [hwb, ← sa]; exact (Blk.new wa _ _).old
  have x3b : Blk wb (W1.heap.size + 1 + 1) 27 [.slice aw nw cw] := by
    rw [hwb]
    have := Blk.new (wa.alloc (.cells #[.func (.func 49) #[] #[.pointer (some ⟨W1.heap.size, 0, none⟩)]] 79 (0, 0))) 27 [.slice aw nw cw]
    rw [World.size_alloc, sa] at this
    exact this
  have yb : Below wa.heap.size wa wb := by rw [hwb]; exact ((Below.refl _ _).alloc (Nat.le_refl _) _).alloc (by simp) _
  have Yb : Below W1.heap.size W1 wb := Ya.trans (yb.mono Ya.size)
  have hSb : (wb.cell? ⟨gR, 6, none⟩ = some (.slice a6 n6 c6) ∧ wb.cell? ⟨gW, 0, none⟩ = some (.slice aw nw cw)) := ⟨(blk_below xR Yb).cell (i := 6) rfl, (blk_below xW Yb).cell (i := 0) rfl⟩
  clear hwb
  go_wp2_with fail
  refine hK.out _ _ (hSb) (fun hHeld => ?_)
  clear hK K
  try simp only [Act.put, List.getElem_toArray, List.getElem_cons_zero, List.getElem_cons_succ, List.setIfInBounds_toArray, List.set_cons_zero, List.set_cons_succ]
  refine wpAnyH_done (by kernel_rfl) ?_ _
  have hsY := hbW.size
  have sb := Yb.size
  have JB := OwnFrom.grown hJ J1 (grown_below Yb none)
  have xRb := blk_below xR Yb
  have xWb := blk_below xW Yb
  have xYb := blk_below xY Yb
  have hbb := hb1.trans (Yb.mono hb1.size)
  clear hHeld hSa hSb hS0 HC1 HC2 ya yb Ya x1 xR xW xY yd
  generalize hg1 : W1.heap.size = g1 at *
  obtain ⟨g2, hg2⟩ : ∃ z, z = g1 + 1 := ⟨_, rfl⟩
  obtain ⟨g3, hg3⟩ : ∃ z, z = g1 + 1 + 1 := ⟨_, rfl⟩
  rw [← hg3] at x3b
  rw [← hg2] at x2b
  first | rw [← hg3] | skip
  first | rw [← hg2] | skip
  clear hg2 hg3
  refine hK _ _ ?_
  clear hK
  gi_wp2_with fail
  refine rangeO (gf := 47) (lb := #[.pointer (some ⟨g2, 0, none⟩), .pointer (some ⟨g3, 0, none⟩)]) rfl (enters_of Try.func47 (by kernel_rfl) rfl)
    (eventsSeq w0 wb g2 g1 g3 x.ev l a6 n6 c6 aw nw cw hL hn hag hLw hnw (by omega) hbb x2b x1b x3b) (Below.refl _ _) Ke.trans (Ke.obj (w := wb) hbb.size) (fun _ => rfl)
    (fun pre W' => As x l J gR gW gY ly [.int .i64 x.fin, .int .i64 x.code, .int .i64 x.who, .int .i64 x.mod, .int .i64 x.low, .int .i64 x.steps, .slice a6 n6 c6, .slice a7 n7 c7, .slice a8 n8 c8, .slice a9 n9 c9, .slice a10 n10 c10] aw nw cw pre W')
    (fun cd pre W' => cd = .ret ∧ ∃ ys : List AcR, ys.map AcR.ac = (pre.map EvR.ev).filterMap evA ∧ Jx ys W')
    (fun s A C row hs hg hr => hs.own (OwnFrom.up hJ (by omega)) hbb.size hg hr)
    (fun cd s A C row hs hg hr => by obtain ⟨h1, ys, h2, h3⟩ := hs; exact ⟨h1, ys, h2, OwnFrom.up hJx (by omega) _ _ _ _ h3 hg hr⟩)
    ⟨⟨[], rfl, Nat.le_refl _, JB⟩, xRb, xWb, xYb, hbb⟩
    (fun pre y a' W' => ∃ Bx, Blk W' Bx 50 y.vals ∧ As x l J gR gW gY ly [.int .i64 x.fin, .int .i64 x.code, .int .i64 x.who, .int .i64 x.mod, .int .i64 x.low, .int .i64 x.steps, .slice a6 n6 c6, .slice a7 n7 c7, .slice a8 n8 c8, .slice a9 n9 c9, .slice a10 n10 c10] aw nw cw pre W' ∧ a' = { tmps := #[.func (.yield ly) #[] #[], .pointer (some ⟨gR, 0, none⟩), .pointer (some ⟨gW, 0, none⟩), .pointer (some ⟨gY, 0, none⟩), .pointer (some ⟨Bx, 0, none⟩), undef, undef, undef, undef, .pointer (some ⟨gR, 6, none⟩), .slice a6 n6 c6, .func (.func 49) #[] #[.pointer (some ⟨g1, 0, none⟩)], .slice aw nw cw, .func (.func 47) #[] #[.pointer (some ⟨g2, 0, none⟩), .pointer (some ⟨g3, 0, none⟩)], y.enc, undef, undef, undef, undef, undef, undef, undef, undef, undef, undef, undef, undef, undef, undef, undef, undef, undef, undef, undef, undef, undef, undef], defers := [] })
    (fun pre y a' _ A C row hs hg hr => by obtain ⟨Bx, h2, h3, h4⟩ := hs; exact ⟨Bx, blk_own h2 hg (fun r e => (hr r e).2), h3.own (OwnFrom.up hJ (by omega)) hbb.size hg hr, h4⟩)
    ?assign ?body ?done ?stop
  case assign =>
    rintro l' pre y X0 X K hI0 hX0 _ hK
    have HK : Hid (∀ a' W', KeepsFrom wb.heap.size X W' → Ke w0.heap.size X W' → (∃ Bx, Blk W' Bx 50 y.vals ∧ As x l J gR gW gY ly [.int .i64 x.fin, .int .i64 x.code, .int .i64 x.who, .int .i64 x.mod, .int .i64 x.low, .int .i64 x.steps, .slice a6 n6 c6, .slice a7 n7 c7, .slice a8 n8 c8, .slice a9 n9 c9, .slice a10 n10 c10] aw nw cw pre W' ∧ a' = { tmps := #[.func (.yield ly) #[] #[], .pointer (some ⟨gR, 0, none⟩), .pointer (some ⟨gW, 0, none⟩), .pointer (some ⟨gY, 0, none⟩), .pointer (some ⟨Bx, 0, none⟩), undef, undef, undef, undef, .pointer (some ⟨gR, 6, none⟩), .slice a6 n6 c6, .func (.func 49) #[] #[.pointer (some ⟨g1, 0, none⟩)], .slice aw nw cw, .func (.func 47) #[] #[.pointer (some ⟨g2, 0, none⟩), .pointer (some ⟨g3, 0, none⟩)], y.enc, undef, undef, undef, undef, undef, undef, undef, undef, undef, undef, undef, undef, undef, undef, undef, undef, undef, undef, undef, undef, undef, undef], defers := [] }) → K a' W') := hK
    have hIX := hI0.grown hJ (by omega) hX0
    have yE : Below X.heap.size X (X.alloc (.cells #[.int .i64 y.ev.kind, .int .i64 y.ev.fr, .int .i64 y.ev.to, .int .i64 y.ev.proc, .slice y.ag y.ev.args.length y.cg, .int .i64 y.ev.n] 50 (0, 0))) := (Below.refl _ _).alloc (Nat.le_refl _) _
    have HF : Hid _ := And.intro (hIX.grown hJ (by omega) yE) (Ke.below yE hIX.b.size)
    clear hK hI0 hIX yE hX0
    simp only [EvR.enc]
    gi_wp2_with fail
    exact HK.out _ _ ((KeepsOthers.alloc _ _).from _) HF.out.2 ⟨X.heap.size, Blk.new X 50 y.vals, HF.out.1, rfl⟩
  case body => 
    rintro l' pre y a' X hl ⟨Bx, bX, hI, rfl⟩ hlt
    have HA := actionC y.ev y.ag y.ev.args.length y.cg X (LRow.below y.row hI.b) rfl y.few
    have q0 := bX.cell (i := 0) rfl
    have q1 := bX.cell (i := 1) rfl
    have q2 := bX.cell (i := 2) rfl
    have q3 := bX.cell (i := 3) rfl
    have q4 := bX.cell (i := 4) rfl
    have q5 := bX.cell (i := 5) rfl
    have hXb := hI.b.size
    gi_wp2_with fail
    refine ⟨trivial, rfl, ?_⟩
    gi_at_call 40
    refine (CallsIn.inRound l' (callsIn_wide.2 HA)).mono ?_
    rintro e w1 ⟨hbA, aa, na, ca, r, bb, rfl, hp, ho⟩
    simp only [Ac.enc]
    have xA := Blk.new w1 53 [.int .i64 r.kind, .int .i64 r.to, .int .i64 r.proc, .slice aa na ca, .int .i64 r.n]
    have yA : Below w1.heap.size w1 (w1.alloc (.cells #[.int .i64 r.kind, .int .i64 r.to, .int .i64 r.proc, .slice aa na ca, .int .i64 r.n] 53 (0, 0))) := (Below.refl _ _).alloc (Nat.le_refl _) _
    have Y2 : Below X.heap.size X (w1.alloc (.cells #[.int .i64 r.kind, .int .i64 r.to, .int .i64 r.proc, .slice aa na ca, .int .i64 r.n] 53 (0, 0))) := hbA.trans (yA.mono hbA.size)
    have hp2 : Pc (w1.alloc (.cells #[.int .i64 r.kind, .int .i64 r.to, .int .i64 r.proc, .slice aa na ca, .int .i64 r.n] 53 (0, 0))) 89 2 X.heap.size (w1.alloc (.cells #[.int .i64 r.kind, .int .i64 r.to, .int .i64 r.proc, .slice aa na ca, .int .i64 r.n] 53 (0, 0))).heap.size (.slice aa na ca) r.args.length (flatG r.args) := (hp.stays (fun g _ h2 _ => yA.block g h2)).wide (Nat.le_refl _) yA.size
    simp only [List.toArray] at xA
    clear HA q0 q1 q2 q3 q4 q5 bX hp yA hbA
    gi_upto_region 4 with fail
    generalize w1.alloc (.cells #[.int .i64 r.kind, .int .i64 r.to, .int .i64 r.proc, .slice aa na ca, .int .i64 r.n] 53 (0, 0)) = w2 at *
    generalize w1.heap.size = gP at *
    have KF : KeepsFrom wb.heap.size X w2 := KeepsFrom.below (n := 0) Y2
    have KE : Ke w0.heap.size X w2 := Ke.below Y2 hXb
    have I2 := hI.grown hJ (by omega) Y2
    obtain ⟨ys, h1, h2, h3⟩ := hI.ex
    cases bb
    · have HF : Hid (As x l J gR gW gY ly [.int .i64 x.fin, .int .i64 x.code, .int .i64 x.who, .int .i64 x.mod, .int .i64 x.low, .int .i64 x.steps, .slice a6 n6 c6, .slice a7 n7 c7, .slice a8 n8 c8, .slice a9 n9 c9, .slice a10 n10 c10] aw nw cw (pre ++ [y]) w2) := ⟨⟨ys, by rw [List.map_append, List.map_singleton, fm_snoc, ho, h1]; simp, by simp; omega, OwnFrom.grown hJ h3 (grown_below Y2 none)⟩, I2.bR, I2.bw, I2.bY, I2.b⟩
      have HKF : Hid _ := And.intro KF KE
      clear hI I2 h1 h2 h3 ho KF KE hp2 xA Y2
      gi_wp2_with fail
      refine ⟨fun _ h => (by cases h), ?_⟩
      gi_wp2_with fail
      exact ⟨HKF.out.1, HKF.out.2, HF.out⟩
    · obtain ⟨fn, tmps, assign, bdy, hyl, hR⟩ := HY.out ys ⟨r, aa, na, ca⟩ X w2 h3 Y2 hp2 (by omega)
      have HT : Hid (∀ X3, J (ys ++ [⟨r, aa, na, ca⟩]) X3 → Ke w0.heap.size w2 X3 → As x l J gR gW gY ly [.int .i64 x.fin, .int .i64 x.code, .int .i64 x.who, .int .i64 x.mod, .int .i64 x.low, .int .i64 x.steps, .slice a6 n6 c6, .slice a7 n7 c7, .slice a8 n8 c8, .slice a9 n9 c9, .slice a10 n10 c10] aw nw cw (pre ++ [y]) X3) := by
        intro X3 hj hk
        exact ⟨⟨_, by rw [List.map_append, List.map_append, List.map_singleton, List.map_singleton, fm_snoc, ho, h1]; simp, by simp; omega, hj⟩, hk.blk I2.bR (by decide) (by decide), hk.blk I2.bw (by decide) (by decide), hk.blk I2.bY (by decide) (by decide), hk.on I2.b (Nat.le_refl _)⟩
      have HU : Hid (∀ X3, Jx (ys ++ [⟨r, aa, na, ca⟩]) X3 → ∃ zs : List AcR, zs.map AcR.ac = ((pre ++ [y]).map EvR.ev).filterMap evA ∧ Jx zs X3) := by
        intro X3 hj
        exact ⟨_, by rw [List.map_append, List.map_append, List.map_singleton, List.map_singleton, fm_snoc, ho, h1]; simp, hj⟩
      have HKF : Hid _ := And.intro KF KE
      have hsz : W.heap.size ≤ wb.heap.size := by omega
      have cY := I2.bY.cell (i := 0) rfl
      have t0 := xA.cell (i := 0) rfl
      have t1 := xA.cell (i := 1) rfl
      have t2 := xA.cell (i := 2) rfl
      have t3 := xA.cell (i := 3) rfl
      have t4 := xA.cell (i := 4) rfl
      simp only [AcR.enc] at hyl hR
      clear hI I2 h1 h2 h3 ho KF KE hp2 xA Y2
      gi_wp2_with (refine ⟨rfl, ?_⟩; refine hR.mono ?_; rintro e X3 ⟨hk0, (⟨rfl, hJ3, hk3⟩ | ⟨rfl, hJx3⟩)⟩)
      · exact ⟨HKF.out.1.trans (KeepsFrom.up hk0 hsz), HKF.out.2.trans hk3, HT.out _ hJ3 hk3⟩
      · exact ⟨HKF.out.1.trans (KeepsFrom.up hk0 hsz), rfl, HU.out _ hJx3⟩
  case done => 
    rintro D zs X hD hS hI hK
    have HA := lastC x l [.int .i64 x.fin, .int .i64 x.code, .int .i64 x.who, .int .i64 x.mod, .int .i64 x.low, .int .i64 x.steps, .slice a6 n6 c6, .slice a7 n7 c7, .slice a8 n8 c8, .slice a9 n9 c9, .slice a10 n10 c10] aw nw cw X (RdVals.below HV.out hI.b) (LRow.below HLW.out hI.b) HNW.out hw1 hw8
    simp only [List.toArray] at HA
    have q0 := hI.bR.cell (i := 0) rfl
    have q1 := hI.bR.cell (i := 1) rfl
    have q2 := hI.bR.cell (i := 2) rfl
    have q3 := hI.bR.cell (i := 3) rfl
    have q4 := hI.bR.cell (i := 4) rfl
    have q5 := hI.bR.cell (i := 5) rfl
    have q6 := hI.bR.cell (i := 6) rfl
    have q7 := hI.bR.cell (i := 7) rfl
    have q8 := hI.bR.cell (i := 8) rfl
    have q9 := hI.bR.cell (i := 9) rfl
    have q10 := hI.bR.cell (i := 10) rfl
    have cW := hI.bw.cell (i := 0) rfl
    have hXb := hI.b.size
    gi_wp2_with fail
    refine ⟨trivial, rfl, ?_⟩
    gi_at_call 41
    refine (callsIn_wide.2 HA).mono ?_
    rintro e w1 ⟨hbA, aa, na, ca, r, bb, rfl, hp, ho⟩
    simp only [Ac.enc]
    have xA := Blk.new w1 53 [.int .i64 r.kind, .int .i64 r.to, .int .i64 r.proc, .slice aa na ca, .int .i64 r.n]
    have yA : Below w1.heap.size w1 (w1.alloc (.cells #[.int .i64 r.kind, .int .i64 r.to, .int .i64 r.proc, .slice aa na ca, .int .i64 r.n] 53 (0, 0))) := (Below.refl _ _).alloc (Nat.le_refl _) _
    have Y2 : Below X.heap.size X (w1.alloc (.cells #[.int .i64 r.kind, .int .i64 r.to, .int .i64 r.proc, .slice aa na ca, .int .i64 r.n] 53 (0, 0))) := hbA.trans (yA.mono hbA.size)
    have hp2 : Pc (w1.alloc (.cells #[.int .i64 r.kind, .int .i64 r.to, .int .i64 r.proc, .slice aa na ca, .int .i64 r.n] 53 (0, 0))) 89 2 X.heap.size (w1.alloc (.cells #[.int .i64 r.kind, .int .i64 r.to, .int .i64 r.proc, .slice aa na ca, .int .i64 r.n] 53 (0, 0))).heap.size (.slice aa na ca) r.args.length (flatG r.args) := (hp.stays (fun g _ h2 _ => yA.block g h2)).wide (Nat.le_refl _) yA.size
    simp only [List.toArray] at xA
    clear HA q0 q1 q2 q3 q4 q5 q6 q7 q8 q9 q10 cW hp yA hbA
    gi_upto_region 6 with fail
    generalize w1.alloc (.cells #[.int .i64 r.kind, .int .i64 r.to, .int .i64 r.proc, .slice aa na ca, .int .i64 r.n] 53 (0, 0)) = w2 at *
    generalize w1.heap.size = gP at *
    have I2 := hI.grown hJ (by omega) Y2
    obtain ⟨ys, h1, h2, h3⟩ := hI.ex
    have hK2 : w2.heap[D]? = some (.deferred (some [])) := (Y2.block D (Array.getElem?_eq_some_iff.1 hK).1).trans hK
    rw [hS] at h1
    have hzn : zs.length ≤ n6 := by
      have e1 : zs.length = (x.ev.filter fun e => wildAt l e.fr).length := by rw [← hS, List.length_map]
      have e2 := List.length_filter_le (fun e : Ev => wildAt l e.fr) x.ev
      omega
    cases bb
    · have HF : Hid (∃ zs : List AcR, zs.map AcR.ac = backA x l ∧ J zs (w2.putObj D (.deferred none))) := ⟨ys, by rw [h1, HBA.out, ho]; simp, OwnFrom.putObj hJ _ (OwnFrom.grown hJ h3 (grown_below Y2 none)) (by omega) hK2 rfl⟩
      clear hI I2 h1 h2 h3 ho hp2 xA Y2 hS
      gi_wp2_with fail
      refine ⟨by simp, .inl ⟨_, _, rfl, run_takeDeferred hK2, ?_⟩⟩
      exact ⟨_, results_none rfl _ _ _, ⟨_, rfl⟩, .inl HF.out⟩
    · obtain ⟨fn, tmps, assign, bdy, hyl, hR⟩ := HY.out ys ⟨r, aa, na, ca⟩ X w2 h3 Y2 hp2 (by omega)
      have HE : Hid ((ys ++ [(⟨r, aa, na, ca⟩ : AcR)]).map AcR.ac = backA x l) := by show _ = _; rw [List.map_append, h1, HBA.out, ho]; simp
      have cY := I2.bY.cell (i := 0) rfl
      have t0 := xA.cell (i := 0) rfl
      have t1 := xA.cell (i := 1) rfl
      have t2 := xA.cell (i := 2) rfl
      have t3 := xA.cell (i := 3) rfl
      have t4 := xA.cell (i := 4) rfl
      simp only [AcR.enc] at hyl hR
      clear hI I2 h1 h2 h3 ho hp2 xA Y2 hS
      gi_wp2_with (refine ⟨rfl, ?_⟩; refine hR.mono ?_; rintro e X3 ⟨hk0, (⟨rfl, hJ3, hk3⟩ | ⟨rfl, hJx3⟩)⟩)
      · have hK3 := hk0.same D _ (by omega) hK2 rfl
        refine ⟨by simp, .inl ⟨_, _, rfl, run_takeDeferred hK3, ?_⟩⟩
        exact ⟨_, results_none rfl _ _ _, ⟨_, rfl⟩, .inl ⟨_, HE.out, OwnFrom.putObj hJ _ hJ3 (by omega) hK3 rfl⟩⟩
      · have hK3 := hk0.same D _ (by omega) hK2 rfl
        refine ⟨by simp, .inl ⟨_, _, rfl, run_takeDeferred hK3, ?_⟩⟩
        exact ⟨_, results_none rfl _ _ _, ⟨_, rfl⟩, .inr ⟨_, by rw [HE.out]; exact List.prefix_refl _, OwnFrom.putObj hJx _ hJx3 (by omega) hK3 rfl⟩⟩
  case stop =>
    rintro D cd pre X hD hS ⟨rfl, ys, h1, h2⟩ hK
    have HF : Hid (∃ zs : List AcR, zs.map AcR.ac <+: backA x l ∧ Jx zs (X.putObj D (.deferred none))) := ⟨ys, by rw [h1, HBA.out]; exact (fm_pre hS).trans (List.prefix_append _ _), OwnFrom.putObj hJx _ h2 (by omega) hK rfl⟩
    gi_wp2_with fail
    refine ⟨by simp, .inl ⟨_, _, rfl, run_takeDeferred hK, ?_⟩⟩
    exact ⟨_, results_none rfl _ _ _, ⟨_, rfl⟩, .inr HF.out⟩
end Go.Proofs.Ytpkbeeicffoaoaa

/- Events, one behind the other, and those of some: the iterators' contracts. -/
import Derived.Test.YtpkbeeicffoaoaaBkAct
import Derived.Test.YtpkbeeicffoaoaaRf
import Derived.Scope
import Derived.Sort.CutIn
namespace Go.Proofs.Ytpkbeeicffoaoaa
open Go.RowKit Go.Shelf
set_option linter.unusedVariables false
set_option linter.unusedSimpArgs false
set_option maxRecDepth 100000
attribute [local go_sem] Oper.semAt_some

/-- Nothing below n0 changes, and no cells but actions and slices of them. -/
structure Ke (n0 : Nat) (W W' : World) : Prop where
  os : W'.os = W.os
  tape : W'.tape = W.tape
  output : W'.output = W.output
  size : W.heap.size ≤ W'.heap.size
  low : ∀ k, k < n0 → W'.heap[k]? = W.heap[k]?
  own : ∀ (k : Nat) (c : Array Value) (T : TypeId) (f : Nat × Nat), W.heap[k]? = some (Obj.cells c T f) → T ≠ 53 → T ≠ 29 → W'.heap[k]? = W.heap[k]?
theorem Ke.refl (n0 : Nat) (W : World) : Ke n0 W W := ⟨rfl, rfl, rfl, Nat.le_refl _, fun _ _ => rfl, fun _ _ _ _ _ _ _ => rfl⟩
theorem Ke.trans {n0 : Nat} {A B C : World} (h : Ke n0 A B) (k : Ke n0 B C) : Ke n0 A C :=
  ⟨k.os.trans h.os, k.tape.trans h.tape, k.output.trans h.output, Nat.le_trans h.size k.size, fun i hi => (k.low i hi).trans (h.low i hi), fun i c T f hc h1 h2 => (k.own i c T f ((h.own i c T f hc h1 h2).trans hc) h1 h2).trans (h.own i c T f hc h1 h2)⟩
theorem Ke.below {n0 : Nat} {A B : World} (h : Below A.heap.size A B) (hn : n0 ≤ A.heap.size) : Ke n0 A B :=
  ⟨h.os, h.tape, h.output, h.size, fun k hk => h.block k (by omega), fun k c T f hc _ _ => h.block k (Array.getElem?_eq_some_iff.1 hc).1⟩
theorem Ke.on {n0 : Nat} {w0 W W' : World} (h : Ke n0 W W') (hb : Below w0.heap.size w0 W) (h0 : w0.heap.size ≤ n0) : Below w0.heap.size w0 W' :=
  ⟨h.os.trans hb.os, h.tape.trans hb.tape, h.output.trans hb.output, Nat.le_trans hb.size h.size, fun k hk => (h.low k (by omega)).trans (hb.block k hk)⟩
theorem Ke.blk {n0 : Nat} {W W' : World} {g T : Nat} {vs : List Value} (h : Ke n0 W W') (hb : Blk W g T vs) (h1 : T ≠ 53) (h2 : T ≠ 29) : Blk W' g T vs := (h.own g _ T _ hb h1 h2).trans hb
theorem Ke.obj {n0 : Nat} {w : World} (hn : n0 ≤ w.heap.size) (W : World) (l : Nat) (o o' : Obj) (hl : w.heap.size ≤ l) (h : W.heap[l]? = some o) (hc : o.isCells = false) : Ke n0 W (W.putObj l o') := by
  have hg := grownBy_putObj' W l o'
  refine ⟨hg.os, hg.tape, hg.output, hg.size, fun k hk => ?_, fun k c T f hk _ _ => ?_⟩
  · have hl2 := (Array.getElem?_eq_some_iff.1 h).1
    exact hg.block k (by omega) (by simp; omega)
  · refine hg.block k (Array.getElem?_eq_some_iff.1 hk).1 (by
      simp only [ne_eq, Option.some.injEq]
      intro e
      subst e
      rw [hk] at h
      cases h
      cases hc)
theorem blk_own {A C : World} {row : Option Nat} {g : Nat} {T : TypeId} {vs : List Value} (h : Blk A g T vs) (hg : A.grownBy C row) (hr : ∀ r, row = some r → ∃ o : Obj, A.heap[r]? = some o ∧ o.isCells = false) : Blk C g T vs :=
  (hg.block g h.lt (fun e => by
    obtain ⟨o, ho, hc⟩ := hr g e.symm
    have h' : A.heap[g]? = _ := h
    rw [h'] at ho
    cases ho
    cases hc)).trans h

/-- An event as it is handed over. -/
structure EvR (w0 : World) where
  ev : Ev
  ag : Option Addr
  cg : Nat
  row : LRow w0 ag cg 2 (ev.args.map Ag.fl)
  few : ev.args.length ≤ 1048576
def EvR.vals {w0 : World} (x : EvR w0) : List Value := [.int .i64 x.ev.kind, .int .i64 x.ev.fr, .int .i64 x.ev.to, .int .i64 x.ev.proc, .slice x.ag x.ev.args.length x.cg, .int .i64 x.ev.n]
def EvR.enc {w0 : World} (x : EvR w0) : Value := .agg #[.int .i64 x.ev.kind, .int .i64 x.ev.fr, .int .i64 x.ev.to, .int .i64 x.ev.proc, .slice x.ag x.ev.args.length x.cg, .int .i64 x.ev.n]

theorem valuesC (a : Option Addr) (n c : Nat) (w : World) :
    Calls Try.prog 39 #[.slice a n c] w fun e w' => e = .returned (.func (.func 49) #[] #[.pointer (some ⟨w.heap.size, 0, none⟩)]) ∧ w' = w.alloc (.cells #[.slice a n c] 32 (0, 0)) := by
  have hmf : ∀ (fn : Fn) (first cap : Array Value) (w : World), (Instr.makeFunc fn first cap).run Try.prog w = .ok (.func fn first cap) w := fun _ _ _ _ => rfl
  go_enter Try.func39, Try.ntmps39
  go_wp2_with fail
  go_ret
  exact ⟨rfl, rfl⟩
theorem eventsFromC (fn : Fn) (fa fc : Array Value) (a : Option Addr) (n c : Nat) (w : World) :
    Calls Try.prog 38 #[.func fn fa fc, .slice a n c] w fun e w' => e = .returned (.func (.func 47) #[] #[.pointer (some ⟨w.heap.size, 0, none⟩), .pointer (some ⟨w.heap.size + 1, 0, none⟩)]) ∧ w' = (w.alloc (.cells #[.func fn fa fc] 79 (0, 0))).alloc (.cells #[.slice a n c] 27 (0, 0)) := by
  have hmf : ∀ (fn : Fn) (first cap : Array Value) (w : World), (Instr.makeFunc fn first cap).run Try.prog w = .ok (.func fn first cap) w := fun _ _ _ _ => rfl
  go_enter Try.func38, Try.ntmps38
  go_wp2_with fail
  go_ret
  exact ⟨rfl, rfl⟩

set_option maxHeartbeats 4000000 in
theorem valuesSeq (w0 w : World) (gB : Nat) (es : List Ev) (a : Option Addr) (n c : Nat) (hL : LRow w0 a c 6 (es.map Ev.fl)) (hn : es.length = n) (hag : ∀ e ∈ es, e.args.length ≤ 1048576) (hb : Below w0.heap.size w0 w) (hgB : Blk w gB 32 [.slice a n c]) :
    SeqO Try.prog 49 #[.pointer (some ⟨gB, 0, none⟩)] (fun x : EvR w0 => #[x.enc]) (fun _ _ _ => True) (Ke w0.heap.size) (fun xs => xs.map EvR.ev = es) (fun xs => xs.map EvR.ev <+: es) n w := by
  intro ly J Jx W hW hJ hJx hY hI
  have S0 : Hid (∃ xs : List (EvR w0), xs.map EvR.ev = es.take 0 ∧ J xs W ∧ Below w0.heap.size w0 W) := ⟨[], rfl, hI, hb.trans (hW.mono hb.size)⟩
  have cB := (hgB.below hW hgB.lt).cell (i := 0) rfl
  have hn9 := hL.len9
  rw [List.length_map, hn] at hn9
  have HN : Hid (es.length = n) := hn
  have HL : Hid (LRow w0 a c 6 (es.map Ev.fl)) := hL
  have HAG : Hid (∀ e ∈ es, e.args.length ≤ 1048576) := hag
  have HJ : Hid (∀ s X Y, J s X → X.grownBy Y none → J s Y) := fun s X Y hs hg => OwnFrom.grown hJ hs hg
  have HY : Hid (∀ pre x W1, J pre W1 → pre.length < n → YieldAt Fence.wide 0 Try.prog ly #[EvR.enc x] W1 fun e W' => KeepsFrom W.heap.size W1 W' ∧ ((e = .returned (.bool true) ∧ J (pre ++ [x]) W' ∧ Ke w0.heap.size W1 W') ∨ (e = .returned (.bool false) ∧ Jx (pre ++ [x]) W'))) := fun pre x W1 h1 h2 => hY pre x W1 W1 h1 (Below.refl _ _) trivial h2
  clear hY hI hJ hJx hb hn hL hgB hW hag
  refine callsIn_wide (n := 0) |>.1 ?_
  refine callsIn_of_wp Try.func49 rfl trivial ?_ rfl
  simp only [Try.ntmps49, List.size_toArray, List.length_cons, List.length_nil, Nat.reduceAdd, Nat.reduceSub, Array.replicate_succ, Array.replicate_zero, List.push_toArray, List.append_toArray, List.nil_append, List.cons_append]
  gi_wp2_with fail
  gi_loopw [4, 7] (fun _ i wr => ∃ j : Nat, j ≤ n ∧ i = .int .i64 j ∧ Hid (∃ xs : List (EvR w0), xs.map EvR.ev = es.take j ∧ J xs wr ∧ Below w0.heap.size w0 wr)) (fun _ i _ => n - (intOf i).toNat)
  case atStart => exact ⟨0, Nat.zero_le _, rfl, S0⟩
  case round =>
    obtain ⟨j, hj, rfl, hst⟩ := hrel
    clear S0 cB
    obtain ⟨xs, hxs, hJx0, hb⟩ := hst.out
    clear hst
    by_cases hlt : j < n
    · obtain ⟨b, off, rfl⟩ := LRow.addr HL.out (by rw [List.length_map, HN.out]; omega)
      obtain ⟨e, he⟩ : ∃ e, es[j]? = some e := ⟨_, List.getElem?_eq_getElem (by rw [HN.out]; exact hlt)⟩
      obtain ⟨ag, cg, hLg, z0, z1, z2, z3, z4, z5⟩ := evCells HL.out he
      replace z0 := cell_on z0 hb
      replace z1 := cell_on z1 hb
      replace z2 := cell_on z2 hb
      replace z3 := cell_on z3 hb
      replace z4 := cell_on z4 hb
      replace z5 := cell_on z5 hb
      obtain ⟨x, hxk, hxe⟩ : ∃ x : EvR w0, x.ev = e ∧ x.enc = .agg #[.int .i64 e.kind, .int .i64 e.fr, .int .i64 e.to, .int .i64 e.proc, .slice ag e.args.length cg, .int .i64 e.n] := ⟨⟨e, ag, cg, hLg, HAG.out e (List.mem_of_getElem? he)⟩, rfl, rfl⟩
      have HTK : Hid ((xs ++ [x]).map EvR.ev = es.take (j + 1)) := by
        show _ = _
        obtain ⟨hk, hx'⟩ := List.getElem?_eq_some_iff.1 he
        rw [List.map_append, hxs, List.map_singleton, hxk, List.take_succ_eq_append_getElem hk, hx']
      have hlx : xs.length < n := by
        have : xs.length = (es.take j).length := by rw [← hxs, List.length_map]
        rw [List.length_take, HN.out] at this
        omega
      have hj' : (j : Int) < (n : Int) := by omega
      generalize e.args.length = ng at *
      generalize e.kind = kd at *
      generalize e.fr = fr at *
      generalize e.to = tt at *
      generalize e.proc = pp at *
      generalize e.n = nn at *
      have yE := grown_alloc wr (.cells #[.int .i64 kd, .int .i64 fr, .int .i64 tt, .int .i64 pp, .slice ag ng cg, .int .i64 nn] 50 (0, 0)) none
      have xE := Blk.new wr 50 [.int .i64 kd, .int .i64 fr, .int .i64 tt, .int .i64 pp, .slice ag ng cg, .int .i64 nn]
      have J2 := HJ.out _ _ _ hJx0 yE
      have hb2 := hb.trans ((below_grown yE).mono hb.size)
      simp only [List.toArray] at xE
      clear hLg hxk he hJx0 yE hb
      gi_upto_region 3 with fail
      generalize wr.alloc (.cells #[.int .i64 kd, .int .i64 fr, .int .i64 tt, .int .i64 pp, .slice ag ng cg, .int .i64 nn] 50 (0, 0)) = w2 at *
      generalize wr.heap.size = gE at *
      clear z0 z1 z2 z3 z4 z5
      have q0 := xE.cell (i := 0) rfl
      have q1 := xE.cell (i := 1) rfl
      have q2 := xE.cell (i := 2) rfl
      have q3 := xE.cell (i := 3) rfl
      have q4 := xE.cell (i := 4) rfl
      have q5 := xE.cell (i := 5) rfl
      have HYx := HY.out xs x w2 J2 hlx
      rw [hxe] at HYx
      obtain ⟨fn, tmps, assign, bdy, hyl, hR⟩ := HYx
      have HB2 : Hid (Below w0.heap.size w0 w2) := hb2
      clear J2 hlx hxe hb2 xE hxs
      gi_wp2_with (refine ⟨rfl, ?_⟩; refine hR.mono ?_; rintro e w3 ⟨hk0, (⟨rfl, hJ3, hk3⟩ | ⟨rfl, hJx3⟩)⟩)
      · have H9 : Hid (∃ xs : List (EvR w0), xs.map EvR.ev = es.take (j + 1) ∧ J xs w3 ∧ Below w0.heap.size w0 w3) := ⟨_, HTK.out, hJ3, hk3.on HB2.out (Nat.le_refl _)⟩
        clear hR hyl hJ3 hk3 hk0 q0 q1 q2 q3 q4 q5 HTK HB2
        gi_wp2_with fail
        go_roundw
        case rel => exact ⟨j + 1, by omega, by go_num, H9⟩
        case measure => simp [intOf]; omega
      · have H9 : Hid (∃ pre : List (EvR w0), pre.map EvR.ev <+: es ∧ Jx pre w3) := ⟨_, by rw [HTK.out]; exact List.take_prefix _ _, hJx3⟩
        clear hR hyl hJx3 hk0 q0 q1 q2 q3 q4 q5 HTK HB2
        gi_wp2_with fail
        exact bodyPost_ret (results_none rfl _ _ _) rfl ⟨⟨_, rfl⟩, .inr H9.out⟩
    · have : n = j := by omega
      subst this
      rw [List.take_of_length_le (by rw [HN.out]; exact Nat.le_refl _)] at hxs
      have H9 : Hid (∃ xs : List (EvR w0), xs.map EvR.ev = es ∧ J xs wr) := ⟨xs, hxs, hJx0⟩
      clear hxs hJx0 hb
      gi_wp2_with fail
      exact bodyPost_end (results_none rfl _ _ _) rfl ⟨⟨_, rfl⟩, .inl H9.out⟩

theorem filter_pre {α : Type} {p : α → Bool} {a b : List α} (h : a <+: b) : a.filter p <+: b.filter p := by
  obtain ⟨c, rfl⟩ := h
  rw [List.filter_append]
  exact List.prefix_append _ _
theorem blk_below {w w' : World} {g T : Nat} {vs : List Value} (h : Blk w g T vs) (hb : Below w.heap.size w w') : Blk w' g T vs := h.below hb h.lt

/-- Where the events of some stand. -/
structure Ws {w0 : World} (l : List Bool) (J : List (EvR w0) → World → Prop) (gW gY ly : Nat) (aw : Option Addr) (nw cw : Nat) (pre : List (EvR w0)) (W : World) : Prop where
  ex : ∃ ys : List (EvR w0), ys.map EvR.ev = (pre.map EvR.ev).filter (fun e => wildAt l e.fr) ∧ ys.length ≤ pre.length ∧ J ys W
  bw : Blk W gW 27 [.slice aw nw cw]
  bY : Blk W gY 92 [.func (.yield ly) #[] #[]]
  b : Below w0.heap.size w0 W
theorem Ws.own {w0 A C : World} {l : List Bool} {J : List (EvR w0) → World → Prop} {gW gY ly B : Nat} {aw : Option Addr} {nw cw : Nat} {pre : List (EvR w0)} {row : Option Nat} (h : Ws l J gW gY ly aw nw cw pre A) (hJ : OwnFrom B J) (hB : w0.heap.size ≤ B) (hg : A.grownBy C row) (hr : ∀ r, row = some r → B ≤ r ∧ ∃ o : Obj, A.heap[r]? = some o ∧ o.isCells = false) : Ws l J gW gY ly aw nw cw pre C := by
  obtain ⟨ys, h1, h2, h3⟩ := h.ex
  exact ⟨⟨ys, h1, h2, hJ _ _ _ _ h3 hg hr⟩, blk_own h.bw hg (fun r e => (hr r e).2), blk_own h.bY hg (fun r e => (hr r e).2), h.b.grown hg h.b.size (fun k hk => Nat.le_trans hB (hr k hk).1)⟩
theorem Ws.grown {w0 A C : World} {l : List Bool} {J : List (EvR w0) → World → Prop} {gW gY ly B : Nat} {aw : Option Addr} {nw cw : Nat} {pre : List (EvR w0)} (h : Ws l J gW gY ly aw nw cw pre A) (hJ : OwnFrom B J) (hB : w0.heap.size ≤ B) (hg : Below A.heap.size A C) : Ws l J gW gY ly aw nw cw pre C := h.own hJ hB (grown_below hg none) (fun r e => by cases e)

set_option maxHeartbeats 8000000 in
theorem eventsSeq (w0 w : World) (gA gB gW : Nat) (es : List Ev) (l : List Bool) (a : Option Addr) (n c : Nat) (aw : Option Addr) (nw cw : Nat) (hL : LRow w0 a c 6 (es.map Ev.fl)) (hn : es.length = n) (hag : ∀ e ∈ es, e.args.length ≤ 1048576) (hLw : LRow w0 aw cw 1 (tfs l)) (hnw : l.length = nw) (hw9 : nw ≤ 1048576) (hb : Below w0.heap.size w0 w)
    (hgA : Blk w gA 79 [.func (.func 49) #[] #[.pointer (some ⟨gB, 0, none⟩)]]) (hgB : Blk w gB 32 [.slice a n c]) (hgW : Blk w gW 27 [.slice aw nw cw]) :
    SeqO Try.prog 47 #[.pointer (some ⟨gA, 0, none⟩), .pointer (some ⟨gW, 0, none⟩)] (fun x : EvR w0 => #[x.enc]) (fun _ _ _ => True) (Ke w0.heap.size) (fun xs => xs.map EvR.ev = es.filter fun e => wildAt l e.fr) (fun xs => xs.map EvR.ev <+: es.filter fun e => wildAt l e.fr) n w := by
  intro ly J Jx W hW hJ hJx hY hI
  have HY : Hid (∀ pre x W1, J pre W1 → pre.length < n → YieldAt Fence.wide 0 Try.prog ly #[EvR.enc x] W1 fun e W' => KeepsFrom W.heap.size W1 W' ∧ ((e = .returned (.bool true) ∧ J (pre ++ [x]) W' ∧ Ke w0.heap.size W1 W') ∨ (e = .returned (.bool false) ∧ Jx (pre ++ [x]) W'))) := fun pre x W1 h1 h2 => hY pre x W1 W1 h1 (Below.refl _ _) trivial h2
  have HLW : Hid (LRow w0 aw cw 1 (tfs l)) := hLw
  have HNW : Hid (l.length = nw) := hnw
  have xA := blk_below hgA hW
  have xB := (blk_below hgB hW).old (o := .cells #[.func (.yield ly) #[] #[]] 92 (0, 0))
  have xW := (blk_below hgW hW).old (o := .cells #[.func (.yield ly) #[] #[]] 92 (0, 0))
  have xY := Blk.new W 92 [.func (.yield ly) #[] #[]]
  have y1 : Below W.heap.size W (W.alloc (.cells #[.func (.yield ly) #[] #[]] 92 (0, 0))) := (Below.refl _ _).alloc (Nat.le_refl _) _
  have hbW := hb.trans (hW.mono hb.size)
  have hb1 := hbW.trans (y1.mono hbW.size)
  have J1 := OwnFrom.grown hJ hI (grown_below y1 none)
  have hsw : w0.heap.size ≤ W.heap.size := hbW.size
  have hs1 : (W.alloc (.cells #[.func (.yield ly) #[] #[]] 92 (0, 0))).heap.size = W.heap.size + 1 := by simp
  simp only [List.toArray] at xB xW xY
  clear hY hI hgA hgB hgW hLw hnw
  refine callsIn_wide (n := 0) |>.1 ?_
  refine callsIn_of_wp_marks Try.func47 rfl trivial ?_ rfl
  simp only [Try.ntmps47, List.size_toArray, List.length_cons, List.length_nil, Nat.reduceAdd, Nat.reduceSub, Array.replicate_succ, Array.replicate_zero, List.push_toArray, List.append_toArray, List.nil_append, List.cons_append]
  have cA := (xA.old (o := .cells #[.func (.yield ly) #[] #[]] 92 (0, 0))).cell (i := 0) rfl
  gi_wp2_with fail
  generalize W.alloc (.cells #[.func (.yield ly) #[] #[]] 92 (0, 0)) = W1 at *
  obtain ⟨gY, hgY⟩ : ∃ z, z = W.heap.size := ⟨_, rfl⟩
  rw [← hgY] at xY
  first | rw [← hgY] | skip
  have hgY1 : gY ≤ W.heap.size := by omega
  clear hgY
  refine rangeO (gf := 49) (lb := #[.pointer (some ⟨gB, 0, none⟩)]) rfl (enters_of Try.func49 (by kernel_rfl) rfl)
    (valuesSeq w0 W1 gB es a n c hL hn hag hb1 xB) (Below.refl _ _) Ke.trans (Ke.obj (w := W1) (by omega)) (fun _ => rfl)
    (fun pre W' => Ws l J gW gY ly aw nw cw pre W')
    (fun cd pre W' => cd = .ret ∧ ∃ ys : List (EvR w0), ys.map EvR.ev = (pre.map EvR.ev).filter (fun e => wildAt l e.fr) ∧ Jx ys W')
    (fun s A C row hs hg hr => hs.own (OwnFrom.up hJ (by omega)) (by omega) hg hr)
    (fun cd s A C row hs hg hr => by obtain ⟨h1, ys, h2, h3⟩ := hs; exact ⟨h1, ys, h2, OwnFrom.up hJx (by omega) _ _ _ _ h3 hg hr⟩)
    ⟨⟨[], rfl, Nat.le_refl _, J1⟩, xW, xY, hb1⟩
    (fun pre x a' W' => ∃ Bx, Blk W' Bx 50 x.vals ∧ Ws l J gW gY ly aw nw cw pre W' ∧ a' = { tmps := #[.func (.yield ly) #[] #[], .pointer (some ⟨gA, 0, none⟩), .pointer (some ⟨gW, 0, none⟩), .pointer (some ⟨gY, 0, none⟩), .pointer (some ⟨Bx, 0, none⟩), .func (.func 49) #[] #[.pointer (some ⟨gB, 0, none⟩)], x.enc, undef, undef, undef, undef, undef, undef, undef, undef, undef, undef], defers := [] })
    (fun pre x a' _ A C row hs hg hr => by obtain ⟨Bx, h2, h3, h4⟩ := hs; exact ⟨Bx, blk_own h2 hg (fun r e => (hr r e).2), h3.own (OwnFrom.up hJ (by omega)) (by omega) hg hr, h4⟩)
    ?assign ?body ?done ?stop
  case assign =>
    rintro l' pre x X0 X K hI0 hX0 _ hK
    have HK : Hid (∀ a' W', KeepsFrom W1.heap.size X W' → Ke w0.heap.size X W' → (∃ Bx, Blk W' Bx 50 x.vals ∧ Ws l J gW gY ly aw nw cw pre W' ∧ a' = { tmps := #[.func (.yield ly) #[] #[], .pointer (some ⟨gA, 0, none⟩), .pointer (some ⟨gW, 0, none⟩), .pointer (some ⟨gY, 0, none⟩), .pointer (some ⟨Bx, 0, none⟩), .func (.func 49) #[] #[.pointer (some ⟨gB, 0, none⟩)], x.enc, undef, undef, undef, undef, undef, undef, undef, undef, undef, undef], defers := [] }) → K a' W') := hK
    have hIX := hI0.grown hJ (by omega) hX0
    have yE : Below X.heap.size X (X.alloc (.cells #[.int .i64 x.ev.kind, .int .i64 x.ev.fr, .int .i64 x.ev.to, .int .i64 x.ev.proc, .slice x.ag x.ev.args.length x.cg, .int .i64 x.ev.n] 50 (0, 0))) := (Below.refl _ _).alloc (Nat.le_refl _) _
    have HF : Hid _ := And.intro (hIX.grown hJ (by omega) yE) (Ke.below yE hIX.b.size)
    clear hK hI0 hIX yE hX0
    simp only [EvR.enc]
    gi_wp2_with fail
    exact HK.out _ _ ((KeepsOthers.alloc _ _).from _) HF.out.2 ⟨X.heap.size, Blk.new X 50 x.vals, HF.out.1, rfl⟩
  case body =>
    rintro l' pre x a' X hl ⟨Bx, bX, hI, rfl⟩ hlt
    have HA := isAmongC l aw nw cw x.ev.fr X (LRow.below HLW.out hI.b) HNW.out (by omega)
    have cW := hI.bw.cell (i := 0) rfl
    have cY := hI.bY.cell (i := 0) rfl
    have q0 := bX.cell (i := 0) rfl
    have q1 := bX.cell (i := 1) rfl
    have q2 := bX.cell (i := 2) rfl
    have q3 := bX.cell (i := 3) rfl
    have q4 := bX.cell (i := 4) rfl
    have q5 := bX.cell (i := 5) rfl
    cases hw : wildAt l x.ev.fr
    · have HF : Hid (Ws l J gW gY ly aw nw cw (pre ++ [x]) X) := by
        obtain ⟨ys, h1, h2, h3⟩ := hI.ex
        exact ⟨⟨ys, by rw [List.map_append, List.filter_append, ← h1]; simp [hw], by simp; omega, h3⟩, hI.bw, hI.bY, hI.b⟩
      rw [hw] at HA
      clear hI bX hw hl hlt
      gi_wp2_with (refine ⟨trivial, rfl, ?_⟩; gi_at_call 48; refine (CallsIn.inRound l' (callsIn_wide.2 HA)).mono ?_; rintro e X ⟨rfl, rfl⟩)
      refine ⟨fun _ h => (by cases h), ?_⟩
      gi_wp2_with fail
      exact ⟨KeepsFrom.refl _ _, Ke.refl _ _, HF.out⟩
    · obtain ⟨ys, h1, h2, h3⟩ := hI.ex
      obtain ⟨fn, tmps, assign, bdy, hyl, hR⟩ := HY.out ys x X h3 (by omega)
      have HT : Hid (∀ X3, J (ys ++ [x]) X3 → Ke w0.heap.size X X3 → Ws l J gW gY ly aw nw cw (pre ++ [x]) X3) := by
        intro X3 hj hk
        exact ⟨⟨ys ++ [x], by rw [List.map_append, List.map_append, List.filter_append, ← h1]; simp [hw], by simp; omega, hj⟩, hk.blk hI.bw (by decide) (by decide), hk.blk hI.bY (by decide) (by decide), hk.on hI.b (Nat.le_refl _)⟩
      have HU : Hid (∀ X3, Jx (ys ++ [x]) X3 → ∃ zs : List (EvR w0), zs.map EvR.ev = ((pre ++ [x]).map EvR.ev).filter (fun e => wildAt l e.fr) ∧ Jx zs X3) := by
        intro X3 hj
        exact ⟨ys ++ [x], by rw [List.map_append, List.map_append, List.filter_append, ← h1]; simp [hw], hj⟩
      rw [hw] at HA
      have hsz : W.heap.size ≤ W1.heap.size := by omega
      simp only [EvR.enc] at hyl hR
      clear hI bX hw hl hlt h1 h2 h3
      gi_wp2_with (first
        | (refine ⟨trivial, rfl, ?_⟩; gi_at_call 48; refine (CallsIn.inRound l' (callsIn_wide.2 HA)).mono ?_; rintro e X ⟨rfl, rfl⟩)
        | (refine ⟨rfl, ?_⟩; refine hR.mono ?_; rintro e X3 ⟨hk0, (⟨rfl, hJ3, hk3⟩ | ⟨rfl, hJx3⟩)⟩))
      · exact ⟨KeepsFrom.up hk0 hsz, hk3, HT.out _ hJ3 hk3⟩
      · exact ⟨KeepsFrom.up hk0 hsz, rfl, HU.out _ hJx3⟩
  case done =>
    rintro D xs X hD hS hI hK
    have HF : Hid (∃ ys : List (EvR w0), ys.map EvR.ev = es.filter (fun e => wildAt l e.fr) ∧ J ys (X.putObj D (.deferred none))) := by
      obtain ⟨ys, h1, h2, h3⟩ := hI.ex
      exact ⟨ys, by rw [h1, hS], OwnFrom.putObj hJ _ h3 (by omega) hK rfl⟩
    gi_wp2_with fail
    refine ⟨by simp, .inl ⟨_, _, rfl, run_takeDeferred hK, ?_⟩⟩
    exact ⟨_, results_none rfl _ _ _, ⟨_, rfl⟩, .inl HF.out⟩
  case stop =>
    rintro D cd pre X hD hS ⟨rfl, ys, h1, h2⟩ hK
    have HF : Hid (∃ zs : List (EvR w0), zs.map EvR.ev <+: es.filter (fun e => wildAt l e.fr) ∧ Jx zs (X.putObj D (.deferred none))) := ⟨ys, by rw [h1]; exact filter_pre hS, OwnFrom.putObj hJx _ h2 (by omega) hK rfl⟩
    gi_wp2_with fail
    refine ⟨by simp, .inl ⟨_, _, rfl, run_takeDeferred hK, ?_⟩⟩
    exact ⟨_, results_none rfl _ _ _, ⟨_, rfl⟩, .inr HF.out⟩
end Go.Proofs.Ytpkbeeicffoaoaa

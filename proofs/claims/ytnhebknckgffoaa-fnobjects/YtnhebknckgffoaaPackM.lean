import Derived.Test.YtnhebknckgffoaaDrawWild
import Derived.Lib.SlBytesConst
import Derived.Test.YtnhebknckgffoaaSpoilLong
import Derived.Test.YtnhebknckgffoaaObjPutSpec
/- A drawn object, bent: still one that reads. -/
namespace Go.Proofs.Ytnhebknckgffoaa
open Go.RowKit
set_option linter.unusedVariables false
set_option linter.unusedSimpArgs false
set_option maxRecDepth 100000

/-- The first export. -/
theorem RL.first {w : World} {B c : Nat} {a : Option Addr} {l : List R3} {ds : List D3} (h : RL w 43 B (.slice a ds.length c) l ds) (hn : 1 ≤ ds.length) (hE : ∀ d ∈ ds, isE d ∧ d.len ≤ 80) :
    ∃ q ax nx cx p s xl dr lr, a = some ⟨q, 0, none⟩ ∧ B ≤ q ∧ w.cell? ⟨q, 0, none⟩ = some (.slice ax nx cx) ∧ w.cell? ⟨q, 1, none⟩ = some (.int .i64 p) ∧ w.cell? ⟨q, 2, none⟩ = some (.int .i64 s) ∧
      RT w ⟨.slice ax nx cx, .int .i64 p, .int .i64 s⟩ ⟨.b xl, .n p, .n s⟩ ∧ ds = ⟨.b xl, .n p, .n s⟩ :: dr ∧ l = ⟨.slice ax nx cx, .int .i64 p, .int .i64 s⟩ :: lr ∧ ∃ cur, w.heap[q]? = some (.cells cur 43 (0, 0)) := by
  cases ds with
  | nil => simp at hn
  | cons d0 dr =>
    cases l with
    | nil => have := h.len; simp at this
    | cons r0 lr =>
      obtain ⟨xl, p, s, rfl⟩ := (hE d0 (by simp)).1
      have hR := h.has 0 r0 ⟨.b xl, .n p, .n s⟩ rfl rfl
      obtain ⟨rx, ry, rz⟩ := r0
      obtain ⟨⟨ax, cx, ex, hx⟩, ey, ez⟩ := hR
      simp only at ex ey ez
      have ey' : ry = .int .i64 p := ey
      have ez' : rz = .int .i64 s := ez
      subst ex ey' ez'
      rcases h.row.2 with ⟨e, _⟩ | ⟨q, cap, cur, e, hq, hh, _⟩
      · simp at e
      · simp only [Value.slice.injEq, true_and] at e
        obtain ⟨rfl, rfl⟩ := e
        have c0 := h.row.cellAt 0 (by simp)
        have c1 := h.row.cellAt 1 (by simp; omega)
        have c2 := h.row.cellAt 2 (by simp; omega)
        exact ⟨q, ax, _, cx, p, s, xl, dr, lr, rfl, hq, c0, c1, c2, ⟨⟨ax, cx, rfl, hx⟩, rfl, rfl⟩, rfl, rfl, cur, hh⟩
/-- One int of the first export is set. -/
theorem RL.set1 {w : World} {B c q i : Nat} {l : List R3} {ds : List D3} {r r' : R3} {d d' : D3} {lr : List R3} {dr : List D3} {v : Value} (h : RL w 43 B (.slice (some ⟨q, 0, none⟩) ds.length c) l ds) (hl : l = r :: lr) (hd : ds = d :: dr)
    (hf : (flat3 (r :: lr)).set i v = flat3 (r' :: lr)) (hr : RT w r' d') (hT : NoB w q) : RL (w.setCell ⟨q, i, none⟩ v) 43 B (.slice (some ⟨q, 0, none⟩) ds.length c) (r' :: lr) (d' :: dr) := by
  subst hl hd
  have hs := (h.row.stored i v).1
  rw [hf] at hs
  refine ⟨hs, h.len, fun j r1 d1 h1 h2 => ?_⟩
  have kk := keep_set w q i v
  cases j with
  | zero =>
    simp only [List.getElem?_cons_zero, Option.some.injEq] at h1 h2
    subst h1 h2
    exact hr.keep kk (fun k hk => one_noB hT hk)
  | succ j =>
    rw [List.getElem?_cons_succ] at h1 h2
    exact (h.has (j + 1) r1 d1 (by rw [List.getElem?_cons_succ]; exact h1) (by rw [List.getElem?_cons_succ]; exact h2)).keep kk (fun k hk => one_noB hT hk)

structure BS (W wr : World) (g B gb gr : Nat) (o : O5) (b : Ob) (lE lI : List R3) : Prop where
  cur : Cur wr g
  bel : Below W.heap.size W wr
  box : B5 wr gb 26 o
  res : B5 wr gr 26 ⟨.slice none 0 0, .slice none 0 0, .slice none 0 0, .int .i64 0, .slice none 0 0⟩
  d : DOb wr B o b lE lI
  ne : W.heap.size ≤ g ∧ g < B ∧ B ≤ gb ∧ gb < gr
theorem BS.drawn {W wr w' : World} {g B gb gr : Nat} {o : O5} {b : Ob} {lE lI : List R3} (h : BS W wr g B gb gr o b lE lI) (hd : Drawn wr w' g) : BS W w' g B gb gr o b lE lI := by
  have := h.ne
  exact ⟨hd.1, Below.drawn h.bel hd.2 h.bel.size (by omega), B5.keep h.box hd.keepO (by simp; omega), B5.keep h.res hd.keepO (by simp; omega), h.d.keep hd.keepO (fun k hk => one_free h.cur.free hk), h.ne⟩
theorem BS.below {W wr w' : World} {g B gb gr : Nat} {o : O5} {b : Ob} {lE lI : List R3} (h : BS W wr g B gb gr o b lE lI) (hb : Below wr.heap.size wr w') : BS W w' g B gb gr o b lE lI := by
  have kk : KeepO [] wr w' := ⟨hb.os, hb.tape, hb.output, hb.size, fun g h1 _ => hb.block g h1⟩
  exact ⟨h.cur.kept (below_grows (row := none) hb) (by intro k hk; cases hk), h.bel.trans (hb.mono h.bel.size), B5.keep h.box kk (by simp), B5.keep h.res kk (by simp), h.d.keep kk (by intro k hk; simp at hk), h.ne⟩
theorem BS.alloc {W wr : World} {g B gb gr : Nat} {o : O5} {b : Ob} {lE lI : List R3} (h : BS W wr g B gb gr o b lE lI) (ob : Obj) : BS W (wr.alloc ob) g B gb gr o b lE lI := h.below ((Below.refl _ _).alloc (Nat.le_refl _) _)
/-- The same, but for what the object holds. -/
structure BS2 (W wr : World) (g B gb gr : Nat) (o : O5) : Prop where
  cur : Cur wr g
  bel : Below W.heap.size W wr
  box : B5 wr gb 26 o
  res : B5 wr gr 26 ⟨.slice none 0 0, .slice none 0 0, .slice none 0 0, .int .i64 0, .slice none 0 0⟩
  ne : W.heap.size ≤ g ∧ g < B ∧ B ≤ gb ∧ gb < gr
theorem BS.two {W wr : World} {g B gb gr : Nat} {o : O5} {b : Ob} {lE lI : List R3} (h : BS W wr g B gb gr o b lE lI) : BS2 W wr g B gb gr o := ⟨h.cur, h.bel, h.box, h.res, h.ne⟩
theorem BS.rest {W wr w' : World} {g B gb gr : Nat} {o : O5} {b : Ob} {lE lI : List R3} {q : Option Nat} (h : BS W wr g B gb gr o b lE lI) (hg : wr.grownBy w' q) (hq : ∀ k, q = some k → B ≤ k ∧ ∃ cur T, wr.heap[k]? = some (.cells cur T (0, 0)) ∧ T ≠ 26) : BS2 W w' g B gb gr o := by
  have := h.ne
  have kk : KeepO [q] wr w' := KeepO.of hg (by simp)
  have nb : ∀ (x : Nat) (o' : O5), B5 wr x 26 o' → some x ∉ [q] := by
    intro x o' hb hm
    have e : q = some x := (by have h0 : some x = q := (by simpa using hm); exact h0.symm)
    obtain ⟨_, cur, T, hh, hT⟩ := hq x e
    unfold B5 at hb
    rw [hh] at hb
    simp only [Option.some.injEq, Obj.cells.injEq] at hb
    exact hT hb.2.1
  exact ⟨h.cur.kept hg (fun k hk => by have := (hq k hk).1; omega), h.bel.grown hg h.bel.size (fun k hk => by have := (hq k hk).1; omega), B5.keep h.box kk (nb _ _ h.box), B5.keep h.res kk (nb _ _ h.res), h.ne⟩
/-- A field of the object is set: what it holds then is said anew. -/
theorem BS2.set {W wr : World} {g B gb gr i : Nat} {o o' : O5} {b' : Ob} {lE' lI' : List R3} {v : Value} (h : BS2 W wr g B gb gr o) (ho : B5 (wr.setCell ⟨gb, i, none⟩ v) gb 26 o') (hd : DOb wr B o' b' lE' lI') : BS W (wr.setCell ⟨gb, i, none⟩ v) g B gb gr o' b' lE' lI' := by
  have := h.ne
  have hf : Free wr gb := free_of h.box (by decide) (by decide) (by decide)
  exact ⟨h.cur.kept (grown_set wr gb i v) (by intro k hk; cases hk; omega), h.bel.setCell (by show W.heap.size ≤ gb; omega) _, ho, B5.other h.res (by omega), hd.keep (keep_set wr gb i v) (fun k hk => one_free hf hk), h.ne⟩
theorem BS.set {W wr : World} {g B gb gr i : Nat} {o o' : O5} {b b' : Ob} {lE lI lE' lI' : List R3} {v : Value} (h : BS W wr g B gb gr o b lE lI) (ho : B5 (wr.setCell ⟨gb, i, none⟩ v) gb 26 o') (hd : DOb wr B o' b' lE' lI') : BS W (wr.setCell ⟨gb, i, none⟩ v) g B gb gr o' b' lE' lI' := h.two.set ho hd
/-- The exports' row turns; what the object holds then is said anew. -/
theorem BS.row {W wr w' : World} {g B gb gr : Nat} {o : O5} {b b' : Ob} {lE lI lE' lI' : List R3} {q : Option Nat} (h : BS W wr g B gb gr o b lE lI) (hg : wr.grownBy w' q) (hq : ∀ k, q = some k → B ≤ k ∧ ∃ cur T, wr.heap[k]? = some (.cells cur T (0, 0)) ∧ T ≠ 26) (hd : DOb w' B o b' lE' lI') : BS W w' g B gb gr o b' lE' lI' := by
  have h2 := h.rest hg hq
  exact ⟨h2.cur, h2.bel, h2.box, h2.res, hd, h2.ne⟩
theorem BS.done {W wr : World} {g B gb gr : Nat} {o : O5} {b : Ob} {lE lI : List R3} (h : BS W wr g B gb gr o b lE lI) :
    B5 (((((wr.setCell ⟨gr, 0, none⟩ o.x).setCell ⟨gr, 1, none⟩ o.e).setCell ⟨gr, 2, none⟩ o.i).setCell ⟨gr, 3, none⟩ o.d).setCell ⟨gr, 4, none⟩ o.c) gr 26 o ∧
    DOb (((((wr.setCell ⟨gr, 0, none⟩ o.x).setCell ⟨gr, 1, none⟩ o.e).setCell ⟨gr, 2, none⟩ o.i).setCell ⟨gr, 3, none⟩ o.d).setCell ⟨gr, 4, none⟩ o.c) B o b lE lI ∧
    Below W.heap.size W (((((wr.setCell ⟨gr, 0, none⟩ o.x).setCell ⟨gr, 1, none⟩ o.e).setCell ⟨gr, 2, none⟩ o.i).setCell ⟨gr, 3, none⟩ o.d).setCell ⟨gr, 4, none⟩ o.c) := by
  have := h.ne
  have hl : W.heap.size ≤ gr := by omega
  have hf : Free wr gr := free_of h.res (by decide) (by decide) (by decide)
  have kk : KeepO [some gr] wr (((((wr.setCell ⟨gr, 0, none⟩ o.x).setCell ⟨gr, 1, none⟩ o.e).setCell ⟨gr, 2, none⟩ o.i).setCell ⟨gr, 3, none⟩ o.d).setCell ⟨gr, 4, none⟩ o.c) := ((((keep_set _ _ _ _).trans (keep_set _ _ _ _)).trans (keep_set _ _ _ _)).trans (keep_set _ _ _ _)).trans (keep_set _ _ _ _)
  exact ⟨((((h.res.set0 _).set1 _).set2 _).set3 _).set4 _, h.d.keep kk (fun k hk => one_free hf hk), ((((h.bel.setCell hl _).setCell hl _).setCell hl _).setCell hl _).setCell hl _⟩

set_option maxHeartbeats 16000000 in
theorem l5bentM (W : World) (g B : Nat) (o : O5) (b : Ob) (lE lI : List R3) (w : World) (h : Cur w g) (hWg : W.heap.size ≤ g) (hgB : g < B) (hBw : B ≤ w.heap.size) (hb : Below W.heap.size W w) (hd : DOb w B o b lE lI) (h1 : 1 ≤ b.ex.length) (h3 : b.ex.length ≤ 3) (h2 : b.im.length ≤ 2) :
    Calls Try.prog 12 #[.pointer (some ⟨g, 0, none⟩), .agg #[o.x, o.e, o.i, o.d, o.c]] w fun e w' => ∃ (o' : O5), e = .returned (.agg #[o'.x, o'.e, o'.i, o'.d, o'.c]) ∧ (∃ (b' : Ob) (lE' lI' : List R3), DOb w' B o' b' lE' lI') ∧ Below W.heap.size W w' := by
  obtain ⟨a1, c1, a2, c2, a3, c3, a4, c4, eo⟩ := hd.read.shape
  subst eo
  simp only
  have S0 : Hid (BS W ((w.alloc (.cells #[.slice a1 b.name.length c1, .slice a2 b.ex.length c2, .slice a3 b.im.length c3, .int .i64 b.data, .slice a4 b.code.length c4] 26 (0, 0))).alloc (.cells #[.slice none 0 0, .slice none 0 0, .slice none 0 0, .int .i64 0, .slice none 0 0] 26 (0, 0))) g B w.heap.size (w.heap.size + 1) ⟨.slice a1 b.name.length c1, .slice a2 b.ex.length c2, .slice a3 b.im.length c3, .int .i64 b.data, .slice a4 b.code.length c4⟩ b lE lI) := by
    have b0 : Below w.heap.size w ((w.alloc (.cells #[.slice a1 b.name.length c1, .slice a2 b.ex.length c2, .slice a3 b.im.length c3, .int .i64 b.data, .slice a4 b.code.length c4] 26 (0, 0))).alloc (.cells #[.slice none 0 0, .slice none 0 0, .slice none 0 0, .int .i64 0, .slice none 0 0] 26 (0, 0))) := ((Below.refl _ _).alloc (Nat.le_refl _) _).alloc (by simp) _
    have kk : KeepO [] w ((w.alloc (.cells #[.slice a1 b.name.length c1, .slice a2 b.ex.length c2, .slice a3 b.im.length c3, .int .i64 b.data, .slice a4 b.code.length c4] 26 (0, 0))).alloc (.cells #[.slice none 0 0, .slice none 0 0, .slice none 0 0, .int .i64 0, .slice none 0 0] 26 (0, 0))) := ⟨b0.os, b0.tape, b0.output, b0.size, fun g h1 _ => b0.block g h1⟩
    have r0 := B5.new (w.alloc (.cells #[.slice a1 b.name.length c1, .slice a2 b.ex.length c2, .slice a3 b.im.length c3, .int .i64 b.data, .slice a4 b.code.length c4] 26 (0, 0))) 26 ⟨.slice none 0 0, .slice none 0 0, .slice none 0 0, .int .i64 0, .slice none 0 0⟩
    have e1 : (w.alloc (.cells #[.slice a1 b.name.length c1, .slice a2 b.ex.length c2, .slice a3 b.im.length c3, .int .i64 b.data, .slice a4 b.code.length c4] 26 (0, 0))).heap.size = w.heap.size + 1 := by simp
    rw [e1] at r0
    exact ⟨h.kept (below_grows (row := none) b0) (by intro k hk; cases hk), hb.trans (b0.mono hb.size), (B5.new w 26 ⟨.slice a1 b.name.length c1, .slice a2 b.ex.length c2, .slice a3 b.im.length c3, .int .i64 b.data, .slice a4 b.code.length c4⟩).old, r0, hd.keep kk (by intro k hk; simp at hk), hWg, hgB, hBw, by omega⟩
  clear h hb hd
  have kc := fun (w : World) (C : Array Value) (n c : Nat) => Lib.run_convert_bytes_const (P := Try.prog) w 22 5 C n c Try.underlying22 Try.underlying5
  go_enter Try.func12, Try.ntmps12
  go_upto_region 1 with fail
  generalize ((w.alloc (.cells #[.slice a1 b.name.length c1, .slice a2 b.ex.length c2, .slice a3 b.im.length c3, .int .i64 b.data, .slice a4 b.code.length c4] 26 (0, 0))).alloc (.cells #[.slice none 0 0, .slice none 0 0, .slice none 0 0, .int .i64 0, .slice none 0 0] 26 (0, 0))) = w0 at *
  generalize w.heap.size = gb at *
  go_wp2_with fail
  refine (onceM g _ w0 S0.out.cur (by omega)).mono ?_
  rintro e w1 ⟨t1, rfl, hd⟩
  have S1 : Hid (BS W w1 g B gb (gb + 1) ⟨.slice a1 b.name.length c1, .slice a2 b.ex.length c2, .slice a3 b.im.length c3, .int .i64 b.data, .slice a4 b.code.length c4⟩ b lE lI) := S0.out.drawn hd
  clear hd S0
  cases t1
  · skip
    obtain ⟨p0, p1, p2, p3, p4⟩ := S1.out.box.facts
    obtain ⟨_, _, _, _, _⟩ := S1.out.res.facts
    obtain ⟨f0, f1, f2, f3, f4⟩ := S1.out.res.frozen
    simp only at p0 p1 p2 p3 p4
    go_wp2_with fail
    have E9 := S1.out.done (o := ⟨.slice a1 b.name.length c1, .slice a2 b.ex.length c2, .slice a3 b.im.length c3, .int .i64 b.data, .slice a4 b.code.length c4⟩)
    simp only at E9
    generalize (((((w1.setCell ⟨gb + 1, 0, none⟩ (.slice a1 b.name.length c1)).setCell ⟨gb + 1, 1, none⟩ (.slice a2 b.ex.length c2)).setCell ⟨gb + 1, 2, none⟩ (.slice a3 b.im.length c3)).setCell ⟨gb + 1, 3, none⟩ (.int .i64 b.data)).setCell ⟨gb + 1, 4, none⟩ (.slice a4 b.code.length c4)) = w9 at *
    obtain ⟨R9, O9, Y9⟩ := E9
    obtain ⟨d0, d1, d2, d3, d4⟩ := R9.facts
    simp only at d0 d1 d2 d3 d4
    refine bodyPost_ret (v := .agg #[.slice a1 b.name.length c1, .slice a2 b.ex.length c2, .slice a3 b.im.length c3, .int .i64 b.data, .slice a4 b.code.length c4]) (by simp [results, Try.results12, go_sem, d0, d1, d2, d3, d4]) rfl ⟨⟨.slice a1 b.name.length c1, .slice a2 b.ex.length c2, .slice a3 b.im.length c3, .int .i64 b.data, .slice a4 b.code.length c4⟩, rfl, ⟨_, _, _, O9⟩, Y9⟩
  · go_wp2_with fail
    refine (belowM g _ w1 S1.out.cur (by omega)).mono ?_
    rintro e w2 ⟨q, rfl, q0, q1, _, hd⟩
    replace q1 : q < 7 := q1 (by omega)
    have S2 : Hid (BS W w2 g B gb (gb + 1) ⟨.slice a1 b.name.length c1, .slice a2 b.ex.length c2, .slice a3 b.im.length c3, .int .i64 b.data, .slice a4 b.code.length c4⟩ b lE lI) := S1.out.drawn hd
    clear hd S1
    have hq : q = 0 ∨ q = 1 ∨ q = 2 ∨ q = 3 ∨ q = 4 ∨ q = 5 ∨ q = 6 := by omega
    clear q0 q1
    rcases hq with rfl | rfl | rfl | rfl | rfl | rfl | rfl
    · have S3 : Hid (BS W (w2.alloc (.cells #[.int .u8 109] 5 (1, 2))) g B gb (gb + 1) ⟨.slice a1 b.name.length c1, .slice a2 b.ex.length c2, .slice a3 b.im.length c3, .int .i64 b.data, .slice a4 b.code.length c4⟩ b lE lI) := S2.out.alloc _
      have N3 : Hid (BT (w2.alloc (.cells #[.int .u8 109] 5 (1, 2))) (.slice (some ⟨w2.heap.size, 0, none⟩) 1 1) [109]) := bt_one w2 109 (by omega) (by omega) (1, 2)
      obtain ⟨_, _, _, _, _⟩ := S3.out.box.facts
      obtain ⟨f0, f1, f2, f3, f4⟩ := S3.out.box.frozen
      go_upto_region 17 with fail
      have S4 : Hid (BS W ((w2.alloc (.cells #[.int .u8 109] 5 (1, 2))).setCell ⟨gb, 0, none⟩ (.slice (some ⟨w2.heap.size, 0, none⟩) 1 1)) g B gb (gb + 1) ⟨.slice (some ⟨w2.heap.size, 0, none⟩) 1 1, .slice a2 b.ex.length c2, .slice a3 b.im.length c3, .int .i64 b.data, .slice a4 b.code.length c4⟩ ⟨[109], b.ex, b.im, b.data, b.code⟩ lE lI) := S3.out.set (S3.out.box.set0 _) ⟨N3.out, S3.out.d.ex, S3.out.d.im, rfl, S3.out.d.cd, S3.out.d.exs, S3.out.d.ims, by have := S3.out.d.sm; simp only [List.length_cons, List.length_nil]; omega⟩
      clear S3 N3 f0 f1 f2 f3 f4 S2
      generalize ((w2.alloc (.cells #[.int .u8 109] 5 (1, 2))).setCell ⟨gb, 0, none⟩ (.slice (some ⟨w2.heap.size, 0, none⟩) 1 1)) = w4 at *
      obtain ⟨p0, p1, p2, p3, p4⟩ := S4.out.box.facts
      obtain ⟨_, _, _, _, _⟩ := S4.out.res.facts
      obtain ⟨f0, f1, f2, f3, f4⟩ := S4.out.res.frozen
      simp only at p0 p1 p2 p3 p4
      go_wp2_with fail
      have E9 := S4.out.done (o := ⟨.slice (some ⟨w2.heap.size, 0, none⟩) 1 1, .slice a2 b.ex.length c2, .slice a3 b.im.length c3, .int .i64 b.data, .slice a4 b.code.length c4⟩)
      simp only at E9
      generalize (((((w4.setCell ⟨gb + 1, 0, none⟩ (.slice (some ⟨w2.heap.size, 0, none⟩) 1 1)).setCell ⟨gb + 1, 1, none⟩ (.slice a2 b.ex.length c2)).setCell ⟨gb + 1, 2, none⟩ (.slice a3 b.im.length c3)).setCell ⟨gb + 1, 3, none⟩ (.int .i64 b.data)).setCell ⟨gb + 1, 4, none⟩ (.slice a4 b.code.length c4)) = w9 at *
      obtain ⟨R9, O9, Y9⟩ := E9
      obtain ⟨d0, d1, d2, d3, d4⟩ := R9.facts
      simp only at d0 d1 d2 d3 d4
      refine bodyPost_ret (v := .agg #[.slice (some ⟨w2.heap.size, 0, none⟩) 1 1, .slice a2 b.ex.length c2, .slice a3 b.im.length c3, .int .i64 b.data, .slice a4 b.code.length c4]) (by simp [results, Try.results12, go_sem, d0, d1, d2, d3, d4]) rfl ⟨⟨.slice (some ⟨w2.heap.size, 0, none⟩) 1 1, .slice a2 b.ex.length c2, .slice a3 b.im.length c3, .int .i64 b.data, .slice a4 b.code.length c4⟩, rfl, ⟨_, _, _, O9⟩, Y9⟩
    · have hints := ints_block w2 [-1, 200, 201] (inInt_all _ (by decide))
      have S3 : Hid (BS W (w2.alloc (.cells #[.int .i64 (-1), .int .i64 200, .int .i64 201] 3)) g B gb (gb + 1) ⟨.slice a1 b.name.length c1, .slice a2 b.ex.length c2, .slice a3 b.im.length c3, .int .i64 b.data, .slice a4 b.code.length c4⟩ b lE lI) := S2.out.alloc _
      have hlt := S2.out.cur.lt
      go_wp2_with fail
      refine (pickM g w2.heap.size 3 3 _ S3.out.cur hlt (by omega) (by omega) hints).mono ?_
      rintro e w3 ⟨x, rfl, hx, hd⟩
      have S4 : Hid (BS W w3 g B gb (gb + 1) ⟨.slice a1 b.name.length c1, .slice a2 b.ex.length c2, .slice a3 b.im.length c3, .int .i64 b.data, .slice a4 b.code.length c4⟩ b lE lI) := S3.out.drawn hd
      clear hd S3 S2 hints
      obtain ⟨_, _, _, _, _⟩ := S4.out.box.facts
      obtain ⟨f0, f1, f2, f3, f4⟩ := S4.out.box.frozen
      go_upto_region 17 with fail
      have S5 : Hid (BS W (w3.setCell ⟨gb, 3, none⟩ (.int .i64 x)) g B gb (gb + 1) ⟨.slice a1 b.name.length c1, .slice a2 b.ex.length c2, .slice a3 b.im.length c3, .int .i64 x, .slice a4 b.code.length c4⟩ ⟨b.name, b.ex, b.im, x, b.code⟩ lE lI) := S4.out.set (S4.out.box.set3 _) ⟨S4.out.d.nm, S4.out.d.ex, S4.out.d.im, rfl, S4.out.d.cd, S4.out.d.exs, S4.out.d.ims, S4.out.d.sm⟩
      clear S4 f0 f1 f2 f3 f4
      generalize (w3.setCell ⟨gb, 3, none⟩ (.int .i64 x)) = w5 at *
      obtain ⟨p0, p1, p2, p3, p4⟩ := S5.out.box.facts
      obtain ⟨_, _, _, _, _⟩ := S5.out.res.facts
      obtain ⟨f0, f1, f2, f3, f4⟩ := S5.out.res.frozen
      simp only at p0 p1 p2 p3 p4
      go_wp2_with fail
      have E9 := S5.out.done (o := ⟨.slice a1 b.name.length c1, .slice a2 b.ex.length c2, .slice a3 b.im.length c3, .int .i64 x, .slice a4 b.code.length c4⟩)
      simp only at E9
      generalize (((((w5.setCell ⟨gb + 1, 0, none⟩ (.slice a1 b.name.length c1)).setCell ⟨gb + 1, 1, none⟩ (.slice a2 b.ex.length c2)).setCell ⟨gb + 1, 2, none⟩ (.slice a3 b.im.length c3)).setCell ⟨gb + 1, 3, none⟩ (.int .i64 x)).setCell ⟨gb + 1, 4, none⟩ (.slice a4 b.code.length c4)) = w9 at *
      obtain ⟨R9, O9, Y9⟩ := E9
      obtain ⟨d0, d1, d2, d3, d4⟩ := R9.facts
      simp only at d0 d1 d2 d3 d4
      refine bodyPost_ret (v := .agg #[.slice a1 b.name.length c1, .slice a2 b.ex.length c2, .slice a3 b.im.length c3, .int .i64 x, .slice a4 b.code.length c4]) (by simp [results, Try.results12, go_sem, d0, d1, d2, d3, d4]) rfl ⟨⟨.slice a1 b.name.length c1, .slice a2 b.ex.length c2, .slice a3 b.im.length c3, .int .i64 x, .slice a4 b.code.length c4⟩, rfl, ⟨_, _, _, O9⟩, Y9⟩
    · obtain ⟨q, ax, nx, cx, p, s, xl, dr, lr, rfl, hqB, g0, g1, g2, hRT, hds, hlE, cur, hcur⟩ := S2.out.d.ex.first h1 S2.out.d.exs
      have HD : Hid (b.ex = ⟨.b xl, .n p, .n s⟩ :: dr) := hds
      have hn1 : (0 : Int) < (b.ex.length : Int) := by omega
      have hn0 : 0 < b.ex.length := by omega
      have S3 : Hid (BS W w2.drew g B gb (gb + 1) ⟨.slice a1 b.name.length c1, .slice (some ⟨q, 0, none⟩) b.ex.length c2, .slice a3 b.im.length c3, .int .i64 b.data, .slice a4 b.code.length c4⟩ b lE lI) := S2.out.below (Below.refl _ _).drew
      have HG : Hid (w2.drew.cell? ⟨q, 0, none⟩ = some (.slice ax nx cx) ∧ w2.drew.cell? ⟨q, 1, none⟩ = some (.int .i64 p) ∧ w2.drew.cell? ⟨q, 2, none⟩ = some (.int .i64 s)) := ⟨g0, g1, g2⟩
      have HRT : Hid (RT w2.drew ⟨.slice ax nx cx, .int .i64 p, .int .i64 s⟩ ⟨.b xl, .n p, .n s⟩) := hRT.keep (os := []) ⟨rfl, rfl, rfl, Nat.le_refl _, fun _ _ _ => rfl⟩ (by intro k hk; simp at hk)
      clear hRT hds hlE hcur S2 g0 g1 g2
      go_upto_region 10 with fail
      refine wp_region_held_drew (S := fun _ => True) (by kernel_rfl) trivial (fun hHeld => ?_)
      generalize w2.drew = w3 at *
      refine wpAnyH_take (i := 0) (oi := ?o501) (v := ?v501) ?i501 (by kernel_rfl) (by kernel_rfl) (by kernel_rfl) ?q501 ?y501 (hHeld) ?r501
      case i501 => exact rfl
      case q501 => exact (fun _ _ _ h => h)
      case y501 =>
        refine Or.inl ⟨by rfl, ?_⟩
        intro w hSw
        (try dsimp only at hSw)
        go_simp
        first | done | rfl
      try simp only [Act.put, List.getElem_toArray, List.getElem_cons_zero, List.getElem_cons_succ, List.setIfInBounds_toArray, List.set_cons_zero, List.set_cons_succ]
      refine wpAnyH_take (i := 2) (oi := ?o502) (v := ?v502) ?i502 (by kernel_rfl) (by kernel_rfl) (by kernel_rfl) ?q502 ?y502 (hHeld) ?r502
      case i502 => exact rfl
      case q502 => exact (fun _ _ _ h => h)
      case y502 =>
        refine Or.inl ⟨by rfl, ?_⟩
        intro w hSw
        (try dsimp only at hSw)
        go_simp
        first | done | rfl
      try simp only [Act.put, List.getElem_toArray, List.getElem_cons_zero, List.getElem_cons_succ, List.setIfInBounds_toArray, List.set_cons_zero, List.set_cons_succ]
      have k1 : w3.cell? ⟨gb, 1, none⟩ = some (.slice (some ⟨q, 0, none⟩) b.ex.length c2) := S3.out.box.facts.2.1
      refine wpAnyH_ready (rs := [1, 3]) (by kernel_rfl) (by simp) ?_
      refine AllReadyH.cons (i := 1) (o := ?oK901) ?iK901 ?gK901 (AllReadyH.cons (i := 3) (o := ?oK902) ?iK902 ?gK902 AllReadyH.nil)
      case iK901 => exact rfl
      case iK902 => exact rfl
      case gK901 =>
        intro K hK
        go_simp
        clear k1
        refine hK.out _ _ trivial (fun hHeld => ?_)
        clear hK K
        try simp only [Act.put, List.getElem_toArray, List.getElem_cons_zero, List.getElem_cons_succ, List.setIfInBounds_toArray, List.set_cons_zero, List.set_cons_succ]
        refine wpAnyH_ready (rs := [3]) (by kernel_rfl) (by simp) ?_
        refine AllReadyH.cons (i := 3) (o := ?oK903) ?iK903 ?gK903 AllReadyH.nil
        case iK903 => exact rfl
        case gK903 =>
          intro K hK
          have k1 : w3.cell? ⟨gb, 1, none⟩ = some (.slice (some ⟨q, 0, none⟩) b.ex.length c2) := S3.out.box.facts.2.1
          go_simp
          clear k1
          refine hK.out _ _ trivial (fun hHeld => ?_)
          clear hK K
          try simp only [Act.put, List.getElem_toArray, List.getElem_cons_zero, List.getElem_cons_succ, List.setIfInBounds_toArray, List.set_cons_zero, List.set_cons_succ]
          refine wpAnyH_take (i := 4) (oi := ?o503) (v := ?v503) ?i503 (by kernel_rfl) (by kernel_rfl) (by kernel_rfl) ?q503 ?y503 (hHeld) ?r503
          case i503 => exact rfl
          case q503 => exact (fun _ _ _ h => h)
          case y503 =>
            refine Or.inl ⟨by rfl, ?_⟩
            intro w hSw
            (try dsimp only at hSw)
            go_simp
            first | done | rfl
          try simp only [Act.put, List.getElem_toArray, List.getElem_cons_zero, List.getElem_cons_succ, List.setIfInBounds_toArray, List.set_cons_zero, List.set_cons_succ]
          refine wpAnyH_ready (rs := [5]) (by kernel_rfl) (by simp) ?_
          refine AllReadyH.cons (i := 5) (o := ?oK904) ?iK904 ?gK904 AllReadyH.nil
          case iK904 => exact rfl
          case gK904 =>
            intro K hK
            obtain ⟨g0, g1, g2⟩ := HG.out
            go_simp
            clear g0 g1 g2
            refine hK.out _ _ trivial (fun hHeld => ?_)
            clear hK K
            try simp only [Act.put, List.getElem_toArray, List.getElem_cons_zero, List.getElem_cons_succ, List.setIfInBounds_toArray, List.set_cons_zero, List.set_cons_succ]
            refine wpAnyH_ready (rs := [6]) (by kernel_rfl) (by simp) ?_
            refine AllReadyH.cons (i := 6) (o := ?oK905) ?iK905 ?gK905 AllReadyH.nil
            case iK905 => exact rfl
            case gK905 =>
              intro K hK
              go_simp
              have S4 : Hid (BS W (w3.alloc (.cells #[.slice ax nx cx, .int .i64 p, .int .i64 s] 43 (0, 0))) g B gb (gb + 1) ⟨.slice a1 b.name.length c1, .slice (some ⟨q, 0, none⟩) b.ex.length c2, .slice a3 b.im.length c3, .int .i64 b.data, .slice a4 b.code.length c4⟩ b lE lI) := S3.out.alloc _
              have x5 : Hid (B3 (w3.alloc (.cells #[.slice ax nx cx, .int .i64 p, .int .i64 s] 43 (0, 0))) w3.heap.size 43 (.slice ax nx cx) (.int .i64 p) (.int .i64 s)) := B3.new _ _ _ _ _
              have RR : Hid (RT (w3.alloc (.cells #[.slice ax nx cx, .int .i64 p, .int .i64 s] 43 (0, 0))) ⟨.slice ax nx cx, .int .i64 p, .int .i64 s⟩ ⟨.b xl, .n p, .n s⟩) := RT.keep HRT.out (keep_alloc _ _) (by intro k hk; simp at hk)
              have hBs : B ≤ (w3.alloc (.cells #[.slice ax nx cx, .int .i64 p, .int .i64 s] 43 (0, 0))).heap.size := by have := S4.out.ne; have := S4.out.box.lt; omega
              clear S3 HRT
              generalize w3.alloc (.cells #[.slice ax nx cx, .int .i64 p, .int .i64 s] 43 (0, 0)) = w4 at *
              generalize w3.heap.size = gR at *
              refine hK.out _ _ trivial (fun hHeld => ?_)
              clear hK K
              try simp only [Act.put, List.getElem_toArray, List.getElem_cons_zero, List.getElem_cons_succ, List.setIfInBounds_toArray, List.set_cons_zero, List.set_cons_succ]
              refine wpAnyH_ready (rs := [7]) (by kernel_rfl) (by simp) ?_
              refine AllReadyH.cons (i := 7) (o := ?oA) ?iA (fun K hK => ?_) AllReadyH.nil
              case iA => exact rfl
              rw [if_pos (by kernel_rfl)]
              refine wp_appendE _ _ rfl B (.slice (some ⟨q, 0, none⟩) b.ex.length c2) b.ex.length lE rfl S4.out.d.ex.row gR ⟨.slice ax nx cx, .int .i64 p, .int .i64 s⟩ rfl x5.out RR.out.one (by omega) hBs ?_
              intro v9 w9 ho hg9
              have X9 := S4.out.d.ex.push (by decide) RR.out ho hg9
              obtain ⟨a9, c9, e9, _⟩ := X9.shape
              have e9' : v9 = .slice a9 (b.ex.length + 1) c9 := by rw [e9]; simp
              subst e9'
              have rw8 : ∀ k, (Value.slice (some ⟨q, 0, none⟩) b.ex.length c2).ownBlock = some k → B ≤ k ∧ ∃ cur, w4.heap[k]? = some (.cells cur 43 (0, 0)) := fun k hk => ⟨(S4.out.d.ex.row.lt k hk).1, ownsRow_type S4.out.d.ex.row hk⟩
              have kk : KeepO [(Value.slice (some ⟨q, 0, none⟩) b.ex.length c2).ownBlock] w4 w9 := KeepO.of hg9 (by simp)
              have hnb : ∀ k, some k ∈ [(Value.slice (some ⟨q, 0, none⟩) b.ex.length c2).ownBlock] → ∃ cur, w4.heap[k]? = some (.cells cur 43 (0, 0)) := fun k hk => (rw8 k (by have h0 : some k = (Value.slice (some ⟨q, 0, none⟩) b.ex.length c2).ownBlock := (by simpa using hk); exact h0.symm)).2
              have S9 : Hid (BS2 W w9 g B gb (gb + 1) ⟨.slice a1 b.name.length c1, .slice (some ⟨q, 0, none⟩) b.ex.length c2, .slice a3 b.im.length c3, .int .i64 b.data, .slice a4 b.code.length c4⟩) := S4.out.rest hg9 (fun k hk => by obtain ⟨h8, cur, hb⟩ := rw8 k hk; exact ⟨h8, cur, _, hb, by decide⟩)
              have D9 : Hid (BT w9 (.slice a1 b.name.length c1) b.name ∧ RL w9 47 B (.slice a3 b.im.length c3) lI b.im ∧ BT w9 (.slice a4 b.code.length c4) b.code) := by
                refine ⟨S4.out.d.nm.keep kk (fun k hk => ?_), S4.out.d.im.keep kk (fun k hk => ?_), S4.out.d.cd.keep kk (fun k hk => ?_)⟩
                · obtain ⟨cur, hb⟩ := hnb k hk; exact noB_of hb (by decide)
                · obtain ⟨cur, hb⟩ := hnb k hk
                  refine ⟨noB_of hb (by decide), fun cur' e => ?_⟩
                  rw [hb] at e
                  simp at e
                · obtain ⟨cur, hb⟩ := hnb k hk; exact noB_of hb (by decide)
              have I9 : Hid (RL w9 43 B (.slice a9 (b.ex.length + 1) c9) (lE ++ [⟨.slice ax nx cx, .int .i64 p, .int .i64 s⟩]) (b.ex ++ [⟨.b xl, .n p, .n s⟩])) := X9
              have HS : Hid ((∀ d ∈ b.ex ++ [(⟨.b xl, .n p, .n s⟩ : D3)], isE d ∧ d.len ≤ 80) ∧ (∀ d ∈ b.im, isM d ∧ d.len ≤ 80) ∧ b.name.length ≤ 8 ∧ b.im.length ≤ 3 ∧ b.code.length ≤ 9001) := by
                refine ⟨fun d hd => ?_, S4.out.d.ims, S4.out.d.sm.1, S4.out.d.sm.2.2.1, S4.out.d.sm.2.2.2⟩
                rcases List.mem_append.1 hd with hm | hm
                · exact S4.out.d.exs d hm
                · simp at hm; rw [hm]; exact S4.out.d.exs _ (by rw [HD.out]; simp)
              clear X9 ho hg9 e9 rw8 kk hnb S4 x5 RR
              refine hK.out _ _ trivial (fun hHeld => ?_)
              clear hK K
              try simp only [Act.put, List.getElem_toArray, List.getElem_cons_zero, List.getElem_cons_succ, List.setIfInBounds_toArray, List.set_cons_zero, List.set_cons_succ]
              refine wpAnyH_take (i := 8) (oi := ?o504) (v := ?v504) ?i504 (by kernel_rfl) (by kernel_rfl) (by kernel_rfl) ?q504 ?y504 (hHeld) ?r504
              case i504 => exact rfl
              case q504 => exact (fun _ _ _ h => h)
              case y504 =>
                refine Or.inl ⟨by rfl, ?_⟩
                intro w hSw
                (try dsimp only at hSw)
                go_simp
                first | done | rfl
              try simp only [Act.put, List.getElem_toArray, List.getElem_cons_zero, List.getElem_cons_succ, List.setIfInBounds_toArray, List.set_cons_zero, List.set_cons_succ]
              obtain ⟨_, _, _, _, _⟩ := S9.out.box.facts
              obtain ⟨f0, f1, f2, f3, f4⟩ := S9.out.box.frozen
              have S10 : Hid (BS W (w9.setCell ⟨gb, 1, none⟩ (.slice a9 (b.ex.length + 1) c9)) g B gb (gb + 1) ⟨.slice a1 b.name.length c1, .slice a9 (b.ex.length + 1) c9, .slice a3 b.im.length c3, .int .i64 b.data, .slice a4 b.code.length c4⟩ ⟨b.name, b.ex ++ [⟨.b xl, .n p, .n s⟩], b.im, b.data, b.code⟩ (lE ++ [⟨.slice ax nx cx, .int .i64 p, .int .i64 s⟩]) lI) := S9.out.set (S9.out.box.set1 _) ⟨D9.out.1, I9.out, D9.out.2.1, rfl, D9.out.2.2, HS.out.1, HS.out.2.1, by have := HS.out.2.2; simp only [List.length_append, List.length_cons, List.length_nil]; omega⟩
              refine wpAnyH_ready (rs := [9]) (by kernel_rfl) (by simp) ?_
              refine AllReadyH.cons (i := 9) (o := ?o505) ?i505 (fun K hK => ?_) AllReadyH.nil
              case i505 => exact rfl
              go_simp
              clear f0 f1 f2 f3 f4 S9 D9 I9 HS
              generalize (w9.setCell ⟨gb, 1, none⟩ (.slice a9 (b.ex.length + 1) c9)) = w10 at *
              refine hK.out _ _ trivial (fun hHeld => ?_)
              clear hK K
              try simp only [Act.put, List.getElem_toArray, List.getElem_cons_zero, List.getElem_cons_succ, List.setIfInBounds_toArray, List.set_cons_zero, List.set_cons_succ]
              refine wpAnyH_done (by kernel_rfl) ?_ _
              obtain ⟨p0, p1, p2, p3, p4⟩ := S10.out.box.facts
              obtain ⟨_, _, _, _, _⟩ := S10.out.res.facts
              obtain ⟨f0, f1, f2, f3, f4⟩ := S10.out.res.frozen
              simp only at p0 p1 p2 p3 p4
              go_wp2_with fail
              have E9 := S10.out.done (o := ⟨.slice a1 b.name.length c1, .slice a9 (b.ex.length + 1) c9, .slice a3 b.im.length c3, .int .i64 b.data, .slice a4 b.code.length c4⟩)
              simp only at E9
              generalize (((((w10.setCell ⟨gb + 1, 0, none⟩ (.slice a1 b.name.length c1)).setCell ⟨gb + 1, 1, none⟩ (.slice a9 (b.ex.length + 1) c9)).setCell ⟨gb + 1, 2, none⟩ (.slice a3 b.im.length c3)).setCell ⟨gb + 1, 3, none⟩ (.int .i64 b.data)).setCell ⟨gb + 1, 4, none⟩ (.slice a4 b.code.length c4)) = w9 at *
              obtain ⟨R9, O9, Y9⟩ := E9
              obtain ⟨d0, d1, d2, d3, d4⟩ := R9.facts
              simp only at d0 d1 d2 d3 d4
              refine bodyPost_ret (v := .agg #[.slice a1 b.name.length c1, .slice a9 (b.ex.length + 1) c9, .slice a3 b.im.length c3, .int .i64 b.data, .slice a4 b.code.length c4]) (by simp [results, Try.results12, go_sem, d0, d1, d2, d3, d4]) rfl ⟨⟨.slice a1 b.name.length c1, .slice a9 (b.ex.length + 1) c9, .slice a3 b.im.length c3, .int .i64 b.data, .slice a4 b.code.length c4⟩, rfl, ⟨_, _, _, O9⟩, Y9⟩
      case gK902 =>
        intro K hK
        go_simp
        clear k1
        refine hK.out _ _ trivial (fun hHeld => ?_)
        clear hK K
        try simp only [Act.put, List.getElem_toArray, List.getElem_cons_zero, List.getElem_cons_succ, List.setIfInBounds_toArray, List.set_cons_zero, List.set_cons_succ]
        refine wpAnyH_take (i := 4) (oi := ?o506) (v := ?v506) ?i506 (by kernel_rfl) (by kernel_rfl) (by kernel_rfl) ?q506 ?y506 (hHeld) ?r506
        case i506 => exact rfl
        case q506 => exact (fun _ _ _ h => h)
        case y506 =>
          refine Or.inl ⟨by rfl, ?_⟩
          intro w hSw
          (try dsimp only at hSw)
          go_simp
          first | done | rfl
        try simp only [Act.put, List.getElem_toArray, List.getElem_cons_zero, List.getElem_cons_succ, List.setIfInBounds_toArray, List.set_cons_zero, List.set_cons_succ]
        have k1 : w3.cell? ⟨gb, 1, none⟩ = some (.slice (some ⟨q, 0, none⟩) b.ex.length c2) := S3.out.box.facts.2.1
        refine wpAnyH_ready (rs := [1, 5]) (by kernel_rfl) (by simp) ?_
        refine AllReadyH.cons (i := 1) (o := ?oK906) ?iK906 ?gK906 (AllReadyH.cons (i := 5) (o := ?oK907) ?iK907 ?gK907 AllReadyH.nil)
        case iK906 => exact rfl
        case iK907 => exact rfl
        case gK906 =>
          intro K hK
          go_simp
          clear k1
          refine hK.out _ _ trivial (fun hHeld => ?_)
          clear hK K
          try simp only [Act.put, List.getElem_toArray, List.getElem_cons_zero, List.getElem_cons_succ, List.setIfInBounds_toArray, List.set_cons_zero, List.set_cons_succ]
          refine wpAnyH_ready (rs := [5]) (by kernel_rfl) (by simp) ?_
          refine AllReadyH.cons (i := 5) (o := ?oK908) ?iK908 ?gK908 AllReadyH.nil
          case iK908 => exact rfl
          case gK908 =>
            intro K hK
            obtain ⟨g0, g1, g2⟩ := HG.out
            go_simp
            clear g0 g1 g2
            refine hK.out _ _ trivial (fun hHeld => ?_)
            clear hK K
            try simp only [Act.put, List.getElem_toArray, List.getElem_cons_zero, List.getElem_cons_succ, List.setIfInBounds_toArray, List.set_cons_zero, List.set_cons_succ]
            refine wpAnyH_ready (rs := [6]) (by kernel_rfl) (by simp) ?_
            refine AllReadyH.cons (i := 6) (o := ?oK909) ?iK909 ?gK909 AllReadyH.nil
            case iK909 => exact rfl
            case gK909 =>
              intro K hK
              go_simp
              have S4 : Hid (BS W (w3.alloc (.cells #[.slice ax nx cx, .int .i64 p, .int .i64 s] 43 (0, 0))) g B gb (gb + 1) ⟨.slice a1 b.name.length c1, .slice (some ⟨q, 0, none⟩) b.ex.length c2, .slice a3 b.im.length c3, .int .i64 b.data, .slice a4 b.code.length c4⟩ b lE lI) := S3.out.alloc _
              have x5 : Hid (B3 (w3.alloc (.cells #[.slice ax nx cx, .int .i64 p, .int .i64 s] 43 (0, 0))) w3.heap.size 43 (.slice ax nx cx) (.int .i64 p) (.int .i64 s)) := B3.new _ _ _ _ _
              have RR : Hid (RT (w3.alloc (.cells #[.slice ax nx cx, .int .i64 p, .int .i64 s] 43 (0, 0))) ⟨.slice ax nx cx, .int .i64 p, .int .i64 s⟩ ⟨.b xl, .n p, .n s⟩) := RT.keep HRT.out (keep_alloc _ _) (by intro k hk; simp at hk)
              have hBs : B ≤ (w3.alloc (.cells #[.slice ax nx cx, .int .i64 p, .int .i64 s] 43 (0, 0))).heap.size := by have := S4.out.ne; have := S4.out.box.lt; omega
              clear S3 HRT
              generalize w3.alloc (.cells #[.slice ax nx cx, .int .i64 p, .int .i64 s] 43 (0, 0)) = w4 at *
              generalize w3.heap.size = gR at *
              refine hK.out _ _ trivial (fun hHeld => ?_)
              clear hK K
              try simp only [Act.put, List.getElem_toArray, List.getElem_cons_zero, List.getElem_cons_succ, List.setIfInBounds_toArray, List.set_cons_zero, List.set_cons_succ]
              refine wpAnyH_ready (rs := [7]) (by kernel_rfl) (by simp) ?_
              refine AllReadyH.cons (i := 7) (o := ?oA) ?iA (fun K hK => ?_) AllReadyH.nil
              case iA => exact rfl
              rw [if_pos (by kernel_rfl)]
              refine wp_appendE _ _ rfl B (.slice (some ⟨q, 0, none⟩) b.ex.length c2) b.ex.length lE rfl S4.out.d.ex.row gR ⟨.slice ax nx cx, .int .i64 p, .int .i64 s⟩ rfl x5.out RR.out.one (by omega) hBs ?_
              intro v9 w9 ho hg9
              have X9 := S4.out.d.ex.push (by decide) RR.out ho hg9
              obtain ⟨a9, c9, e9, _⟩ := X9.shape
              have e9' : v9 = .slice a9 (b.ex.length + 1) c9 := by rw [e9]; simp
              subst e9'
              have rw8 : ∀ k, (Value.slice (some ⟨q, 0, none⟩) b.ex.length c2).ownBlock = some k → B ≤ k ∧ ∃ cur, w4.heap[k]? = some (.cells cur 43 (0, 0)) := fun k hk => ⟨(S4.out.d.ex.row.lt k hk).1, ownsRow_type S4.out.d.ex.row hk⟩
              have kk : KeepO [(Value.slice (some ⟨q, 0, none⟩) b.ex.length c2).ownBlock] w4 w9 := KeepO.of hg9 (by simp)
              have hnb : ∀ k, some k ∈ [(Value.slice (some ⟨q, 0, none⟩) b.ex.length c2).ownBlock] → ∃ cur, w4.heap[k]? = some (.cells cur 43 (0, 0)) := fun k hk => (rw8 k (by have h0 : some k = (Value.slice (some ⟨q, 0, none⟩) b.ex.length c2).ownBlock := (by simpa using hk); exact h0.symm)).2
              have S9 : Hid (BS2 W w9 g B gb (gb + 1) ⟨.slice a1 b.name.length c1, .slice (some ⟨q, 0, none⟩) b.ex.length c2, .slice a3 b.im.length c3, .int .i64 b.data, .slice a4 b.code.length c4⟩) := S4.out.rest hg9 (fun k hk => by obtain ⟨h8, cur, hb⟩ := rw8 k hk; exact ⟨h8, cur, _, hb, by decide⟩)
              have D9 : Hid (BT w9 (.slice a1 b.name.length c1) b.name ∧ RL w9 47 B (.slice a3 b.im.length c3) lI b.im ∧ BT w9 (.slice a4 b.code.length c4) b.code) := by
                refine ⟨S4.out.d.nm.keep kk (fun k hk => ?_), S4.out.d.im.keep kk (fun k hk => ?_), S4.out.d.cd.keep kk (fun k hk => ?_)⟩
                · obtain ⟨cur, hb⟩ := hnb k hk; exact noB_of hb (by decide)
                · obtain ⟨cur, hb⟩ := hnb k hk
                  refine ⟨noB_of hb (by decide), fun cur' e => ?_⟩
                  rw [hb] at e
                  simp at e
                · obtain ⟨cur, hb⟩ := hnb k hk; exact noB_of hb (by decide)
              have I9 : Hid (RL w9 43 B (.slice a9 (b.ex.length + 1) c9) (lE ++ [⟨.slice ax nx cx, .int .i64 p, .int .i64 s⟩]) (b.ex ++ [⟨.b xl, .n p, .n s⟩])) := X9
              have HS : Hid ((∀ d ∈ b.ex ++ [(⟨.b xl, .n p, .n s⟩ : D3)], isE d ∧ d.len ≤ 80) ∧ (∀ d ∈ b.im, isM d ∧ d.len ≤ 80) ∧ b.name.length ≤ 8 ∧ b.im.length ≤ 3 ∧ b.code.length ≤ 9001) := by
                refine ⟨fun d hd => ?_, S4.out.d.ims, S4.out.d.sm.1, S4.out.d.sm.2.2.1, S4.out.d.sm.2.2.2⟩
                rcases List.mem_append.1 hd with hm | hm
                · exact S4.out.d.exs d hm
                · simp at hm; rw [hm]; exact S4.out.d.exs _ (by rw [HD.out]; simp)
              clear X9 ho hg9 e9 rw8 kk hnb S4 x5 RR
              refine hK.out _ _ trivial (fun hHeld => ?_)
              clear hK K
              try simp only [Act.put, List.getElem_toArray, List.getElem_cons_zero, List.getElem_cons_succ, List.setIfInBounds_toArray, List.set_cons_zero, List.set_cons_succ]
              refine wpAnyH_take (i := 8) (oi := ?o507) (v := ?v507) ?i507 (by kernel_rfl) (by kernel_rfl) (by kernel_rfl) ?q507 ?y507 (hHeld) ?r507
              case i507 => exact rfl
              case q507 => exact (fun _ _ _ h => h)
              case y507 =>
                refine Or.inl ⟨by rfl, ?_⟩
                intro w hSw
                (try dsimp only at hSw)
                go_simp
                first | done | rfl
              try simp only [Act.put, List.getElem_toArray, List.getElem_cons_zero, List.getElem_cons_succ, List.setIfInBounds_toArray, List.set_cons_zero, List.set_cons_succ]
              obtain ⟨_, _, _, _, _⟩ := S9.out.box.facts
              obtain ⟨f0, f1, f2, f3, f4⟩ := S9.out.box.frozen
              have S10 : Hid (BS W (w9.setCell ⟨gb, 1, none⟩ (.slice a9 (b.ex.length + 1) c9)) g B gb (gb + 1) ⟨.slice a1 b.name.length c1, .slice a9 (b.ex.length + 1) c9, .slice a3 b.im.length c3, .int .i64 b.data, .slice a4 b.code.length c4⟩ ⟨b.name, b.ex ++ [⟨.b xl, .n p, .n s⟩], b.im, b.data, b.code⟩ (lE ++ [⟨.slice ax nx cx, .int .i64 p, .int .i64 s⟩]) lI) := S9.out.set (S9.out.box.set1 _) ⟨D9.out.1, I9.out, D9.out.2.1, rfl, D9.out.2.2, HS.out.1, HS.out.2.1, by have := HS.out.2.2; simp only [List.length_append, List.length_cons, List.length_nil]; omega⟩
              refine wpAnyH_ready (rs := [9]) (by kernel_rfl) (by simp) ?_
              refine AllReadyH.cons (i := 9) (o := ?o508) ?i508 (fun K hK => ?_) AllReadyH.nil
              case i508 => exact rfl
              go_simp
              clear f0 f1 f2 f3 f4 S9 D9 I9 HS
              generalize (w9.setCell ⟨gb, 1, none⟩ (.slice a9 (b.ex.length + 1) c9)) = w10 at *
              refine hK.out _ _ trivial (fun hHeld => ?_)
              clear hK K
              try simp only [Act.put, List.getElem_toArray, List.getElem_cons_zero, List.getElem_cons_succ, List.setIfInBounds_toArray, List.set_cons_zero, List.set_cons_succ]
              refine wpAnyH_done (by kernel_rfl) ?_ _
              obtain ⟨p0, p1, p2, p3, p4⟩ := S10.out.box.facts
              obtain ⟨_, _, _, _, _⟩ := S10.out.res.facts
              obtain ⟨f0, f1, f2, f3, f4⟩ := S10.out.res.frozen
              simp only at p0 p1 p2 p3 p4
              go_wp2_with fail
              have E9 := S10.out.done (o := ⟨.slice a1 b.name.length c1, .slice a9 (b.ex.length + 1) c9, .slice a3 b.im.length c3, .int .i64 b.data, .slice a4 b.code.length c4⟩)
              simp only at E9
              generalize (((((w10.setCell ⟨gb + 1, 0, none⟩ (.slice a1 b.name.length c1)).setCell ⟨gb + 1, 1, none⟩ (.slice a9 (b.ex.length + 1) c9)).setCell ⟨gb + 1, 2, none⟩ (.slice a3 b.im.length c3)).setCell ⟨gb + 1, 3, none⟩ (.int .i64 b.data)).setCell ⟨gb + 1, 4, none⟩ (.slice a4 b.code.length c4)) = w9 at *
              obtain ⟨R9, O9, Y9⟩ := E9
              obtain ⟨d0, d1, d2, d3, d4⟩ := R9.facts
              simp only at d0 d1 d2 d3 d4
              refine bodyPost_ret (v := .agg #[.slice a1 b.name.length c1, .slice a9 (b.ex.length + 1) c9, .slice a3 b.im.length c3, .int .i64 b.data, .slice a4 b.code.length c4]) (by simp [results, Try.results12, go_sem, d0, d1, d2, d3, d4]) rfl ⟨⟨.slice a1 b.name.length c1, .slice a9 (b.ex.length + 1) c9, .slice a3 b.im.length c3, .int .i64 b.data, .slice a4 b.code.length c4⟩, rfl, ⟨_, _, _, O9⟩, Y9⟩
        case gK907 =>
          intro K hK
          clear k1
          obtain ⟨g0, g1, g2⟩ := HG.out
          go_simp
          clear g0 g1 g2
          refine hK.out _ _ trivial (fun hHeld => ?_)
          clear hK K
          try simp only [Act.put, List.getElem_toArray, List.getElem_cons_zero, List.getElem_cons_succ, List.setIfInBounds_toArray, List.set_cons_zero, List.set_cons_succ]
          have k1 : w3.cell? ⟨gb, 1, none⟩ = some (.slice (some ⟨q, 0, none⟩) b.ex.length c2) := S3.out.box.facts.2.1
          refine wpAnyH_ready (rs := [1, 6]) (by kernel_rfl) (by simp) ?_
          refine AllReadyH.cons (i := 1) (o := ?oK910) ?iK910 ?gK910 (AllReadyH.cons (i := 6) (o := ?oK911) ?iK911 ?gK911 AllReadyH.nil)
          case iK910 => exact rfl
          case iK911 => exact rfl
          case gK910 =>
            intro K hK
            go_simp
            clear k1
            refine hK.out _ _ trivial (fun hHeld => ?_)
            clear hK K
            try simp only [Act.put, List.getElem_toArray, List.getElem_cons_zero, List.getElem_cons_succ, List.setIfInBounds_toArray, List.set_cons_zero, List.set_cons_succ]
            refine wpAnyH_ready (rs := [6]) (by kernel_rfl) (by simp) ?_
            refine AllReadyH.cons (i := 6) (o := ?oK912) ?iK912 ?gK912 AllReadyH.nil
            case iK912 => exact rfl
            case gK912 =>
              intro K hK
              go_simp
              have S4 : Hid (BS W (w3.alloc (.cells #[.slice ax nx cx, .int .i64 p, .int .i64 s] 43 (0, 0))) g B gb (gb + 1) ⟨.slice a1 b.name.length c1, .slice (some ⟨q, 0, none⟩) b.ex.length c2, .slice a3 b.im.length c3, .int .i64 b.data, .slice a4 b.code.length c4⟩ b lE lI) := S3.out.alloc _
              have x5 : Hid (B3 (w3.alloc (.cells #[.slice ax nx cx, .int .i64 p, .int .i64 s] 43 (0, 0))) w3.heap.size 43 (.slice ax nx cx) (.int .i64 p) (.int .i64 s)) := B3.new _ _ _ _ _
              have RR : Hid (RT (w3.alloc (.cells #[.slice ax nx cx, .int .i64 p, .int .i64 s] 43 (0, 0))) ⟨.slice ax nx cx, .int .i64 p, .int .i64 s⟩ ⟨.b xl, .n p, .n s⟩) := RT.keep HRT.out (keep_alloc _ _) (by intro k hk; simp at hk)
              have hBs : B ≤ (w3.alloc (.cells #[.slice ax nx cx, .int .i64 p, .int .i64 s] 43 (0, 0))).heap.size := by have := S4.out.ne; have := S4.out.box.lt; omega
              clear S3 HRT
              generalize w3.alloc (.cells #[.slice ax nx cx, .int .i64 p, .int .i64 s] 43 (0, 0)) = w4 at *
              generalize w3.heap.size = gR at *
              refine hK.out _ _ trivial (fun hHeld => ?_)
              clear hK K
              try simp only [Act.put, List.getElem_toArray, List.getElem_cons_zero, List.getElem_cons_succ, List.setIfInBounds_toArray, List.set_cons_zero, List.set_cons_succ]
              refine wpAnyH_ready (rs := [7]) (by kernel_rfl) (by simp) ?_
              refine AllReadyH.cons (i := 7) (o := ?oA) ?iA (fun K hK => ?_) AllReadyH.nil
              case iA => exact rfl
              rw [if_pos (by kernel_rfl)]
              refine wp_appendE _ _ rfl B (.slice (some ⟨q, 0, none⟩) b.ex.length c2) b.ex.length lE rfl S4.out.d.ex.row gR ⟨.slice ax nx cx, .int .i64 p, .int .i64 s⟩ rfl x5.out RR.out.one (by omega) hBs ?_
              intro v9 w9 ho hg9
              have X9 := S4.out.d.ex.push (by decide) RR.out ho hg9
              obtain ⟨a9, c9, e9, _⟩ := X9.shape
              have e9' : v9 = .slice a9 (b.ex.length + 1) c9 := by rw [e9]; simp
              subst e9'
              have rw8 : ∀ k, (Value.slice (some ⟨q, 0, none⟩) b.ex.length c2).ownBlock = some k → B ≤ k ∧ ∃ cur, w4.heap[k]? = some (.cells cur 43 (0, 0)) := fun k hk => ⟨(S4.out.d.ex.row.lt k hk).1, ownsRow_type S4.out.d.ex.row hk⟩
              have kk : KeepO [(Value.slice (some ⟨q, 0, none⟩) b.ex.length c2).ownBlock] w4 w9 := KeepO.of hg9 (by simp)
              have hnb : ∀ k, some k ∈ [(Value.slice (some ⟨q, 0, none⟩) b.ex.length c2).ownBlock] → ∃ cur, w4.heap[k]? = some (.cells cur 43 (0, 0)) := fun k hk => (rw8 k (by have h0 : some k = (Value.slice (some ⟨q, 0, none⟩) b.ex.length c2).ownBlock := (by simpa using hk); exact h0.symm)).2
              have S9 : Hid (BS2 W w9 g B gb (gb + 1) ⟨.slice a1 b.name.length c1, .slice (some ⟨q, 0, none⟩) b.ex.length c2, .slice a3 b.im.length c3, .int .i64 b.data, .slice a4 b.code.length c4⟩) := S4.out.rest hg9 (fun k hk => by obtain ⟨h8, cur, hb⟩ := rw8 k hk; exact ⟨h8, cur, _, hb, by decide⟩)
              have D9 : Hid (BT w9 (.slice a1 b.name.length c1) b.name ∧ RL w9 47 B (.slice a3 b.im.length c3) lI b.im ∧ BT w9 (.slice a4 b.code.length c4) b.code) := by
                refine ⟨S4.out.d.nm.keep kk (fun k hk => ?_), S4.out.d.im.keep kk (fun k hk => ?_), S4.out.d.cd.keep kk (fun k hk => ?_)⟩
                · obtain ⟨cur, hb⟩ := hnb k hk; exact noB_of hb (by decide)
                · obtain ⟨cur, hb⟩ := hnb k hk
                  refine ⟨noB_of hb (by decide), fun cur' e => ?_⟩
                  rw [hb] at e
                  simp at e
                · obtain ⟨cur, hb⟩ := hnb k hk; exact noB_of hb (by decide)
              have I9 : Hid (RL w9 43 B (.slice a9 (b.ex.length + 1) c9) (lE ++ [⟨.slice ax nx cx, .int .i64 p, .int .i64 s⟩]) (b.ex ++ [⟨.b xl, .n p, .n s⟩])) := X9
              have HS : Hid ((∀ d ∈ b.ex ++ [(⟨.b xl, .n p, .n s⟩ : D3)], isE d ∧ d.len ≤ 80) ∧ (∀ d ∈ b.im, isM d ∧ d.len ≤ 80) ∧ b.name.length ≤ 8 ∧ b.im.length ≤ 3 ∧ b.code.length ≤ 9001) := by
                refine ⟨fun d hd => ?_, S4.out.d.ims, S4.out.d.sm.1, S4.out.d.sm.2.2.1, S4.out.d.sm.2.2.2⟩
                rcases List.mem_append.1 hd with hm | hm
                · exact S4.out.d.exs d hm
                · simp at hm; rw [hm]; exact S4.out.d.exs _ (by rw [HD.out]; simp)
              clear X9 ho hg9 e9 rw8 kk hnb S4 x5 RR
              refine hK.out _ _ trivial (fun hHeld => ?_)
              clear hK K
              try simp only [Act.put, List.getElem_toArray, List.getElem_cons_zero, List.getElem_cons_succ, List.setIfInBounds_toArray, List.set_cons_zero, List.set_cons_succ]
              refine wpAnyH_take (i := 8) (oi := ?o509) (v := ?v509) ?i509 (by kernel_rfl) (by kernel_rfl) (by kernel_rfl) ?q509 ?y509 (hHeld) ?r509
              case i509 => exact rfl
              case q509 => exact (fun _ _ _ h => h)
              case y509 =>
                refine Or.inl ⟨by rfl, ?_⟩
                intro w hSw
                (try dsimp only at hSw)
                go_simp
                first | done | rfl
              try simp only [Act.put, List.getElem_toArray, List.getElem_cons_zero, List.getElem_cons_succ, List.setIfInBounds_toArray, List.set_cons_zero, List.set_cons_succ]
              obtain ⟨_, _, _, _, _⟩ := S9.out.box.facts
              obtain ⟨f0, f1, f2, f3, f4⟩ := S9.out.box.frozen
              have S10 : Hid (BS W (w9.setCell ⟨gb, 1, none⟩ (.slice a9 (b.ex.length + 1) c9)) g B gb (gb + 1) ⟨.slice a1 b.name.length c1, .slice a9 (b.ex.length + 1) c9, .slice a3 b.im.length c3, .int .i64 b.data, .slice a4 b.code.length c4⟩ ⟨b.name, b.ex ++ [⟨.b xl, .n p, .n s⟩], b.im, b.data, b.code⟩ (lE ++ [⟨.slice ax nx cx, .int .i64 p, .int .i64 s⟩]) lI) := S9.out.set (S9.out.box.set1 _) ⟨D9.out.1, I9.out, D9.out.2.1, rfl, D9.out.2.2, HS.out.1, HS.out.2.1, by have := HS.out.2.2; simp only [List.length_append, List.length_cons, List.length_nil]; omega⟩
              refine wpAnyH_ready (rs := [9]) (by kernel_rfl) (by simp) ?_
              refine AllReadyH.cons (i := 9) (o := ?o510) ?i510 (fun K hK => ?_) AllReadyH.nil
              case i510 => exact rfl
              go_simp
              clear f0 f1 f2 f3 f4 S9 D9 I9 HS
              generalize (w9.setCell ⟨gb, 1, none⟩ (.slice a9 (b.ex.length + 1) c9)) = w10 at *
              refine hK.out _ _ trivial (fun hHeld => ?_)
              clear hK K
              try simp only [Act.put, List.getElem_toArray, List.getElem_cons_zero, List.getElem_cons_succ, List.setIfInBounds_toArray, List.set_cons_zero, List.set_cons_succ]
              refine wpAnyH_done (by kernel_rfl) ?_ _
              obtain ⟨p0, p1, p2, p3, p4⟩ := S10.out.box.facts
              obtain ⟨_, _, _, _, _⟩ := S10.out.res.facts
              obtain ⟨f0, f1, f2, f3, f4⟩ := S10.out.res.frozen
              simp only at p0 p1 p2 p3 p4
              go_wp2_with fail
              have E9 := S10.out.done (o := ⟨.slice a1 b.name.length c1, .slice a9 (b.ex.length + 1) c9, .slice a3 b.im.length c3, .int .i64 b.data, .slice a4 b.code.length c4⟩)
              simp only at E9
              generalize (((((w10.setCell ⟨gb + 1, 0, none⟩ (.slice a1 b.name.length c1)).setCell ⟨gb + 1, 1, none⟩ (.slice a9 (b.ex.length + 1) c9)).setCell ⟨gb + 1, 2, none⟩ (.slice a3 b.im.length c3)).setCell ⟨gb + 1, 3, none⟩ (.int .i64 b.data)).setCell ⟨gb + 1, 4, none⟩ (.slice a4 b.code.length c4)) = w9 at *
              obtain ⟨R9, O9, Y9⟩ := E9
              obtain ⟨d0, d1, d2, d3, d4⟩ := R9.facts
              simp only at d0 d1 d2 d3 d4
              refine bodyPost_ret (v := .agg #[.slice a1 b.name.length c1, .slice a9 (b.ex.length + 1) c9, .slice a3 b.im.length c3, .int .i64 b.data, .slice a4 b.code.length c4]) (by simp [results, Try.results12, go_sem, d0, d1, d2, d3, d4]) rfl ⟨⟨.slice a1 b.name.length c1, .slice a9 (b.ex.length + 1) c9, .slice a3 b.im.length c3, .int .i64 b.data, .slice a4 b.code.length c4⟩, rfl, ⟨_, _, _, O9⟩, Y9⟩
          case gK911 =>
            intro K hK
            clear k1
            go_simp
            have S4 : Hid (BS W (w3.alloc (.cells #[.slice ax nx cx, .int .i64 p, .int .i64 s] 43 (0, 0))) g B gb (gb + 1) ⟨.slice a1 b.name.length c1, .slice (some ⟨q, 0, none⟩) b.ex.length c2, .slice a3 b.im.length c3, .int .i64 b.data, .slice a4 b.code.length c4⟩ b lE lI) := S3.out.alloc _
            have x5 : Hid (B3 (w3.alloc (.cells #[.slice ax nx cx, .int .i64 p, .int .i64 s] 43 (0, 0))) w3.heap.size 43 (.slice ax nx cx) (.int .i64 p) (.int .i64 s)) := B3.new _ _ _ _ _
            have RR : Hid (RT (w3.alloc (.cells #[.slice ax nx cx, .int .i64 p, .int .i64 s] 43 (0, 0))) ⟨.slice ax nx cx, .int .i64 p, .int .i64 s⟩ ⟨.b xl, .n p, .n s⟩) := RT.keep HRT.out (keep_alloc _ _) (by intro k hk; simp at hk)
            have hBs : B ≤ (w3.alloc (.cells #[.slice ax nx cx, .int .i64 p, .int .i64 s] 43 (0, 0))).heap.size := by have := S4.out.ne; have := S4.out.box.lt; omega
            clear S3 HRT
            generalize w3.alloc (.cells #[.slice ax nx cx, .int .i64 p, .int .i64 s] 43 (0, 0)) = w4 at *
            generalize w3.heap.size = gR at *
            refine hK.out _ _ trivial (fun hHeld => ?_)
            clear hK K
            try simp only [Act.put, List.getElem_toArray, List.getElem_cons_zero, List.getElem_cons_succ, List.setIfInBounds_toArray, List.set_cons_zero, List.set_cons_succ]
            have k1 : w4.cell? ⟨gb, 1, none⟩ = some (.slice (some ⟨q, 0, none⟩) b.ex.length c2) := S4.out.box.facts.2.1
            refine wpAnyH_ready (rs := [1]) (by kernel_rfl) (by simp) ?_
            refine AllReadyH.cons (i := 1) (o := ?oK913) ?iK913 ?gK913 AllReadyH.nil
            case iK913 => exact rfl
            case gK913 =>
              intro K hK
              go_simp
              clear k1
              refine hK.out _ _ trivial (fun hHeld => ?_)
              clear hK K
              try simp only [Act.put, List.getElem_toArray, List.getElem_cons_zero, List.getElem_cons_succ, List.setIfInBounds_toArray, List.set_cons_zero, List.set_cons_succ]
              refine wpAnyH_ready (rs := [7]) (by kernel_rfl) (by simp) ?_
              refine AllReadyH.cons (i := 7) (o := ?oA) ?iA (fun K hK => ?_) AllReadyH.nil
              case iA => exact rfl
              rw [if_pos (by kernel_rfl)]
              refine wp_appendE _ _ rfl B (.slice (some ⟨q, 0, none⟩) b.ex.length c2) b.ex.length lE rfl S4.out.d.ex.row gR ⟨.slice ax nx cx, .int .i64 p, .int .i64 s⟩ rfl x5.out RR.out.one (by omega) hBs ?_
              intro v9 w9 ho hg9
              have X9 := S4.out.d.ex.push (by decide) RR.out ho hg9
              obtain ⟨a9, c9, e9, _⟩ := X9.shape
              have e9' : v9 = .slice a9 (b.ex.length + 1) c9 := by rw [e9]; simp
              subst e9'
              have rw8 : ∀ k, (Value.slice (some ⟨q, 0, none⟩) b.ex.length c2).ownBlock = some k → B ≤ k ∧ ∃ cur, w4.heap[k]? = some (.cells cur 43 (0, 0)) := fun k hk => ⟨(S4.out.d.ex.row.lt k hk).1, ownsRow_type S4.out.d.ex.row hk⟩
              have kk : KeepO [(Value.slice (some ⟨q, 0, none⟩) b.ex.length c2).ownBlock] w4 w9 := KeepO.of hg9 (by simp)
              have hnb : ∀ k, some k ∈ [(Value.slice (some ⟨q, 0, none⟩) b.ex.length c2).ownBlock] → ∃ cur, w4.heap[k]? = some (.cells cur 43 (0, 0)) := fun k hk => (rw8 k (by have h0 : some k = (Value.slice (some ⟨q, 0, none⟩) b.ex.length c2).ownBlock := (by simpa using hk); exact h0.symm)).2
              have S9 : Hid (BS2 W w9 g B gb (gb + 1) ⟨.slice a1 b.name.length c1, .slice (some ⟨q, 0, none⟩) b.ex.length c2, .slice a3 b.im.length c3, .int .i64 b.data, .slice a4 b.code.length c4⟩) := S4.out.rest hg9 (fun k hk => by obtain ⟨h8, cur, hb⟩ := rw8 k hk; exact ⟨h8, cur, _, hb, by decide⟩)
              have D9 : Hid (BT w9 (.slice a1 b.name.length c1) b.name ∧ RL w9 47 B (.slice a3 b.im.length c3) lI b.im ∧ BT w9 (.slice a4 b.code.length c4) b.code) := by
                refine ⟨S4.out.d.nm.keep kk (fun k hk => ?_), S4.out.d.im.keep kk (fun k hk => ?_), S4.out.d.cd.keep kk (fun k hk => ?_)⟩
                · obtain ⟨cur, hb⟩ := hnb k hk; exact noB_of hb (by decide)
                · obtain ⟨cur, hb⟩ := hnb k hk
                  refine ⟨noB_of hb (by decide), fun cur' e => ?_⟩
                  rw [hb] at e
                  simp at e
                · obtain ⟨cur, hb⟩ := hnb k hk; exact noB_of hb (by decide)
              have I9 : Hid (RL w9 43 B (.slice a9 (b.ex.length + 1) c9) (lE ++ [⟨.slice ax nx cx, .int .i64 p, .int .i64 s⟩]) (b.ex ++ [⟨.b xl, .n p, .n s⟩])) := X9
              have HS : Hid ((∀ d ∈ b.ex ++ [(⟨.b xl, .n p, .n s⟩ : D3)], isE d ∧ d.len ≤ 80) ∧ (∀ d ∈ b.im, isM d ∧ d.len ≤ 80) ∧ b.name.length ≤ 8 ∧ b.im.length ≤ 3 ∧ b.code.length ≤ 9001) := by
                refine ⟨fun d hd => ?_, S4.out.d.ims, S4.out.d.sm.1, S4.out.d.sm.2.2.1, S4.out.d.sm.2.2.2⟩
                rcases List.mem_append.1 hd with hm | hm
                · exact S4.out.d.exs d hm
                · simp at hm; rw [hm]; exact S4.out.d.exs _ (by rw [HD.out]; simp)
              clear X9 ho hg9 e9 rw8 kk hnb S4 x5 RR
              refine hK.out _ _ trivial (fun hHeld => ?_)
              clear hK K
              try simp only [Act.put, List.getElem_toArray, List.getElem_cons_zero, List.getElem_cons_succ, List.setIfInBounds_toArray, List.set_cons_zero, List.set_cons_succ]
              refine wpAnyH_take (i := 8) (oi := ?o511) (v := ?v511) ?i511 (by kernel_rfl) (by kernel_rfl) (by kernel_rfl) ?q511 ?y511 (hHeld) ?r511
              case i511 => exact rfl
              case q511 => exact (fun _ _ _ h => h)
              case y511 =>
                refine Or.inl ⟨by rfl, ?_⟩
                intro w hSw
                (try dsimp only at hSw)
                go_simp
                first | done | rfl
              try simp only [Act.put, List.getElem_toArray, List.getElem_cons_zero, List.getElem_cons_succ, List.setIfInBounds_toArray, List.set_cons_zero, List.set_cons_succ]
              obtain ⟨_, _, _, _, _⟩ := S9.out.box.facts
              obtain ⟨f0, f1, f2, f3, f4⟩ := S9.out.box.frozen
              have S10 : Hid (BS W (w9.setCell ⟨gb, 1, none⟩ (.slice a9 (b.ex.length + 1) c9)) g B gb (gb + 1) ⟨.slice a1 b.name.length c1, .slice a9 (b.ex.length + 1) c9, .slice a3 b.im.length c3, .int .i64 b.data, .slice a4 b.code.length c4⟩ ⟨b.name, b.ex ++ [⟨.b xl, .n p, .n s⟩], b.im, b.data, b.code⟩ (lE ++ [⟨.slice ax nx cx, .int .i64 p, .int .i64 s⟩]) lI) := S9.out.set (S9.out.box.set1 _) ⟨D9.out.1, I9.out, D9.out.2.1, rfl, D9.out.2.2, HS.out.1, HS.out.2.1, by have := HS.out.2.2; simp only [List.length_append, List.length_cons, List.length_nil]; omega⟩
              refine wpAnyH_ready (rs := [9]) (by kernel_rfl) (by simp) ?_
              refine AllReadyH.cons (i := 9) (o := ?o512) ?i512 (fun K hK => ?_) AllReadyH.nil
              case i512 => exact rfl
              go_simp
              clear f0 f1 f2 f3 f4 S9 D9 I9 HS
              generalize (w9.setCell ⟨gb, 1, none⟩ (.slice a9 (b.ex.length + 1) c9)) = w10 at *
              refine hK.out _ _ trivial (fun hHeld => ?_)
              clear hK K
              try simp only [Act.put, List.getElem_toArray, List.getElem_cons_zero, List.getElem_cons_succ, List.setIfInBounds_toArray, List.set_cons_zero, List.set_cons_succ]
              refine wpAnyH_done (by kernel_rfl) ?_ _
              obtain ⟨p0, p1, p2, p3, p4⟩ := S10.out.box.facts
              obtain ⟨_, _, _, _, _⟩ := S10.out.res.facts
              obtain ⟨f0, f1, f2, f3, f4⟩ := S10.out.res.frozen
              simp only at p0 p1 p2 p3 p4
              go_wp2_with fail
              have E9 := S10.out.done (o := ⟨.slice a1 b.name.length c1, .slice a9 (b.ex.length + 1) c9, .slice a3 b.im.length c3, .int .i64 b.data, .slice a4 b.code.length c4⟩)
              simp only at E9
              generalize (((((w10.setCell ⟨gb + 1, 0, none⟩ (.slice a1 b.name.length c1)).setCell ⟨gb + 1, 1, none⟩ (.slice a9 (b.ex.length + 1) c9)).setCell ⟨gb + 1, 2, none⟩ (.slice a3 b.im.length c3)).setCell ⟨gb + 1, 3, none⟩ (.int .i64 b.data)).setCell ⟨gb + 1, 4, none⟩ (.slice a4 b.code.length c4)) = w9 at *
              obtain ⟨R9, O9, Y9⟩ := E9
              obtain ⟨d0, d1, d2, d3, d4⟩ := R9.facts
              simp only at d0 d1 d2 d3 d4
              refine bodyPost_ret (v := .agg #[.slice a1 b.name.length c1, .slice a9 (b.ex.length + 1) c9, .slice a3 b.im.length c3, .int .i64 b.data, .slice a4 b.code.length c4]) (by simp [results, Try.results12, go_sem, d0, d1, d2, d3, d4]) rfl ⟨⟨.slice a1 b.name.length c1, .slice a9 (b.ex.length + 1) c9, .slice a3 b.im.length c3, .int .i64 b.data, .slice a4 b.code.length c4⟩, rfl, ⟨_, _, _, O9⟩, Y9⟩
    · obtain ⟨q, ax, nx, cx, p, s, xl, dr, lr, rfl, hqB, _, _, _, hRT, hds, hlE, cur, hcur⟩ := S2.out.d.ex.first h1 S2.out.d.exs
      have HD : Hid (b.ex = ⟨.b xl, .n p, .n s⟩ :: dr ∧ lE = ⟨.slice ax nx cx, .int .i64 p, .int .i64 s⟩ :: lr) := ⟨hds, hlE⟩
      have hn1 : (0 : Int) < (b.ex.length : Int) := by omega
      have hn0 : 0 < b.ex.length := by omega
      have S3 : Hid (BS W w2.drew g B gb (gb + 1) ⟨.slice a1 b.name.length c1, .slice (some ⟨q, 0, none⟩) b.ex.length c2, .slice a3 b.im.length c3, .int .i64 b.data, .slice a4 b.code.length c4⟩ b lE lI) := S2.out.below (Below.refl _ _).drew
      clear hRT hds hlE hcur S2
      go_upto_region 12 with fail
      refine wp_region_held_drew (S := fun wx => wx.cell? ⟨gb, 1, none⟩ = some (.slice (some ⟨q, 0, none⟩) b.ex.length c2)) (by kernel_rfl) S3.out.box.facts.2.1 (fun hHeld => ?_)
      generalize w2.drew = w3 at *
      refine wpAnyH_take (i := 0) (oi := ?o513) (v := ?v513) ?i513 (by kernel_rfl) (by kernel_rfl) (by kernel_rfl) ?q513 ?y513 (hHeld) ?r513
      case i513 => exact rfl
      case q513 => exact (fun _ _ _ h => h)
      case y513 =>
        refine Or.inl ⟨by rfl, ?_⟩
        intro w hSw
        (try dsimp only at hSw)
        go_simp
        first | done | rfl
      try simp only [Act.put, List.getElem_toArray, List.getElem_cons_zero, List.getElem_cons_succ, List.setIfInBounds_toArray, List.set_cons_zero, List.set_cons_succ]
      refine wpAnyH_take (i := 1) (oi := ?o514) (v := ?v514) ?i514 (by kernel_rfl) (by kernel_rfl) (by kernel_rfl) ?q514 ?y514 (hHeld) ?r514
      case i514 => exact rfl
      case q514 => exact (fun _ _ _ h => h)
      case y514 =>
        refine Or.inl ⟨by rfl, ?_⟩
        intro w hSw
        (try dsimp only at hSw)
        go_simp
        first | done | rfl
      try simp only [Act.put, List.getElem_toArray, List.getElem_cons_zero, List.getElem_cons_succ, List.setIfInBounds_toArray, List.set_cons_zero, List.set_cons_succ]
      refine wpAnyH_take (i := 2) (oi := ?o515) (v := ?v515) ?i515 (by kernel_rfl) (by kernel_rfl) (by kernel_rfl) ?q515 ?y515 (hHeld) ?r515
      case i515 => exact rfl
      case q515 => exact (fun _ _ _ h => h)
      case y515 =>
        refine Or.inl ⟨by rfl, ?_⟩
        intro w hSw
        (try dsimp only at hSw)
        go_simp
        first | done | rfl
      try simp only [Act.put, List.getElem_toArray, List.getElem_cons_zero, List.getElem_cons_succ, List.setIfInBounds_toArray, List.set_cons_zero, List.set_cons_succ]
      have hints := ints_block w3 [-1, 4000, 4001] (inInt_all _ (by decide))
      have S4 : Hid (BS W (w3.alloc (.cells #[.int .i64 (-1), .int .i64 4000, .int .i64 4001] 3)) g B gb (gb + 1) ⟨.slice a1 b.name.length c1, .slice (some ⟨q, 0, none⟩) b.ex.length c2, .slice a3 b.im.length c3, .int .i64 b.data, .slice a4 b.code.length c4⟩ b lE lI) := S3.out.alloc _
      have hlt := S3.out.cur.lt
      have HI : Hid (∀ j, j < 3 → ∃ v, (w3.alloc (.cells #[.int .i64 (-1), .int .i64 4000, .int .i64 4001] 3)).cell? ⟨w3.heap.size, j, none⟩ = some (.int .i64 v) ∧ InInt v) := hints
      have HC : Hid (Cur (w3.alloc (.cells #[.int .i64 (-1), .int .i64 4000, .int .i64 4001] 3)) g) := S4.out.cur
      clear hints
      refine wpAnyH_ready (rs := [3]) (by kernel_rfl) (by simp) ?_
      refine AllReadyH.cons (i := 3) (o := ?o516) ?i516 (fun K hK => ?_) AllReadyH.nil
      case i516 => exact rfl
      go_simp
      generalize (w3.alloc (.cells #[.int .i64 (-1), .int .i64 4000, .int .i64 4001] 3)) = w4 at *
      generalize w3.heap.size = gi at *
      refine hK.out _ _ (S4.out.box.facts.2.1) (fun hHeld => ?_)
      clear hK K
      try simp only [Act.put, List.getElem_toArray, List.getElem_cons_zero, List.getElem_cons_succ, List.setIfInBounds_toArray, List.set_cons_zero, List.set_cons_succ]
      refine wpAnyH_ready (rs := [4]) (by kernel_rfl) (by simp) ?_
      refine AllReadyH.cons (i := 4) (o := ?o517) ?i517 (fun K hK => ?_) AllReadyH.nil
      case i517 => exact rfl
      go_simp
      (with_reducible refine (pickM g gi 3 3 w4 HC.out hlt (by omega) (by omega) HI.out).mono ?_)
      rintro e w5 ⟨x, rfl, hx, hd⟩
      have S5 : Hid (BS W w5 g B gb (gb + 1) ⟨.slice a1 b.name.length c1, .slice (some ⟨q, 0, none⟩) b.ex.length c2, .slice a3 b.im.length c3, .int .i64 b.data, .slice a4 b.code.length c4⟩ b lE lI) := S4.out.drawn hd
      clear hd S4 S3 HI HC hlt
      go_wp2_with fail
      refine hK.out _ _ (S5.out.box.facts.2.1) (fun hHeld => ?_)
      clear hK K
      try simp only [Act.put, List.getElem_toArray, List.getElem_cons_zero, List.getElem_cons_succ, List.setIfInBounds_toArray, List.set_cons_zero, List.set_cons_succ]
      refine wpAnyH_take (i := 5) (oi := ?o518) (v := ?v518) ?i518 (by kernel_rfl) (by kernel_rfl) (by kernel_rfl) ?q518 ?y518 (hHeld) ?r518
      case i518 => exact rfl
      case q518 => exact (fun _ _ _ h => h)
      case y518 =>
        refine Or.inl ⟨by rfl, ?_⟩
        intro w hSw
        (try dsimp only at hSw)
        go_simp
        first | done | rfl
      try simp only [Act.put, List.getElem_toArray, List.getElem_cons_zero, List.getElem_cons_succ, List.setIfInBounds_toArray, List.set_cons_zero, List.set_cons_succ]
      refine wpAnyH_take (i := 6) (oi := ?o519) (v := ?v519) ?i519 (by kernel_rfl) (by kernel_rfl) (by kernel_rfl) ?q519 ?y519 (hHeld) ?r519
      case i519 => exact rfl
      case q519 => exact (fun _ _ _ h => h)
      case y519 =>
        refine Or.inl ⟨by rfl, ?_⟩
        intro w hSw
        (try dsimp only at hSw)
        go_simp
        first | done | rfl
      try simp only [Act.put, List.getElem_toArray, List.getElem_cons_zero, List.getElem_cons_succ, List.setIfInBounds_toArray, List.set_cons_zero, List.set_cons_succ]
      have hT5 : ∃ cur, w5.heap[q]? = some (.cells cur 43 (0, 0)) := ownsRow_type S5.out.d.ex.row rfl
      have S6 : Hid (BS W (w5.setCell ⟨q, 2, none⟩ (.int .i64 x)) g B gb (gb + 1) ⟨.slice a1 b.name.length c1, .slice (some ⟨q, 0, none⟩) b.ex.length c2, .slice a3 b.im.length c3, .int .i64 b.data, .slice a4 b.code.length c4⟩ ⟨b.name, ⟨.b xl, .n p, .n x⟩ :: dr, b.im, b.data, b.code⟩ (⟨.slice ax nx cx, .int .i64 p, .int .i64 x⟩ :: lr) lI) := by
        obtain ⟨cur5, hc5⟩ := hT5
        have hde := HD.out.1
        have hle := HD.out.2
        have hR := S5.out.d.ex.has 0 _ _ (by rw [hle]; rfl) (by rw [hde]; rfl)
        have hX := RL.set1 (i := 2) (v := .int .i64 x) (r' := ⟨.slice ax nx cx, .int .i64 p, .int .i64 x⟩) (d' := ⟨.b xl, .n p, .n x⟩) S5.out.d.ex hle hde rfl ⟨hR.1, hR.2.1, rfl⟩ (noB_of hc5 (by decide))
        have kk := keep_set w5 q 2 (.int .i64 x)
        have hnb : NoB w5 q := noB_of hc5 (by decide)
        refine S5.out.row (grown_set w5 q 2 (.int .i64 x)) (fun k hk => by cases hk; exact ⟨hqB, cur5, _, hc5, by decide⟩) ⟨S5.out.d.nm.keep kk (fun k hk => one_noB hnb hk), ?_, S5.out.d.im.keep kk (fun k hk => ⟨one_noB hnb hk, fun cur e => ?_⟩), rfl, S5.out.d.cd.keep kk (fun k hk => one_noB hnb hk), fun d hd => ?_, S5.out.d.ims, ?_⟩
        · simp only [hde, List.length_cons] at hX ⊢
          exact hX
        · have e1 : k = q := by simpa using hk
          rw [e1, hc5] at e
          simp at e
        · rcases List.mem_cons.1 hd with e | e
          · rw [e]
            have := (S5.out.d.exs ⟨.b xl, .n p, .n s⟩ (by rw [hde]; simp)).2
            exact ⟨⟨_, _, _, rfl⟩, by simpa [D3.len, Fd.len] using this⟩
          · exact S5.out.d.exs d (by rw [hde]; simp [e])
        · have := S5.out.d.sm
          rw [hde] at this
          simpa using this
      obtain ⟨u5, hu5⟩ : ∃ u, w5.cell? ⟨q, 2, none⟩ = some u := by
        obtain ⟨q', _, _, _, _, _, _, _, _, e, _, g0, g1, g2, _⟩ := S5.out.d.ex.first h1 S5.out.d.exs
        simp only [Option.some.injEq, Addr.mk.injEq, and_true] at e
        rw [← e] at g0 g1 g2
        exact ⟨_, g2⟩
      have hfz : w5.frozen? ⟨q, 2, none⟩ = false := by obtain ⟨cur5, hc5⟩ := hT5; exact frozen_of_row w5 q 2 _ _ hc5
      refine wpAnyH_ready (rs := [7]) (by kernel_rfl) (by simp) ?_
      refine AllReadyH.cons (i := 7) (o := ?o520) ?i520 (fun K hK => ?_) AllReadyH.nil
      case i520 => exact rfl
      go_simp
      clear hu5 hfz hT5 S5
      generalize (w5.setCell ⟨q, 2, none⟩ (.int .i64 x)) = w6 at *
      refine hK.out _ _ (S6.out.box.facts.2.1) (fun hHeld => ?_)
      clear hK K
      try simp only [Act.put, List.getElem_toArray, List.getElem_cons_zero, List.getElem_cons_succ, List.setIfInBounds_toArray, List.set_cons_zero, List.set_cons_succ]
      refine wpAnyH_done (by kernel_rfl) ?_ _
      obtain ⟨p0, p1, p2, p3, p4⟩ := S6.out.box.facts
      obtain ⟨_, _, _, _, _⟩ := S6.out.res.facts
      obtain ⟨f0, f1, f2, f3, f4⟩ := S6.out.res.frozen
      simp only at p0 p1 p2 p3 p4
      go_wp2_with fail
      have E9 := S6.out.done (o := ⟨.slice a1 b.name.length c1, .slice (some ⟨q, 0, none⟩) b.ex.length c2, .slice a3 b.im.length c3, .int .i64 b.data, .slice a4 b.code.length c4⟩)
      simp only at E9
      generalize (((((w6.setCell ⟨gb + 1, 0, none⟩ (.slice a1 b.name.length c1)).setCell ⟨gb + 1, 1, none⟩ (.slice (some ⟨q, 0, none⟩) b.ex.length c2)).setCell ⟨gb + 1, 2, none⟩ (.slice a3 b.im.length c3)).setCell ⟨gb + 1, 3, none⟩ (.int .i64 b.data)).setCell ⟨gb + 1, 4, none⟩ (.slice a4 b.code.length c4)) = w9 at *
      obtain ⟨R9, O9, Y9⟩ := E9
      obtain ⟨d0, d1, d2, d3, d4⟩ := R9.facts
      simp only at d0 d1 d2 d3 d4
      refine bodyPost_ret (v := .agg #[.slice a1 b.name.length c1, .slice (some ⟨q, 0, none⟩) b.ex.length c2, .slice a3 b.im.length c3, .int .i64 b.data, .slice a4 b.code.length c4]) (by simp [results, Try.results12, go_sem, d0, d1, d2, d3, d4]) rfl ⟨⟨.slice a1 b.name.length c1, .slice (some ⟨q, 0, none⟩) b.ex.length c2, .slice a3 b.im.length c3, .int .i64 b.data, .slice a4 b.code.length c4⟩, rfl, ⟨_, _, _, O9⟩, Y9⟩
    · obtain ⟨q, ax, nx, cx, p, s, xl, dr, lr, rfl, hqB, _, _, _, hRT, hds, hlE, cur, hcur⟩ := S2.out.d.ex.first h1 S2.out.d.exs
      have HD : Hid (b.ex = ⟨.b xl, .n p, .n s⟩ :: dr ∧ lE = ⟨.slice ax nx cx, .int .i64 p, .int .i64 s⟩ :: lr) := ⟨hds, hlE⟩
      have hn1 : (0 : Int) < (b.ex.length : Int) := by omega
      have hn0 : 0 < b.ex.length := by omega
      have S3 : Hid (BS W w2.drew g B gb (gb + 1) ⟨.slice a1 b.name.length c1, .slice (some ⟨q, 0, none⟩) b.ex.length c2, .slice a3 b.im.length c3, .int .i64 b.data, .slice a4 b.code.length c4⟩ b lE lI) := S2.out.below (Below.refl _ _).drew
      clear hRT hds hlE hcur S2
      go_upto_region 14 with fail
      refine wp_region_held_drew (S := fun wx => wx.cell? ⟨gb, 1, none⟩ = some (.slice (some ⟨q, 0, none⟩) b.ex.length c2)) (by kernel_rfl) S3.out.box.facts.2.1 (fun hHeld => ?_)
      generalize w2.drew = w3 at *
      refine wpAnyH_take (i := 0) (oi := ?o521) (v := ?v521) ?i521 (by kernel_rfl) (by kernel_rfl) (by kernel_rfl) ?q521 ?y521 (hHeld) ?r521
      case i521 => exact rfl
      case q521 => exact (fun _ _ _ h => h)
      case y521 =>
        refine Or.inl ⟨by rfl, ?_⟩
        intro w hSw
        (try dsimp only at hSw)
        go_simp
        first | done | rfl
      try simp only [Act.put, List.getElem_toArray, List.getElem_cons_zero, List.getElem_cons_succ, List.setIfInBounds_toArray, List.set_cons_zero, List.set_cons_succ]
      refine wpAnyH_take (i := 1) (oi := ?o522) (v := ?v522) ?i522 (by kernel_rfl) (by kernel_rfl) (by kernel_rfl) ?q522 ?y522 (hHeld) ?r522
      case i522 => exact rfl
      case q522 => exact (fun _ _ _ h => h)
      case y522 =>
        refine Or.inl ⟨by rfl, ?_⟩
        intro w hSw
        (try dsimp only at hSw)
        go_simp
        first | done | rfl
      try simp only [Act.put, List.getElem_toArray, List.getElem_cons_zero, List.getElem_cons_succ, List.setIfInBounds_toArray, List.set_cons_zero, List.set_cons_succ]
      refine wpAnyH_take (i := 2) (oi := ?o523) (v := ?v523) ?i523 (by kernel_rfl) (by kernel_rfl) (by kernel_rfl) ?q523 ?y523 (hHeld) ?r523
      case i523 => exact rfl
      case q523 => exact (fun _ _ _ h => h)
      case y523 =>
        refine Or.inl ⟨by rfl, ?_⟩
        intro w hSw
        (try dsimp only at hSw)
        go_simp
        first | done | rfl
      try simp only [Act.put, List.getElem_toArray, List.getElem_cons_zero, List.getElem_cons_succ, List.setIfInBounds_toArray, List.set_cons_zero, List.set_cons_succ]
      have hints := ints_block w3 [-1, 2147483647, 2147483648] (inInt_all _ (by decide))
      have S4 : Hid (BS W (w3.alloc (.cells #[.int .i64 (-1), .int .i64 2147483647, .int .i64 2147483648] 3)) g B gb (gb + 1) ⟨.slice a1 b.name.length c1, .slice (some ⟨q, 0, none⟩) b.ex.length c2, .slice a3 b.im.length c3, .int .i64 b.data, .slice a4 b.code.length c4⟩ b lE lI) := S3.out.alloc _
      have hlt := S3.out.cur.lt
      have HI : Hid (∀ j, j < 3 → ∃ v, (w3.alloc (.cells #[.int .i64 (-1), .int .i64 2147483647, .int .i64 2147483648] 3)).cell? ⟨w3.heap.size, j, none⟩ = some (.int .i64 v) ∧ InInt v) := hints
      have HC : Hid (Cur (w3.alloc (.cells #[.int .i64 (-1), .int .i64 2147483647, .int .i64 2147483648] 3)) g) := S4.out.cur
      clear hints
      refine wpAnyH_ready (rs := [3]) (by kernel_rfl) (by simp) ?_
      refine AllReadyH.cons (i := 3) (o := ?o524) ?i524 (fun K hK => ?_) AllReadyH.nil
      case i524 => exact rfl
      go_simp
      generalize (w3.alloc (.cells #[.int .i64 (-1), .int .i64 2147483647, .int .i64 2147483648] 3)) = w4 at *
      generalize w3.heap.size = gi at *
      refine hK.out _ _ (S4.out.box.facts.2.1) (fun hHeld => ?_)
      clear hK K
      try simp only [Act.put, List.getElem_toArray, List.getElem_cons_zero, List.getElem_cons_succ, List.setIfInBounds_toArray, List.set_cons_zero, List.set_cons_succ]
      refine wpAnyH_ready (rs := [4]) (by kernel_rfl) (by simp) ?_
      refine AllReadyH.cons (i := 4) (o := ?o525) ?i525 (fun K hK => ?_) AllReadyH.nil
      case i525 => exact rfl
      go_simp
      (with_reducible refine (pickM g gi 3 3 w4 HC.out hlt (by omega) (by omega) HI.out).mono ?_)
      rintro e w5 ⟨x, rfl, hx, hd⟩
      have S5 : Hid (BS W w5 g B gb (gb + 1) ⟨.slice a1 b.name.length c1, .slice (some ⟨q, 0, none⟩) b.ex.length c2, .slice a3 b.im.length c3, .int .i64 b.data, .slice a4 b.code.length c4⟩ b lE lI) := S4.out.drawn hd
      clear hd S4 S3 HI HC hlt
      go_wp2_with fail
      refine hK.out _ _ (S5.out.box.facts.2.1) (fun hHeld => ?_)
      clear hK K
      try simp only [Act.put, List.getElem_toArray, List.getElem_cons_zero, List.getElem_cons_succ, List.setIfInBounds_toArray, List.set_cons_zero, List.set_cons_succ]
      refine wpAnyH_take (i := 5) (oi := ?o526) (v := ?v526) ?i526 (by kernel_rfl) (by kernel_rfl) (by kernel_rfl) ?q526 ?y526 (hHeld) ?r526
      case i526 => exact rfl
      case q526 => exact (fun _ _ _ h => h)
      case y526 =>
        refine Or.inl ⟨by rfl, ?_⟩
        intro w hSw
        (try dsimp only at hSw)
        go_simp
        first | done | rfl
      try simp only [Act.put, List.getElem_toArray, List.getElem_cons_zero, List.getElem_cons_succ, List.setIfInBounds_toArray, List.set_cons_zero, List.set_cons_succ]
      refine wpAnyH_take (i := 6) (oi := ?o527) (v := ?v527) ?i527 (by kernel_rfl) (by kernel_rfl) (by kernel_rfl) ?q527 ?y527 (hHeld) ?r527
      case i527 => exact rfl
      case q527 => exact (fun _ _ _ h => h)
      case y527 =>
        refine Or.inl ⟨by rfl, ?_⟩
        intro w hSw
        (try dsimp only at hSw)
        go_simp
        first | done | rfl
      try simp only [Act.put, List.getElem_toArray, List.getElem_cons_zero, List.getElem_cons_succ, List.setIfInBounds_toArray, List.set_cons_zero, List.set_cons_succ]
      have hT5 : ∃ cur, w5.heap[q]? = some (.cells cur 43 (0, 0)) := ownsRow_type S5.out.d.ex.row rfl
      have S6 : Hid (BS W (w5.setCell ⟨q, 1, none⟩ (.int .i64 x)) g B gb (gb + 1) ⟨.slice a1 b.name.length c1, .slice (some ⟨q, 0, none⟩) b.ex.length c2, .slice a3 b.im.length c3, .int .i64 b.data, .slice a4 b.code.length c4⟩ ⟨b.name, ⟨.b xl, .n x, .n s⟩ :: dr, b.im, b.data, b.code⟩ (⟨.slice ax nx cx, .int .i64 x, .int .i64 s⟩ :: lr) lI) := by
        obtain ⟨cur5, hc5⟩ := hT5
        have hde := HD.out.1
        have hle := HD.out.2
        have hR := S5.out.d.ex.has 0 _ _ (by rw [hle]; rfl) (by rw [hde]; rfl)
        have hX := RL.set1 (i := 1) (v := .int .i64 x) (r' := ⟨.slice ax nx cx, .int .i64 x, .int .i64 s⟩) (d' := ⟨.b xl, .n x, .n s⟩) S5.out.d.ex hle hde rfl ⟨hR.1, rfl, hR.2.2⟩ (noB_of hc5 (by decide))
        have kk := keep_set w5 q 1 (.int .i64 x)
        have hnb : NoB w5 q := noB_of hc5 (by decide)
        refine S5.out.row (grown_set w5 q 1 (.int .i64 x)) (fun k hk => by cases hk; exact ⟨hqB, cur5, _, hc5, by decide⟩) ⟨S5.out.d.nm.keep kk (fun k hk => one_noB hnb hk), ?_, S5.out.d.im.keep kk (fun k hk => ⟨one_noB hnb hk, fun cur e => ?_⟩), rfl, S5.out.d.cd.keep kk (fun k hk => one_noB hnb hk), fun d hd => ?_, S5.out.d.ims, ?_⟩
        · simp only [hde, List.length_cons] at hX ⊢
          exact hX
        · have e1 : k = q := by simpa using hk
          rw [e1, hc5] at e
          simp at e
        · rcases List.mem_cons.1 hd with e | e
          · rw [e]
            have := (S5.out.d.exs ⟨.b xl, .n p, .n s⟩ (by rw [hde]; simp)).2
            exact ⟨⟨_, _, _, rfl⟩, by simpa [D3.len, Fd.len] using this⟩
          · exact S5.out.d.exs d (by rw [hde]; simp [e])
        · have := S5.out.d.sm
          rw [hde] at this
          simpa using this
      obtain ⟨u5, hu5⟩ : ∃ u, w5.cell? ⟨q, 1, none⟩ = some u := by
        obtain ⟨q', _, _, _, _, _, _, _, _, e, _, g0, g1, g2, _⟩ := S5.out.d.ex.first h1 S5.out.d.exs
        simp only [Option.some.injEq, Addr.mk.injEq, and_true] at e
        rw [← e] at g0 g1 g2
        exact ⟨_, g1⟩
      have hfz : w5.frozen? ⟨q, 1, none⟩ = false := by obtain ⟨cur5, hc5⟩ := hT5; exact frozen_of_row w5 q 1 _ _ hc5
      refine wpAnyH_ready (rs := [7]) (by kernel_rfl) (by simp) ?_
      refine AllReadyH.cons (i := 7) (o := ?o528) ?i528 (fun K hK => ?_) AllReadyH.nil
      case i528 => exact rfl
      go_simp
      clear hu5 hfz hT5 S5
      generalize (w5.setCell ⟨q, 1, none⟩ (.int .i64 x)) = w6 at *
      refine hK.out _ _ (S6.out.box.facts.2.1) (fun hHeld => ?_)
      clear hK K
      try simp only [Act.put, List.getElem_toArray, List.getElem_cons_zero, List.getElem_cons_succ, List.setIfInBounds_toArray, List.set_cons_zero, List.set_cons_succ]
      refine wpAnyH_done (by kernel_rfl) ?_ _
      obtain ⟨p0, p1, p2, p3, p4⟩ := S6.out.box.facts
      obtain ⟨_, _, _, _, _⟩ := S6.out.res.facts
      obtain ⟨f0, f1, f2, f3, f4⟩ := S6.out.res.frozen
      simp only at p0 p1 p2 p3 p4
      go_wp2_with fail
      have E9 := S6.out.done (o := ⟨.slice a1 b.name.length c1, .slice (some ⟨q, 0, none⟩) b.ex.length c2, .slice a3 b.im.length c3, .int .i64 b.data, .slice a4 b.code.length c4⟩)
      simp only at E9
      generalize (((((w6.setCell ⟨gb + 1, 0, none⟩ (.slice a1 b.name.length c1)).setCell ⟨gb + 1, 1, none⟩ (.slice (some ⟨q, 0, none⟩) b.ex.length c2)).setCell ⟨gb + 1, 2, none⟩ (.slice a3 b.im.length c3)).setCell ⟨gb + 1, 3, none⟩ (.int .i64 b.data)).setCell ⟨gb + 1, 4, none⟩ (.slice a4 b.code.length c4)) = w9 at *
      obtain ⟨R9, O9, Y9⟩ := E9
      obtain ⟨d0, d1, d2, d3, d4⟩ := R9.facts
      simp only at d0 d1 d2 d3 d4
      refine bodyPost_ret (v := .agg #[.slice a1 b.name.length c1, .slice (some ⟨q, 0, none⟩) b.ex.length c2, .slice a3 b.im.length c3, .int .i64 b.data, .slice a4 b.code.length c4]) (by simp [results, Try.results12, go_sem, d0, d1, d2, d3, d4]) rfl ⟨⟨.slice a1 b.name.length c1, .slice (some ⟨q, 0, none⟩) b.ex.length c2, .slice a3 b.im.length c3, .int .i64 b.data, .slice a4 b.code.length c4⟩, rfl, ⟨_, _, _, O9⟩, Y9⟩
    · have S3 : Hid (BS W (w2.alloc (.cells #[.slice none 0 0, .slice none 0 0, .int .i64 0] 47 (0, 0))) g B gb (gb + 1) ⟨.slice a1 b.name.length c1, .slice a2 b.ex.length c2, .slice a3 b.im.length c3, .int .i64 b.data, .slice a4 b.code.length c4⟩ b lE lI) := S2.out.alloc _
      have x5 := B3.new w2 47 (.slice none 0 0) (.slice none 0 0) (.int .i64 0)
      have RR : Hid (RT (w2.alloc (.cells #[.slice none 0 0, .slice none 0 0, .int .i64 0] 47 (0, 0))) ⟨.slice none 0 0, .slice none 0 0, .int .i64 0⟩ ⟨.b [], .b [], .n 0⟩) := by
        have hn : BT (w2.alloc (.cells #[.slice none 0 0, .slice none 0 0, .int .i64 0] 47 (0, 0))) (.slice none 0 0) [] := ⟨none, 0, rfl, ⟨rfl, by simp, by simp⟩, by simp, by unfold maxLen; simp, fun _ => rfl, fun b off e => by cases e⟩
        exact ⟨hn, hn, rfl⟩
      have hone := RR.out.one
      have hBs : B ≤ w2.heap.size := by have := S2.out.ne; have := S2.out.box.lt; omega
      obtain ⟨p0, p1, p2, p3, p4⟩ := S2.out.box.facts
      simp only at p0 p1 p2 p3 p4
      have hi2 : b.im.length ≤ 1000 := by omega
      go_wp2_with (at_builtin; refine wpList_appendM rfl _ _ rfl B (.slice a3 b.im.length c3) b.im.length lI rfl S3.out.d.im.row w2.heap.size ⟨.slice none 0 0, .slice none 0 0, .int .i64 0⟩ rfl x5 hone hi2 (by simp; omega) ?_)
      intro v9 w9 ho hg9
      have X9 := S3.out.d.im.push (by decide) RR.out ho hg9
      obtain ⟨a9, c9, e9, _⟩ := X9.shape
      have e9' : v9 = .slice a9 (b.im.length + 1) c9 := by rw [e9]; simp
      subst e9'
      have rw8 : ∀ k, (Value.slice a3 b.im.length c3).ownBlock = some k → B ≤ k ∧ ∃ cur, (w2.alloc (.cells #[.slice none 0 0, .slice none 0 0, .int .i64 0] 47 (0, 0))).heap[k]? = some (.cells cur 47 (0, 0)) := fun k hk => ⟨(S3.out.d.im.row.lt k hk).1, ownsRow_type S3.out.d.im.row hk⟩
      have kk : KeepO [(Value.slice a3 b.im.length c3).ownBlock] (w2.alloc (.cells #[.slice none 0 0, .slice none 0 0, .int .i64 0] 47 (0, 0))) w9 := KeepO.of hg9 (by simp)
      have hnb : ∀ k, some k ∈ [(Value.slice a3 b.im.length c3).ownBlock] → ∃ cur, (w2.alloc (.cells #[.slice none 0 0, .slice none 0 0, .int .i64 0] 47 (0, 0))).heap[k]? = some (.cells cur 47 (0, 0)) := fun k hk => (rw8 k (by have h0 : some k = (Value.slice a3 b.im.length c3).ownBlock := (by simpa using hk); exact h0.symm)).2
      have S9 : Hid (BS2 W w9 g B gb (gb + 1) ⟨.slice a1 b.name.length c1, .slice a2 b.ex.length c2, .slice a3 b.im.length c3, .int .i64 b.data, .slice a4 b.code.length c4⟩) := S3.out.rest hg9 (fun k hk => by obtain ⟨h8, cur, hb⟩ := rw8 k hk; exact ⟨h8, cur, _, hb, by decide⟩)
      have D9 : Hid (BT w9 (.slice a1 b.name.length c1) b.name ∧ RL w9 43 B (.slice a2 b.ex.length c2) lE b.ex ∧ BT w9 (.slice a4 b.code.length c4) b.code) := by
        refine ⟨S3.out.d.nm.keep kk (fun k hk => ?_), S3.out.d.ex.keep kk (fun k hk => ?_), S3.out.d.cd.keep kk (fun k hk => ?_)⟩
        · obtain ⟨cur, hb⟩ := hnb k hk; exact noB_of hb (by decide)
        · obtain ⟨cur, hb⟩ := hnb k hk
          refine ⟨noB_of hb (by decide), fun cur' e => ?_⟩
          rw [hb] at e
          simp at e
        · obtain ⟨cur, hb⟩ := hnb k hk; exact noB_of hb (by decide)
      have I9 : Hid (RL w9 47 B (.slice a9 (b.im.length + 1) c9) (lI ++ [⟨.slice none 0 0, .slice none 0 0, .int .i64 0⟩]) (b.im ++ [⟨.b [], .b [], .n 0⟩])) := X9
      have HS : Hid ((∀ d ∈ b.ex, isE d ∧ d.len ≤ 80) ∧ (∀ d ∈ b.im, isM d ∧ d.len ≤ 80) ∧ b.name.length ≤ 8 ∧ b.code.length ≤ 9001) := ⟨S3.out.d.exs, S3.out.d.ims, S3.out.d.sm.1, S3.out.d.sm.2.2.2⟩
      clear X9 ho hg9 e9 rw8 kk hnb S3 x5 RR hone p0 p1 p2 p3 p4 S2
      obtain ⟨_, _, _, _, _⟩ := S9.out.box.facts
      obtain ⟨f0, f1, f2, f3, f4⟩ := S9.out.box.frozen
      go_upto_region 17 with fail
      have S10 : Hid (BS W (w9.setCell ⟨gb, 2, none⟩ (.slice a9 (b.im.length + 1) c9)) g B gb (gb + 1) ⟨.slice a1 b.name.length c1, .slice a2 b.ex.length c2, .slice a9 (b.im.length + 1) c9, .int .i64 b.data, .slice a4 b.code.length c4⟩ ⟨b.name, b.ex, b.im ++ [⟨.b [], .b [], .n 0⟩], b.data, b.code⟩ lE (lI ++ [⟨.slice none 0 0, .slice none 0 0, .int .i64 0⟩])) := S9.out.set (S9.out.box.set2 _) ⟨D9.out.1, D9.out.2.1, I9.out, rfl, D9.out.2.2, HS.out.1, fun d hd => by
          rcases List.mem_append.1 hd with hm | hm
          · exact HS.out.2.1 d hm
          · simp at hm; rw [hm]; exact ⟨⟨_, _, _, rfl⟩, by simp [D3.len, Fd.len]⟩, by have := HS.out.2.2; simp only [List.length_append, List.length_cons, List.length_nil]; omega⟩
      clear f0 f1 f2 f3 f4 S9 D9 I9 HS
      generalize (w9.setCell ⟨gb, 2, none⟩ (.slice a9 (b.im.length + 1) c9)) = w10 at *
      obtain ⟨p0, p1, p2, p3, p4⟩ := S10.out.box.facts
      obtain ⟨_, _, _, _, _⟩ := S10.out.res.facts
      obtain ⟨f0, f1, f2, f3, f4⟩ := S10.out.res.frozen
      simp only at p0 p1 p2 p3 p4
      go_wp2_with fail
      have E9 := S10.out.done (o := ⟨.slice a1 b.name.length c1, .slice a2 b.ex.length c2, .slice a9 (b.im.length + 1) c9, .int .i64 b.data, .slice a4 b.code.length c4⟩)
      simp only at E9
      generalize (((((w10.setCell ⟨gb + 1, 0, none⟩ (.slice a1 b.name.length c1)).setCell ⟨gb + 1, 1, none⟩ (.slice a2 b.ex.length c2)).setCell ⟨gb + 1, 2, none⟩ (.slice a9 (b.im.length + 1) c9)).setCell ⟨gb + 1, 3, none⟩ (.int .i64 b.data)).setCell ⟨gb + 1, 4, none⟩ (.slice a4 b.code.length c4)) = w9 at *
      obtain ⟨R9, O9, Y9⟩ := E9
      obtain ⟨d0, d1, d2, d3, d4⟩ := R9.facts
      simp only at d0 d1 d2 d3 d4
      refine bodyPost_ret (v := .agg #[.slice a1 b.name.length c1, .slice a2 b.ex.length c2, .slice a9 (b.im.length + 1) c9, .int .i64 b.data, .slice a4 b.code.length c4]) (by simp [results, Try.results12, go_sem, d0, d1, d2, d3, d4]) rfl ⟨⟨.slice a1 b.name.length c1, .slice a2 b.ex.length c2, .slice a9 (b.im.length + 1) c9, .int .i64 b.data, .slice a4 b.code.length c4⟩, rfl, ⟨_, _, _, O9⟩, Y9⟩
    · go_wp2_with fail
      refine (belowM g _ w2 S2.out.cur (by omega)).mono ?_
      rintro e w3 ⟨y, rfl, ya, yb, _, hd⟩
      replace yb : y < 2 := yb (by omega)
      obtain ⟨yn, rfl⟩ := Int.eq_ofNat_of_zero_le ya
      have S3 : Hid (BS W w3 g B gb (gb + 1) ⟨.slice a1 b.name.length c1, .slice a2 b.ex.length c2, .slice a3 b.im.length c3, .int .i64 b.data, .slice a4 b.code.length c4⟩ b lE lI) := S2.out.drawn hd
      clear hd S2 ya
      obtain ⟨i0, hi, hz0, hz1, hz2⟩ := info_parts info5
      go_wp2_with (at_make; refine wpList_make_full _ rfl _ _ 22 rfl w3.heap.size 5 i0 (.int .u8 0) 1 Try.underlying22 hi hz0 hz1 _ _ _ _ (9000 + yn) rfl rfl (by omega) (by omega) (by rw [hz2]; omega) (by unfold maxLen; omega) (Nat.le_refl _) ?_)
      intro w4 ho hg4
      have b34 : Below w3.heap.size w3 w4 := (Below.refl _ _).grown hg4 (Nat.le_refl _) (by intro k hk; cases hk)
      have S4 : Hid (BS W w4 g B gb (gb + 1) ⟨.slice a1 b.name.length c1, .slice a2 b.ex.length c2, .slice a3 b.im.length c3, .int .i64 b.data, .slice a4 b.code.length c4⟩ b lE lI) := S3.out.below b34
      have hz : (madeCells #[Value.int IntKind.u8 0] (9000 + yn)).toList = (List.replicate (9000 + yn) (0 : Int)).map (Value.int .u8) := by
        have e : (madeCells #[Value.int IntKind.u8 0] (9000 + yn)).toList = List.replicate (9000 + yn) (Value.int IntKind.u8 0) := toList_madeCells_one _ _
        rw [List.map_replicate]
        exact e
      rw [hz] at ho
      have C4 : Hid (BT w4 (.slice (some ⟨w3.heap.size, 0, none⟩) (9000 + yn) (9000 + yn)) (List.replicate (9000 + yn) 0)) := Own.bt (n := 9000 + yn) ⟨ho, by intro x hx; have := List.eq_of_mem_replicate hx; omega⟩
      clear ho hg4 hz b34 S3 hi hz0 hz1 hz2
      obtain ⟨_, _, _, _, _⟩ := S4.out.box.facts
      obtain ⟨f0, f1, f2, f3, f4⟩ := S4.out.box.frozen
      go_upto_region 17 with fail
      have S5 : Hid (BS W (w4.setCell ⟨gb, 4, none⟩ (.slice (some ⟨w3.heap.size, 0, none⟩) (9000 + yn) (9000 + yn))) g B gb (gb + 1) ⟨.slice a1 b.name.length c1, .slice a2 b.ex.length c2, .slice a3 b.im.length c3, .int .i64 b.data, .slice (some ⟨w3.heap.size, 0, none⟩) (9000 + yn) (9000 + yn)⟩ ⟨b.name, b.ex, b.im, b.data, List.replicate (9000 + yn) 0⟩ lE lI) := S4.out.set (S4.out.box.set4 _) ⟨S4.out.d.nm, S4.out.d.ex, S4.out.d.im, rfl, C4.out, S4.out.d.exs, S4.out.d.ims, by have := S4.out.d.sm; simp only [List.length_replicate]; omega⟩
      clear S4 C4 f0 f1 f2 f3 f4
      generalize (w4.setCell ⟨gb, 4, none⟩ (.slice (some ⟨w3.heap.size, 0, none⟩) (9000 + yn) (9000 + yn))) = w5 at *
      obtain ⟨p0, p1, p2, p3, p4⟩ := S5.out.box.facts
      obtain ⟨_, _, _, _, _⟩ := S5.out.res.facts
      obtain ⟨f0, f1, f2, f3, f4⟩ := S5.out.res.frozen
      simp only at p0 p1 p2 p3 p4
      go_wp2_with fail
      have E9 := S5.out.done (o := ⟨.slice a1 b.name.length c1, .slice a2 b.ex.length c2, .slice a3 b.im.length c3, .int .i64 b.data, .slice (some ⟨w3.heap.size, 0, none⟩) (9000 + yn) (9000 + yn)⟩)
      simp only at E9
      generalize (((((w5.setCell ⟨gb + 1, 0, none⟩ (.slice a1 b.name.length c1)).setCell ⟨gb + 1, 1, none⟩ (.slice a2 b.ex.length c2)).setCell ⟨gb + 1, 2, none⟩ (.slice a3 b.im.length c3)).setCell ⟨gb + 1, 3, none⟩ (.int .i64 b.data)).setCell ⟨gb + 1, 4, none⟩ (.slice (some ⟨w3.heap.size, 0, none⟩) (9000 + yn) (9000 + yn))) = w9 at *
      obtain ⟨R9, O9, Y9⟩ := E9
      obtain ⟨d0, d1, d2, d3, d4⟩ := R9.facts
      simp only at d0 d1 d2 d3 d4
      refine bodyPost_ret (v := .agg #[.slice a1 b.name.length c1, .slice a2 b.ex.length c2, .slice a3 b.im.length c3, .int .i64 b.data, .slice (some ⟨w3.heap.size, 0, none⟩) (9000 + yn) (9000 + yn)]) (by simp [results, Try.results12, go_sem, d0, d1, d2, d3, d4]) rfl ⟨⟨.slice a1 b.name.length c1, .slice a2 b.ex.length c2, .slice a3 b.im.length c3, .int .i64 b.data, .slice (some ⟨w3.heap.size, 0, none⟩) (9000 + yn) (9000 + yn)⟩, rfl, ⟨_, _, _, O9⟩, Y9⟩
end Go.Proofs.Ytnhebknckgffoaa

/- A drawn object. -/
namespace Go.Proofs.Ytnhebknckgffoaa
open Go.RowKit
set_option linter.unusedVariables false
set_option linter.unusedSimpArgs false
set_option maxRecDepth 100000

theorem RL.drawn {w w' : World} {T B g : Nat} {v : Value} {l : List R3} {ds : List D3} (h : RL w T B v l ds) (hd : Drawn w w' g) (hc : Cur w g) (hT : T = 43 ∨ T = 47) : RL w' T B v l ds := by
  have hf := hc.free
  refine h.keep hd.keepO (fun k hk => ⟨one_noB hf.noB hk, fun cur e => ?_⟩)
  have := one_free hf hk cur _ _ e
  rcases hT with e1 | e1
  · exact this.2.1 e1
  · exact this.2.2 e1
theorem BT.drawn {w w' : World} {g : Nat} {v : Value} {l : List Int} (h : BT w v l) (hd : Drawn w w' g) (hc : Cur w g) : BT w' v l := h.keep hd.keepO (fun k hk => one_noB hc.free.noB hk)

set_option maxHeartbeats 16000000 in
theorem l5drawM (g B : Nat) (w : World) (h : Cur w g) (hgB : g < B) (hBw : B ≤ w.heap.size) :
    Calls Try.prog 13 #[.pointer (some ⟨g, 0, none⟩)] w fun e w' => ∃ (o : O5), e = .returned (.agg #[o.x, o.e, o.i, o.d, o.c]) ∧ (∃ b : Ob, (∃ lE lI, DOb w' B o b lE lI) ∧ 1 ≤ b.ex.length ∧ b.ex.length ≤ 3 ∧ b.im.length ≤ 2 ∧ b.code.length ≤ 1000) ∧ Drawn w w' g := by
  have hgw : g < w.heap.size := h.lt
  have x0 := B5.new w 26 ⟨.slice none 0 0, .slice none 0 0, .slice none 0 0, .int .i64 0, .slice none 0 0⟩
  have d0 : Drawn w (w.alloc (.cells #[.slice none 0 0, .slice none 0 0, .slice none 0 0, .int .i64 0, .slice none 0 0] 26 (0, 0))) g := h.start _
  simp only at x0
  clear h
  have kc := fun (w : World) (C : Array Value) (n c : Nat) => Lib.run_convert_bytes_const (P := Try.prog) w 22 5 C n c Try.underlying22 Try.underlying5
  go_enter Try.func13, Try.ntmps13
  go_upto_region 1 with fail
  generalize w.alloc (.cells #[.slice none 0 0, .slice none 0 0, .slice none 0 0, .int .i64 0, .slice none 0 0] 26 (0, 0)) = w1 at *
  have HX : Hid (B5 w1 w.heap.size 26 ⟨.slice none 0 0, .slice none 0 0, .slice none 0 0, .int .i64 0, .slice none 0 0⟩ ∧ Drawn w w1 g) := ⟨x0, d0⟩
  clear x0 d0
  go_wp2_with fail
  refine (belowM g _ w1 HX.out.2.1 (by omega)).mono ?_
  rintro e w2 ⟨k1, rfl, k1a, k1b, _, hd⟩
  replace k1b : k1 < 3 := k1b (by omega)
  obtain ⟨m, rfl⟩ := Int.eq_ofNat_of_zero_le k1a
  have hm : m < 3 := by omega
  have H0 : Hid (∃ li ds, RL w2 47 w.heap.size (.slice none 0 0) li ds ∧ ds.length = 0 ∧ (∀ d ∈ ds, isM d ∧ d.len ≤ 80) ∧ Drawn w w2 g ∧ B5 w2 w.heap.size 26 ⟨.slice none 0 0, .slice none 0 0, .slice none 0 0, .int .i64 0, .slice none 0 0⟩) :=
    ⟨[], [], RL.nil _ _ _, rfl, by simp, HX.out.2.trans hd, B5.keep HX.out.1 hd.keepO (by simp; omega)⟩
  clear hd k1a k1b HX
  go_wp2_with fail
  go_loopw [4, 5] (fun v i wr => ∃ j : Nat, j ≤ m ∧ i = .int .i64 j ∧ ∃ a' c', v = .slice a' j c' ∧ Hid (∃ li ds, RL wr 47 w.heap.size (.slice a' j c') li ds ∧ ds.length = j ∧ (∀ d ∈ ds, isM d ∧ d.len ≤ 80) ∧ Drawn w wr g ∧ B5 wr w.heap.size 26 ⟨.slice none 0 0, .slice none 0 0, .slice none 0 0, .int .i64 0, .slice none 0 0⟩)) (fun _ i _ => m - (intOf i).toNat)
  case atStart => exact ⟨0, Nat.zero_le _, rfl, none, 0, rfl, H0.out⟩
  case round =>
    obtain ⟨j, hj, rfl, a', c', rfl, HR⟩ := hrel
    obtain ⟨li, ds, hL, hdl, hds, hD, hB5⟩ := HR.out
    have L0 : Hid (RL wr 47 w.heap.size (.slice a' j c') li ds ∧ ds.length = j ∧ (∀ d ∈ ds, isM d ∧ d.len ≤ 80)) := ⟨hL, hdl, hds⟩
    have D0 : Hid (Drawn w wr g ∧ B5 wr w.heap.size 26 ⟨.slice none 0 0, .slice none 0 0, .slice none 0 0, .int .i64 0, .slice none 0 0⟩) := ⟨hD, hB5⟩
    clear hL hdl hds hD hB5 HR
    by_cases hlt : j < m
    · have kA : KeepO [] wr (wr.alloc (.cells #[.int .u8 65] 5 (1, 2))) := keep_alloc _ _
      have L1 : Hid (RL (wr.alloc (.cells #[.int .u8 65] 5 (1, 2))) 47 w.heap.size (.slice a' j c') li ds) := L0.out.1.keep kA (by intro k hk; simp at hk)
      have D1 : Hid (Drawn w (wr.alloc (.cells #[.int .u8 65] 5 (1, 2))) g ∧ B5 (wr.alloc (.cells #[.int .u8 65] 5 (1, 2))) w.heap.size 26 ⟨.slice none 0 0, .slice none 0 0, .slice none 0 0, .int .i64 0, .slice none 0 0⟩) := ⟨D0.out.1.alloc _, D0.out.2.old⟩
      have A1 : Hid (BT (wr.alloc (.cells #[.int .u8 65] 5 (1, 2))) (.slice (some ⟨wr.heap.size, 0, none⟩) 1 1) [65]) := bt_one wr 65 (by omega) (by omega) (1, 2)
      have hw0 : w.heap.size ≤ wr.heap.size := D0.out.1.2.size
      clear kA D0
      go_wp2_with fail
      generalize wr.alloc (.cells #[.int .u8 65] 5 (1, 2)) = wA at *
      generalize wr.heap.size = gA at *
      refine (belowM g _ wA D1.out.1.1 (by omega)).mono ?_
      rintro e wB ⟨y, rfl, ya, yb, _, hd⟩
      replace yb : y < 3 := yb (by omega)
      have L2 : Hid (RL wB 47 w.heap.size (.slice a' j c') li ds) := L1.out.drawn hd D1.out.1.1 (.inr rfl)
      have D2 : Hid (Drawn w wB g ∧ B5 wB w.heap.size 26 ⟨.slice none 0 0, .slice none 0 0, .slice none 0 0, .int .i64 0, .slice none 0 0⟩) := ⟨D1.out.1.trans hd, B5.keep D1.out.2 hd.keepO (by simp; omega)⟩
      have A2 : Hid (BT wB (.slice (some ⟨gA, 0, none⟩) 1 1) [65]) := A1.out.drawn hd D1.out.1.1
      clear hd L1 D1 A1
      have hwrp : IntKind.u8.wrap (112 + y) = 112 + y := by rw [IntKind.wrap_u8]; omega
      have kB : KeepO [] wB (wB.alloc (.cells #[.int .u8 (112 + y)] 5)) := keep_alloc _ _
      have L3 : Hid (RL (wB.alloc (.cells #[.int .u8 (112 + y)] 5)) 47 w.heap.size (.slice a' j c') li ds) := L2.out.keep kB (by intro k hk; simp at hk)
      have D3 : Hid (Drawn w (wB.alloc (.cells #[.int .u8 (112 + y)] 5)) g ∧ B5 (wB.alloc (.cells #[.int .u8 (112 + y)] 5)) w.heap.size 26 ⟨.slice none 0 0, .slice none 0 0, .slice none 0 0, .int .i64 0, .slice none 0 0⟩) := ⟨D2.out.1.alloc _, D2.out.2.old⟩
      have A3 : Hid (BT (wB.alloc (.cells #[.int .u8 (112 + y)] 5)) (.slice (some ⟨gA, 0, none⟩) 1 1) [65]) := A2.out.keep kB (by intro k hk; simp at hk)
      have M3 : Hid (BT (wB.alloc (.cells #[.int .u8 (112 + y)] 5)) (.slice (some ⟨wB.heap.size, 0, none⟩) 1 1) [112 + y]) := bt_one wB (112 + y) (by omega) (by omega) (0, 0)
      clear kB L2 D2 A2
      go_wp2_with fail
      generalize (wB.alloc (.cells #[.int .u8 (112 + y)] 5)) = wC at *
      generalize wB.heap.size = gB at *
      refine (belowM g _ wC D3.out.1.1 (by omega)).mono ?_
      rintro e wD ⟨z, rfl, za, zb, _, hd⟩
      have L4 : Hid (RL wD 47 w.heap.size (.slice a' j c') li ds) := L3.out.drawn hd D3.out.1.1 (.inr rfl)
      have D4 : Hid (Drawn w wD g ∧ B5 wD w.heap.size 26 ⟨.slice none 0 0, .slice none 0 0, .slice none 0 0, .int .i64 0, .slice none 0 0⟩) := ⟨D3.out.1.trans hd, B5.keep D3.out.2 hd.keepO (by simp; omega)⟩
      have A4 : Hid (BT wD (.slice (some ⟨gA, 0, none⟩) 1 1) [65]) := A3.out.drawn hd D3.out.1.1
      have M4 : Hid (BT wD (.slice (some ⟨gB, 0, none⟩) 1 1) [112 + y]) := M3.out.drawn hd D3.out.1.1
      clear hd L3 D3 A3 M3
      have kD : KeepO [] wD (wD.alloc (.cells #[.slice (some ⟨gA, 0, none⟩) 1 1, .slice (some ⟨gB, 0, none⟩) 1 1, .int .i64 z] 47 (0, 0))) := keep_alloc _ _
      have L5 : Hid (RL (wD.alloc (.cells #[.slice (some ⟨gA, 0, none⟩) 1 1, .slice (some ⟨gB, 0, none⟩) 1 1, .int .i64 z] 47 (0, 0))) 47 w.heap.size (.slice a' j c') li ds) := L4.out.keep kD (by intro k hk; simp at hk)
      have D5 : Hid (Drawn w (wD.alloc (.cells #[.slice (some ⟨gA, 0, none⟩) 1 1, .slice (some ⟨gB, 0, none⟩) 1 1, .int .i64 z] 47 (0, 0))) g ∧ B5 (wD.alloc (.cells #[.slice (some ⟨gA, 0, none⟩) 1 1, .slice (some ⟨gB, 0, none⟩) 1 1, .int .i64 z] 47 (0, 0))) w.heap.size 26 ⟨.slice none 0 0, .slice none 0 0, .slice none 0 0, .int .i64 0, .slice none 0 0⟩) := ⟨D4.out.1.alloc _, D4.out.2.old⟩
      have RR : Hid (RT (wD.alloc (.cells #[.slice (some ⟨gA, 0, none⟩) 1 1, .slice (some ⟨gB, 0, none⟩) 1 1, .int .i64 z] 47 (0, 0))) ⟨.slice (some ⟨gA, 0, none⟩) 1 1, .slice (some ⟨gB, 0, none⟩) 1 1, .int .i64 z⟩ ⟨.b [65], .b [112 + y], .n z⟩) := ⟨A4.out.keep kD (by intro k hk; simp at hk), M4.out.keep kD (by intro k hk; simp at hk), rfl⟩
      have x5 := B3.new wD 47 (.slice (some ⟨gA, 0, none⟩) 1 1) (.slice (some ⟨gB, 0, none⟩) 1 1) (.int .i64 z)
      have hone := RR.out.one
      have hwD : w.heap.size ≤ wD.heap.size := D4.out.1.2.size
      have HO : Hid ((wD.alloc (.cells #[.slice (some ⟨gA, 0, none⟩) 1 1, .slice (some ⟨gB, 0, none⟩) 1 1, .int .i64 z] 47 (0, 0))).ownsRow w.heap.size 47 3 (.slice a' j c') j (flat3 li)) := by have := L5.out.row; rw [L0.out.2.1] at this; exact this
      clear kD L4 D4 A4 M4
      go_wp2_with (at_builtin; refine wpList_appendM rfl _ _ rfl w.heap.size (.slice a' j c') j li rfl HO.out wD.heap.size ⟨.slice (some ⟨gA, 0, none⟩) 1 1, .slice (some ⟨gB, 0, none⟩) 1 1, .int .i64 z⟩ rfl x5 hone (by omega) (by simp; omega) ?_)
      intro v9 w9 ho hg9
      have X9 := L5.out.push (by decide) RR.out (by rw [L0.out.2.1]; exact ho) hg9
      obtain ⟨a9, c9, e9, _⟩ := X9.shape
      have e9' : v9 = .slice a9 (j + 1) c9 := by rw [e9]; simp [L0.out.2.1]
      subst e9'
      have rw8 : ∀ k, (Value.slice a' j c').ownBlock = some k → w.heap.size ≤ k ∧ ∃ cur, (wD.alloc (.cells #[.slice (some ⟨gA, 0, none⟩) 1 1, .slice (some ⟨gB, 0, none⟩) 1 1, .int .i64 z] 47 (0, 0))).heap[k]? = some (.cells cur 47 (0, 0)) := fun k hk => ⟨(HO.out.lt k hk).1, ownsRow_type HO.out hk⟩
      have D9 : Drawn w w9 g := ⟨D5.out.1.1.kept hg9 (fun k hk => by have := (rw8 k hk).1; omega), grown_over D5.out.1.2 hg9 (fun k hk => (rw8 k hk).1)⟩
      have B9 : B5 w9 w.heap.size 26 ⟨.slice none 0 0, .slice none 0 0, .slice none 0 0, .int .i64 0, .slice none 0 0⟩ := B5.keep (os := [(Value.slice a' j c').ownBlock]) D5.out.2 (KeepO.of hg9 (by simp)) (fun hm => by
        have e : (Value.slice a' j c').ownBlock = some w.heap.size := (by have h0 : some w.heap.size = (Value.slice a' j c').ownBlock := (by simpa using hm); exact h0.symm)
        obtain ⟨_, cur, hb⟩ := rw8 _ e
        have hb5 := D5.out.2
        unfold B5 at hb5
        rw [hb] at hb5
        simp at hb5)
      have HF : Hid (∃ li ds, RL w9 47 w.heap.size (.slice a9 (j + 1) c9) li ds ∧ ds.length = j + 1 ∧ (∀ d ∈ ds, isM d ∧ d.len ≤ 80) ∧ Drawn w w9 g ∧ B5 w9 w.heap.size 26 ⟨.slice none 0 0, .slice none 0 0, .slice none 0 0, .int .i64 0, .slice none 0 0⟩) := by
        refine ⟨_, _, X9, by simp [L0.out.2.1], fun d hd => ?_, D9, B9⟩
        rcases List.mem_append.1 hd with hm | hm
        · exact L0.out.2.2 d hm
        · simp at hm; rw [hm]; exact ⟨⟨_, _, _, rfl⟩, by simp [D3.len, Fd.len]⟩
      clear X9 D9 B9 ho hg9 e9 rw8 HO L5 D5 RR x5 hone L0
      go_wp2_with fail
      go_roundw
      case rel => exact ⟨j + 1, by omega, by go_num, a9, c9, rfl, HF⟩
      case measure => simp [intOf]; omega
    · have hjm : j = m := by omega
      subst hjm
      have hdl := L0.out.2.1
      subst hdl
      have L0' : Hid (RL wr 47 B (.slice a' ds.length c') li ds) := L0.out.1.mono hBw
      have hd2 : ds.length ≤ 2 := by omega
      have H6 := l5wildM g B a' c' li ds wr D0.out.1.1 hgB (by have := D0.out.1.2.size; omega) L0'.out L0.out.2.2 hd2
      go_wp2_with fail
      refine H6.mono ?_
      rintro e w6 ⟨o, rfl, ⟨b, ⟨lE, lI, hO⟩, hb1, hb2, hb3, hb4⟩, hd⟩
      obtain ⟨x1, y1, x2, y2, x3, y3, x4, y4, eo⟩ := hO.read.shape
      subst eo
      simp only
      have D6 : Hid (Drawn w w6 g ∧ B5 w6 w.heap.size 26 ⟨.slice none 0 0, .slice none 0 0, .slice none 0 0, .int .i64 0, .slice none 0 0⟩) := ⟨D0.out.1.trans hd, B5.keep D0.out.2 hd.keepO (by simp; omega)⟩
      have O6 : Hid (DOb w6 B ⟨.slice x1 b.name.length y1, .slice x2 b.ex.length y2, .slice x3 b.im.length y3, .int .i64 b.data, .slice x4 b.code.length y4⟩ b lE lI) := hO
      clear H6 hd D0 L0 L0' hO
      obtain ⟨_, _, _, _, _⟩ := D6.out.2.facts
      obtain ⟨f0, f1, f2, f3, f4⟩ := D6.out.2.frozen
      go_wp2_with fail
      have hf : Free w6 w.heap.size := free_of D6.out.2 (by decide) (by decide) (by decide)
      have kk : KeepO [some w.heap.size] w6 (((((w6.setCell ⟨w.heap.size, 0, none⟩ (.slice x1 b.name.length y1)).setCell ⟨w.heap.size, 1, none⟩ (.slice x2 b.ex.length y2)).setCell ⟨w.heap.size, 2, none⟩ (.slice x3 b.im.length y3)).setCell ⟨w.heap.size, 3, none⟩ (.int .i64 b.data)).setCell ⟨w.heap.size, 4, none⟩ (.slice x4 b.code.length y4)) := ((((keep_set _ _ _ _).trans (keep_set _ _ _ _)).trans (keep_set _ _ _ _)).trans (keep_set _ _ _ _)).trans (keep_set _ _ _ _)
      have R9 : B5 (((((w6.setCell ⟨w.heap.size, 0, none⟩ (.slice x1 b.name.length y1)).setCell ⟨w.heap.size, 1, none⟩ (.slice x2 b.ex.length y2)).setCell ⟨w.heap.size, 2, none⟩ (.slice x3 b.im.length y3)).setCell ⟨w.heap.size, 3, none⟩ (.int .i64 b.data)).setCell ⟨w.heap.size, 4, none⟩ (.slice x4 b.code.length y4)) w.heap.size 26 ⟨.slice x1 b.name.length y1, .slice x2 b.ex.length y2, .slice x3 b.im.length y3, .int .i64 b.data, .slice x4 b.code.length y4⟩ := ((((D6.out.2.set0 _).set1 _).set2 _).set3 _).set4 _
      have gg : w6.grownBy (((((w6.setCell ⟨w.heap.size, 0, none⟩ (.slice x1 b.name.length y1)).setCell ⟨w.heap.size, 1, none⟩ (.slice x2 b.ex.length y2)).setCell ⟨w.heap.size, 2, none⟩ (.slice x3 b.im.length y3)).setCell ⟨w.heap.size, 3, none⟩ (.int .i64 b.data)).setCell ⟨w.heap.size, 4, none⟩ (.slice x4 b.code.length y4)) (some w.heap.size) := grown_trans (grown_trans (grown_trans (grown_trans (grown_set _ _ _ _) (grown_set _ _ _ _)) (grown_set _ _ _ _)) (grown_set _ _ _ _)) (grown_set _ _ _ _)
      have D9 : Drawn w (((((w6.setCell ⟨w.heap.size, 0, none⟩ (.slice x1 b.name.length y1)).setCell ⟨w.heap.size, 1, none⟩ (.slice x2 b.ex.length y2)).setCell ⟨w.heap.size, 2, none⟩ (.slice x3 b.im.length y3)).setCell ⟨w.heap.size, 3, none⟩ (.int .i64 b.data)).setCell ⟨w.heap.size, 4, none⟩ (.slice x4 b.code.length y4)) g := ⟨D6.out.1.1.kept gg (by intro k hk; cases hk; exact hgw), grown_over D6.out.1.2 gg (by intro k hk; cases hk; exact Nat.le_refl _)⟩
      have O9 := O6.out.keep kk (fun k hk => one_free hf hk)
      clear gg kk
      generalize (((((w6.setCell ⟨w.heap.size, 0, none⟩ (.slice x1 b.name.length y1)).setCell ⟨w.heap.size, 1, none⟩ (.slice x2 b.ex.length y2)).setCell ⟨w.heap.size, 2, none⟩ (.slice x3 b.im.length y3)).setCell ⟨w.heap.size, 3, none⟩ (.int .i64 b.data)).setCell ⟨w.heap.size, 4, none⟩ (.slice x4 b.code.length y4)) = w9 at *
      obtain ⟨d0, d1, d2, d3, d4⟩ := R9.facts
      simp only at d0 d1 d2 d3 d4
      refine bodyPost_ret (v := .agg #[.slice x1 b.name.length y1, .slice x2 b.ex.length y2, .slice x3 b.im.length y3, .int .i64 b.data, .slice x4 b.code.length y4]) (by simp [results, Try.results13, go_sem, d0, d1, d2, d3, d4]) rfl ⟨⟨.slice x1 b.name.length y1, .slice x2 b.ex.length y2, .slice x3 b.im.length y3, .int .i64 b.data, .slice x4 b.code.length y4⟩, rfl, ⟨b, ⟨lE, lI, O9⟩, hb1, hb2, hb3, hb4⟩, D9⟩
end Go.Proofs.Ytnhebknckgffoaa

/- The two draws of objects: an object, and bytes. -/
namespace Go.Proofs.Ytnhebknckgffoaa
open Go.RowKit
set_option linter.unusedVariables false
set_option linter.unusedSimpArgs false
set_option maxRecDepth 100000

set_option maxHeartbeats 8000000 in
theorem drawObjectBytesM (a : Option Addr) (n c : Nat) (l : List Int) (w : World) (h : BRow w a n l) (hn : n ≤ 9223372036854775807) :
    Calls Try.prog 4 #[.slice a n c] w fun e w' => ∃ (o : O5), e = .returned (.agg #[o.x, o.e, o.i, o.d, o.c]) ∧ (∃ b : Ob, ORead w' o b ∧ osz b ≤ 1048576) ∧ Below w.heap.size w w' := by
  have x0 := B5.new w 26 ⟨.slice none 0 0, .slice none 0 0, .slice none 0 0, .int .i64 0, .slice none 0 0⟩
  have y0 : Below w.heap.size w (w.alloc (.cells #[.slice none 0 0, .slice none 0 0, .slice none 0 0, .int .i64 0, .slice none 0 0] 26 (0, 0))) := (Below.refl _ _).alloc (Nat.le_refl _) _
  have z0 : (w.alloc (.cells #[.slice none 0 0, .slice none 0 0, .slice none 0 0, .int .i64 0, .slice none 0 0] 26 (0, 0))).heap.size = w.heap.size + 1 := by simp
  have H1 := newM a n c l _ (h.below y0) hn
  simp only at x0
  clear h
  go_enter Try.func4, Try.ntmps4
  go_upto_region 1 with fail
  generalize w.alloc (.cells #[.slice none 0 0, .slice none 0 0, .slice none 0 0, .int .i64 0, .slice none 0 0] 26 (0, 0)) = w0 at *
  go_wp2_with fail
  refine H1.mono ?_
  rintro e w1 ⟨g, rfl, hg, hc, hb⟩
  have x1 := x0.below hb x0.lt
  have y1 : Below w.heap.size w w1 := y0.trans (hb.mono y0.size)
  have hgl := hc.lt
  have H2 := l5drawM g w1.heap.size w1 hc hgl (Nat.le_refl _)
  have Y1 : Hid (Below w0.heap.size w0 w1) := hb
  clear H1 x0 hb
  go_wp2_with fail
  refine H2.mono ?_
  rintro e w2 ⟨o, rfl, ⟨b, ⟨lE, lI, hO⟩, hb1, hb2, hb3, hb4⟩, hd⟩
  have x2 := B5.keep x1 hd.keepO (by simp; omega)
  have b02 : Below w0.heap.size w0 w2 := Below.drawn Y1.out hd.2 Y1.out.size hg
  have H3 := l5bentM w0 g w1.heap.size o b lE lI w2 hd.1 hg hgl hd.2.size b02 hO hb1 hb2 hb3
  clear H2 x1 hd hO
  go_wp2_with fail
  refine H3.mono ?_
  rintro e w3 ⟨o', rfl, ⟨b', lE', lI', hO3⟩, hb03⟩
  have x3 : B5 w3 w.heap.size 26 ⟨.slice none 0 0, .slice none 0 0, .slice none 0 0, .int .i64 0, .slice none 0 0⟩ := by
    have e2 := b02.block w.heap.size (by omega)
    have e3 := hb03.block w.heap.size (by omega)
    unfold B5 at x2 ⊢
    rw [e3, ← e2]
    exact x2
  obtain ⟨p1, q1, p2, q2, p3, q3, p4, q4, eo⟩ := hO3.read.shape
  subst eo
  simp only
  have y3 : Below w.heap.size w w3 := y0.trans (hb03.mono y0.size)
  have O3 : Hid (DOb w3 w1.heap.size ⟨.slice p1 b'.name.length q1, .slice p2 b'.ex.length q2, .slice p3 b'.im.length q3, .int .i64 b'.data, .slice p4 b'.code.length q4⟩ b' lE' lI') := hO3
  clear H3 x2 b02 hb03 hO3
  obtain ⟨_, _, _, _, _⟩ := x3.facts
  obtain ⟨f0, f1, f2, f3, f4⟩ := x3.frozen
  go_wp2_with fail
  have hf : Free w3 w.heap.size := free_of x3 (by decide) (by decide) (by decide)
  have kk : KeepO [some w.heap.size] w3 (((((w3.setCell ⟨w.heap.size, 0, none⟩ (.slice p1 b'.name.length q1)).setCell ⟨w.heap.size, 1, none⟩ (.slice p2 b'.ex.length q2)).setCell ⟨w.heap.size, 2, none⟩ (.slice p3 b'.im.length q3)).setCell ⟨w.heap.size, 3, none⟩ (.int .i64 b'.data)).setCell ⟨w.heap.size, 4, none⟩ (.slice p4 b'.code.length q4)) := ((((keep_set _ _ _ _).trans (keep_set _ _ _ _)).trans (keep_set _ _ _ _)).trans (keep_set _ _ _ _)).trans (keep_set _ _ _ _)
  have R9 : B5 (((((w3.setCell ⟨w.heap.size, 0, none⟩ (.slice p1 b'.name.length q1)).setCell ⟨w.heap.size, 1, none⟩ (.slice p2 b'.ex.length q2)).setCell ⟨w.heap.size, 2, none⟩ (.slice p3 b'.im.length q3)).setCell ⟨w.heap.size, 3, none⟩ (.int .i64 b'.data)).setCell ⟨w.heap.size, 4, none⟩ (.slice p4 b'.code.length q4)) w.heap.size 26 ⟨.slice p1 b'.name.length q1, .slice p2 b'.ex.length q2, .slice p3 b'.im.length q3, .int .i64 b'.data, .slice p4 b'.code.length q4⟩ := ((((x3.set0 _).set1 _).set2 _).set3 _).set4 _
  have Y9 : Below w.heap.size w (((((w3.setCell ⟨w.heap.size, 0, none⟩ (.slice p1 b'.name.length q1)).setCell ⟨w.heap.size, 1, none⟩ (.slice p2 b'.ex.length q2)).setCell ⟨w.heap.size, 2, none⟩ (.slice p3 b'.im.length q3)).setCell ⟨w.heap.size, 3, none⟩ (.int .i64 b'.data)).setCell ⟨w.heap.size, 4, none⟩ (.slice p4 b'.code.length q4)) := ((((y3.setCell (Nat.le_refl _) _).setCell (Nat.le_refl _) _).setCell (Nat.le_refl _) _).setCell (Nat.le_refl _) _).setCell (Nat.le_refl _) _
  have O9 := O3.out.keep kk (fun k hk => one_free hf hk)
  clear kk
  generalize (((((w3.setCell ⟨w.heap.size, 0, none⟩ (.slice p1 b'.name.length q1)).setCell ⟨w.heap.size, 1, none⟩ (.slice p2 b'.ex.length q2)).setCell ⟨w.heap.size, 2, none⟩ (.slice p3 b'.im.length q3)).setCell ⟨w.heap.size, 3, none⟩ (.int .i64 b'.data)).setCell ⟨w.heap.size, 4, none⟩ (.slice p4 b'.code.length q4)) = w9 at *
  obtain ⟨d0, d1, d2, d3, d4⟩ := R9.facts
  simp only at d0 d1 d2 d3 d4
  refine bodyPost_ret (v := .agg #[.slice p1 b'.name.length q1, .slice p2 b'.ex.length q2, .slice p3 b'.im.length q3, .int .i64 b'.data, .slice p4 b'.code.length q4]) (by simp [results, Try.results4, go_sem, d0, d1, d2, d3, d4]) rfl ⟨⟨.slice p1 b'.name.length q1, .slice p2 b'.ex.length q2, .slice p3 b'.im.length q3, .int .i64 b'.data, .slice p4 b'.code.length q4⟩, rfl, ⟨b', O9.read, O9.size⟩, Y9⟩

theorem objB_len {b : Ob} (h1 : b.ex.length ≤ 3) (h2 : b.im.length ≤ 2) (h3 : b.code.length ≤ 1000) : (objB b).length ≤ 10000 := by
  have l1 := objB2_len b (by omega)
  have l2 := listB_len imB_len b.im
  have l3 := putL_len b.data
  have l4 := putL_len (b.code.length : Int)
  unfold objB
  simp only [List.length_append]
  omega

set_option maxHeartbeats 8000000 in
theorem drawObjectReadM (a : Option Addr) (n c : Nat) (l : List Int) (w : World) (h : BRow w a n l) (hn : n ≤ 9223372036854775807) :
    Calls Try.prog 10 #[.slice a n c] w fun e w' => ∃ a' n' c' l', e = .returned (.slice a' n' c') ∧ BRow w' a' n' l' ∧ n' ≤ c' ∧ c' ≤ maxLen ∧ (a' = none → c' = 0) ∧ n' ≤ 20000 ∧ Below w.heap.size w w' := by
  have H1 := newM a n c l _ h hn
  clear h
  go_enter Try.func10, Try.ntmps10
  go_wp2_with fail
  refine H1.mono ?_
  rintro e w1 ⟨g, rfl, hg, hc, hb⟩
  have hgl := hc.lt
  have H2 := l5drawM g w1.heap.size w1 hc hgl (Nat.le_refl _)
  have Y1 : Hid (Below w.heap.size w w1) := hb
  clear H1 hb
  go_wp2_with fail
  refine H2.mono ?_
  rintro e w2 ⟨o, rfl, ⟨b, ⟨lE, lI, hO⟩, hb1, hb2, hb3, hb4⟩, hd⟩
  have Y2 : Hid (Below w.heap.size w w2) := Below.drawn Y1.out hd.2 Y1.out.size hg
  have H3 := l5bytesM o b w2 hO.read hO.size (by omega) (by omega)
  have hL := objB_len hb2 hb3 hb4
  have hc2 := hd.1
  have hg2 : g < w2.heap.size := hc2.lt
  have C2 : Hid (Cur w2 g) := hc2
  clear H2 hd hO hc2
  generalize objB b = L at *
  generalize hLL : L.length = k at *
  clear hLL
  go_wp2_with fail
  refine H3.mono ?_
  rintro e w3 ⟨a3, c3, rfl, m3⟩
  have C3 : Hid (Cur w3 g) := C2.out.kept (below_grows (row := none) m3.below) (by intro k hk; cases hk)
  have Y3 : Hid (Below w.heap.size w w3) := Y2.out.trans (m3.below.mono Y2.out.size)
  have R3 : Hid (BRow w3 a3 k L) := m3.row
  have hcap := m3.cap
  have HM : Hid (c3 ≤ maxLen) := m3.most
  have hnil := m3.nil
  have hab : Hid (∀ b off, a3 = some ⟨b, off, none⟩ → g < b) := fun b off e => by
    have := (m3.block b (by rw [e]; rfl)).1
    omega
  clear H3 m3
  go_wp2_with fail
  refine (onceM g _ w3 C3.out (by omega)).mono ?_
  rintro e w4 ⟨t, rfl, hd⟩
  have C4 : Hid (Cur w4 g) := hd.1
  have Y4 : Hid (Below w.heap.size w w4) := Below.drawn Y3.out hd.2 Y3.out.size hg
  have R4 : Hid (BRow w4 a3 k L) := R3.out.grown hd.2 (by intro b off e e2; have := hab.out b off e; have := Option.some.inj e2; omega)
  clear hd C3 Y3 R3
  cases t
  · go_wp2_with fail
    go_ret
    exact ⟨_, _, _, _, rfl, R4.out, hcap, HM.out, hnil, by omega, Y4.out⟩
  · have H5 := spoilLongM g a3 k c3 L w4 C4.out R4.out hnil (by omega)
    go_wp2_with fail
    refine H5.mono ?_
    rintro e w5 ⟨a5, n5, c5, l5, rfl, hn5, m5⟩
    have F5 : Hid (BRow w5 a5 n5 l5 ∧ n5 ≤ c5 ∧ c5 ≤ maxLen ∧ (a5 = none → c5 = 0) ∧ Below w.heap.size w w5) := ⟨m5.row, m5.cap, m5.most, m5.nil, Below.drawn Y4.out m5.drawn.2 Y4.out.size hg⟩
    clear H5 m5
    go_wp2_with fail
    go_ret
    obtain ⟨u1, u2, u3, u4, u5⟩ := F5.out
    exact ⟨_, _, _, _, rfl, u1, u2, u3, u4, by omega, u5⟩
end Go.Proofs.Ytnhebknckgffoaa

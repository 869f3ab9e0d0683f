/- A drawn instruction: it came back, the cursor stands, nothing else that was there has turned. -/
import Derived.Test.YtnhebknckgffoaaDrawAny
import Derived.Test.YtnhebknckgffoaaIns
import Derived.Test.YtnhebknckgffoaaPut6
namespace Go.Proofs.Ytnhebknckgffoaa
open Go.RowKit
set_option linter.unusedVariables false
set_option linter.unusedSimpArgs false
set_option maxRecDepth 100000

theorem smallM (g : Nat) (w : World) (h : Cur w g) :
    Calls Try.prog 66 #[.pointer (some ⟨g, 0, none⟩)] w fun e w' => ∃ v, e = .returned (.int .i64 v) ∧ Drawn w w' g := by
  go_enter Try.func66, Try.ntmps66
  go_wp2_with fail
  refine (anyM g _ h).mono ?_
  rintro e w1 ⟨v, rfl, hv, hd1⟩
  clear h
  go_wp2_with fail
  refine (specWrapM v _).mono ?_
  rintro e w2 ⟨rfl, rfl⟩
  go_wp2
  go_ret
  exact ⟨_, rfl, hd1⟩

theorem set_grown (w : World) (k i : Nat) (v : Value) : w.grownBy (w.setCell ⟨k, i, none⟩ v) (some k) :=
  ⟨rfl, rfl, rfl, by simp, fun j _ hj => heap_setCell_other w ⟨k, i, none⟩ j _ (fun e => hj (by simp [e]))⟩
theorem put6_grown (w : World) (k : Nat) (v0 v1 v2 v3 v4 v5 : Value) : w.grownBy (put6 w k v0 v1 v2 v3 v4 v5) (some k) := by
  unfold put6
  exact grown_then (grown_then (grown_then (grown_then (grown_then (set_grown ..) (set_grown ..)) (set_grown ..)) (set_grown ..)) (set_grown ..)) (set_grown ..)

structure IS (w : World) (gs : Nat) (wr : World) (g : Nat) : Prop where
  res : wr.heap[gs]? = some (.cells #[.int .i64 0, .int .i64 0, .int .i64 0, .int .i64 0, .int .i64 0, .int .i64 0] 92 (0, 0))
  dr : Drawn w wr g
theorem IS.drawn {w wr w' : World} {gs g : Nat} (h : IS w gs wr g) (hg : g < gs) (hd : Drawn wr w' g) : IS w gs w' g := ⟨(hd.block (Array.getElem?_eq_some_iff.1 h.res).1 (by omega)).trans h.res, h.dr.trans hd⟩

structure JS (w : World) (gs gv : Nat) (wr : World) (g : Nat) (A : Array Value) : Prop where
  res : wr.heap[gs]? = some (.cells #[.int .i64 0, .int .i64 0, .int .i64 0, .int .i64 0, .int .i64 0, .int .i64 0] 92 (0, 0))
  var : wr.heap[gv]? = some (.cells A 92 (0, 0))
  dr : Drawn w wr g
  lt : gs < gv
theorem JS.drawn {w wr w' : World} {gs gv g : Nat} {A : Array Value} (h : JS w gs gv wr g A) (hg : g < gs) (hd : Drawn wr w' g) : JS w gs gv w' g A := by
  have := h.lt
  exact ⟨(hd.block (Array.getElem?_eq_some_iff.1 h.res).1 (by omega)).trans h.res, (hd.block (Array.getElem?_eq_some_iff.1 h.var).1 (by omega)).trans h.var, h.dr.trans hd, h.lt⟩
theorem IS.js {w wr : World} {gs g : Nat} {A : Array Value} (h : IS w gs wr g) : JS w gs wr.heap.size (wr.alloc (.cells A 92)) g A :=
  ⟨(alloc_block (Array.getElem?_eq_some_iff.1 h.res).1).trans h.res, heap_alloc_new wr _, h.dr.alloc _, (Array.getElem?_eq_some_iff.1 h.res).1⟩
theorem JS.set {w wr w' : World} {gs gv g : Nat} {A B : Array Value} (h : JS w gs gv wr g A) (hgs : w.heap.size = gs) (hg : g < gs) (hgr : wr.grownBy w' (some gv)) (hv : w'.heap[gv]? = some (.cells B 92 (0, 0))) : JS w gs gv w' g B := by
  have := h.lt
  exact ⟨(hgr.block gs (Array.getElem?_eq_some_iff.1 h.res).1 (by simp; omega)).trans h.res, hv, ⟨h.dr.1.kept hgr (by intro k hk; cases hk; omega), grown_over h.dr.2 hgr (by intro k hk; cases hk; omega)⟩, h.lt⟩
theorem JS.put {w wr : World} {gs gv g : Nat} {A : Array Value} (h : JS w gs gv wr g A) (hgs : w.heap.size = gs) (hg : g < gs) (v0 v1 v2 v3 v4 v5 : Value) : Drawn w (put6 wr gs v0 v1 v2 v3 v4 v5) g :=
  ⟨h.dr.1.kept (put6_grown ..) (by intro k hk; cases hk; omega), grown_over h.dr.2 (put6_grown ..) (by intro k hk; cases hk; omega)⟩

set_option maxHeartbeats 4000000 in
theorem l4insM (g : Nat) (w : World) (h : Cur w g) :
    Calls Try.prog 63 #[.pointer (some ⟨g, 0, none⟩)] w fun e w' => ∃ xo xa xb xc xn xm, e = .returned (.agg #[.int .i64 xo, .int .i64 xa, .int .i64 xb, .int .i64 xc, .int .i64 xn, .int .i64 xm]) ∧ Drawn w w' g := by
  have hgl0 := h.lt
  have hI0 : IS w w.heap.size (w.alloc (.cells #[.int .i64 0, .int .i64 0, .int .i64 0, .int .i64 0, .int .i64 0, .int .i64 0] 92)) g := ⟨heap_alloc_new w _, h.start _⟩
  clear h
  go_enter Try.func63, Try.ntmps63
  go_upto_region 1 with fail
  generalize w.alloc (.cells #[.int .i64 0, .int .i64 0, .int .i64 0, .int .i64 0, .int .i64 0, .int .i64 0] 92) = w1 at *
  generalize hg : w.heap.size = gs at *
  have HG : Hid (w.heap.size = gs) := hg
  have I : Hid (IS w gs w1 g) := hI0
  have hgl : g < gs := hgl0
  clear hg hI0 hgl0
  go_wp2_with fail
  refine (belowM g _ w1 I.out.dr.1 (by omega)).mono ?_
  rintro e wa ⟨o, rfl, o0, o1, _, hd⟩
  replace o1 : o < 22 := o1 (by omega)
  have I' : Hid (IS w gs wa g) := I.out.drawn hgl hd
  clear I hd
  have I : Hid (IS w gs wa g) := I'
  clear I'
  go_wp2_with fail
  refine (belowM g _ wa I.out.dr.1 (by omega)).mono ?_
  rintro e wb ⟨ra, rfl, ra0, ra1, _, hd⟩
  replace ra1 : ra < 8 := ra1 (by omega)
  have I' : Hid (IS w gs wb g) := I.out.drawn hgl hd
  clear I hd
  have I : Hid (IS w gs wb g) := I'
  clear I'
  go_wp2_with fail
  refine (belowM g _ wb I.out.dr.1 (by omega)).mono ?_
  rintro e wc ⟨rb, rfl, rb0, rb1, _, hd⟩
  replace rb1 : rb < 8 := rb1 (by omega)
  have I' : Hid (IS w gs wc g) := I.out.drawn hgl hd
  clear I hd
  have I : Hid (IS w gs wc g) := I'
  clear I'
  go_wp2_with fail
  refine (belowM g _ wc I.out.dr.1 (by omega)).mono ?_
  rintro e wd ⟨rc, rfl, rc0, rc1, _, hd⟩
  replace rc1 : rc < 8 := rc1 (by omega)
  have I' : Hid (IS w gs wd g) := I.out.drawn hgl hd
  clear I hd
  have I : Hid (IS w gs wd g) := I'
  clear I'
  go_wp2_with fail
  refine (belowM g _ wd I.out.dr.1 (by omega)).mono ?_
  rintro e we ⟨nn, rfl, nn0, nn1, _, hd⟩
  replace nn1 : nn < 12 := nn1 (by omega)
  have I' : Hid (IS w gs we g) := I.out.drawn hgl hd
  clear I hd
  have I : Hid (IS w gs we g) := I'
  clear I'
  go_wp2_with fail
  refine (belowM g _ we I.out.dr.1 (by omega)).mono ?_
  rintro e wf ⟨mm, rfl, mm0, mm1, _, hd⟩
  replace mm1 : mm < 5 := mm1 (by omega)
  have I' : Hid (IS w gs wf g) := I.out.drawn hgl hd
  clear I hd
  have I : Hid (IS w gs wf g) := I'
  clear I'
  go_upto_region 2 with fail
  have J : Hid (JS w gs wf.heap.size (wf.alloc (.cells #[.int .i64 (1 + o), .int .i64 ra, .int .i64 rb, .int .i64 rc, .int .i64 (nn - 2), .int .i64 mm] 92)) g #[.int .i64 (1 + o), .int .i64 ra, .int .i64 rb, .int .i64 rc, .int .i64 (nn - 2), .int .i64 mm]) := I.out.js
  clear I
  generalize wf.alloc (.cells #[.int .i64 (1 + o), .int .i64 ra, .int .i64 rb, .int .i64 rc, .int .i64 (nn - 2), .int .i64 mm] 92) = w7 at *
  generalize wf.heap.size = gv at *
  go_wp2_with fail
  refine (onceM g _ w7 J.out.dr.1 (by omega)).mono ?_
  rintro e w8 ⟨b, rfl, hd8⟩
  have J8 : Hid (JS w gs gv w8 g #[.int .i64 (1 + o), .int .i64 ra, .int .i64 rb, .int .i64 rc, .int .i64 (nn - 2), .int .i64 mm]) := J.out.drawn hgl hd8
  clear J hd8
  have J : Hid (JS w gs gv w8 g #[.int .i64 (1 + o), .int .i64 ra, .int .i64 rb, .int .i64 rc, .int .i64 (nn - 2), .int .i64 mm]) := J8
  clear J8
  cases b
  · skip
    obtain ⟨r0, r1, r2, r3, r4, r5, f0, f1, f2, f3, f4, f5⟩ := row6 J.out.res
    obtain ⟨v0, v1, v2, v3, v4, v5, _⟩ := row6 J.out.var
    go_wp2_with fail
    have hk := put6_block (.int .i64 (1 + o)) (.int .i64 ra) (.int .i64 rb) (.int .i64 rc) (.int .i64 (nn - 2)) (.int .i64 mm) J.out.res
    have hd : Drawn w (put6 w8 gs (.int .i64 (1 + o)) (.int .i64 ra) (.int .i64 rb) (.int .i64 rc) (.int .i64 (nn - 2)) (.int .i64 mm)) g := J.out.put HG.out hgl (.int .i64 (1 + o)) (.int .i64 ra) (.int .i64 rb) (.int .i64 rc) (.int .i64 (nn - 2)) (.int .i64 mm)
    show bodyPost _ _ _ _ _ (put6 w8 gs (.int .i64 (1 + o)) (.int .i64 ra) (.int .i64 rb) (.int .i64 rc) (.int .i64 (nn - 2)) (.int .i64 mm))
    generalize put6 w8 gs (.int .i64 (1 + o)) (.int .i64 ra) (.int .i64 rb) (.int .i64 rc) (.int .i64 (nn - 2)) (.int .i64 mm) = W at hk hd ⊢
    obtain ⟨d0, d1, d2, d3, d4, d5, _⟩ := row6 hk
    refine bodyPost_ret (v := .agg #[.int .i64 (1 + o), .int .i64 ra, .int .i64 rb, .int .i64 rc, .int .i64 (nn - 2), .int .i64 mm]) (by simp [results, Try.results63, go_sem, d0, d1, d2, d3, d4, d5]) rfl ⟨_, _, _, _, _, _, rfl, hd⟩
  · go_wp2_with fail
    refine (smallM g w8 J.out.dr.1).mono ?_
    rintro e w9 ⟨q, rfl, hd9⟩
    have J9 : Hid (JS w gs gv w9 g #[.int .i64 (1 + o), .int .i64 ra, .int .i64 rb, .int .i64 rc, .int .i64 (nn - 2), .int .i64 mm]) := J.out.drawn hgl hd9
    clear J hd9
    obtain ⟨v0, v1, v2, v3, v4, v5, g0, g1, g2, g3, g4, g5⟩ := row6 J9.out.var
    have J : Hid (JS w gs gv (w9.setCell ⟨gv, 4, none⟩ (.int .i64 q)) g #[.int .i64 (1 + o), .int .i64 ra, .int .i64 rb, .int .i64 rc, .int .i64 q, .int .i64 mm]) := J9.out.set HG.out hgl (set_grown ..) (by rw [heap_setCell_same w9 gv 4 _ _ _ J9.out.var]; rfl)
    clear J9
    go_upto_region 4 with fail
    clear v0 v1 v2 v3 v4 v5 g0 g1 g2 g3 g4 g5
    generalize w9.setCell ⟨gv, 4, none⟩ (.int .i64 q) = wz at *
    obtain ⟨r0, r1, r2, r3, r4, r5, f0, f1, f2, f3, f4, f5⟩ := row6 J.out.res
    obtain ⟨v0, v1, v2, v3, v4, v5, _⟩ := row6 J.out.var
    go_wp2_with fail
    have hk := put6_block (.int .i64 (1 + o)) (.int .i64 ra) (.int .i64 rb) (.int .i64 rc) (.int .i64 q) (.int .i64 mm) J.out.res
    have hd : Drawn w (put6 wz gs (.int .i64 (1 + o)) (.int .i64 ra) (.int .i64 rb) (.int .i64 rc) (.int .i64 q) (.int .i64 mm)) g := J.out.put HG.out hgl (.int .i64 (1 + o)) (.int .i64 ra) (.int .i64 rb) (.int .i64 rc) (.int .i64 q) (.int .i64 mm)
    show bodyPost _ _ _ _ _ (put6 wz gs (.int .i64 (1 + o)) (.int .i64 ra) (.int .i64 rb) (.int .i64 rc) (.int .i64 q) (.int .i64 mm))
    generalize put6 wz gs (.int .i64 (1 + o)) (.int .i64 ra) (.int .i64 rb) (.int .i64 rc) (.int .i64 q) (.int .i64 mm) = W at hk hd ⊢
    obtain ⟨d0, d1, d2, d3, d4, d5, _⟩ := row6 hk
    refine bodyPost_ret (v := .agg #[.int .i64 (1 + o), .int .i64 ra, .int .i64 rb, .int .i64 rc, .int .i64 q, .int .i64 mm]) (by simp [results, Try.results63, go_sem, d0, d1, d2, d3, d4, d5]) rfl ⟨_, _, _, _, _, _, rfl, hd⟩
end Go.Proofs.Ytnhebknckgffoaa

/- What the two walks of Link hold. No function is walked here. -/
import Derived.Test.YtefciaeajlgheaaLkFind
import Derived.Test.YtefciaeajlgheaaWords
import Derived.Test.YtefciaeajlgheaaFinger
namespace Go.Proofs.Ytefciaeajlgheaa
open Go.RowKit
set_option linter.unusedVariables false
set_option linter.unusedSimpArgs false
set_option maxRecDepth 100000

def fmain : Int := sumTo (mainN ++ kindsB []) 4
def nil0 : Value := .slice none 0 0

/-- What a linker's answer is: the image and the code. -/
def LkFin (l : List Oj) (w : World) (e : Ending) (w' : World) : Prop :=
  ∃ (mv wv : Value) (rs : List (Value × Rg)) (ws : List Wo) (s code : Int), e = .returned (.tuple #[.agg #[mv, wv, .int .i64 s], .int .i64 code]) ∧ Lk fmain l (mkIg rs ws s) code ∧ Im w' w.heap.size w'.heap.size w'.heap.size mv wv rs ws ∧ Below w.heap.size w w'

/-- The answer's place, while nothing stands there. -/
structure S0 (w : World) (wr : World) : Prop where
  z : Blk wr w.heap.size 27 [.slice none 0 0, .slice none 0 0, .int .i64 0]
  y : Below w.heap.size w wr
theorem S0.step {w wr w' : World} (h : S0 w wr) (b : Below wr.heap.size wr w') : S0 w w' := ⟨h.z.below b h.z.lt, h.y.trans (b.mono h.y.size)⟩
theorem S0.start (w : World) : S0 w (w.alloc (.cells #[.slice none 0 0, .slice none 0 0, .int .i64 0] 27 (0, 0))) := ⟨Blk.new w 27 [.slice none 0 0, .slice none 0 0, .int .i64 0], (Below.refl _ _).alloc (Nat.le_refl _) _⟩

/-- Three cells put. -/
def put3 (w : World) (g : Nat) (a b c : Value) : World := ((w.setCell ⟨g, 0, none⟩ a).setCell ⟨g, 1, none⟩ b).setCell ⟨g, 2, none⟩ c
theorem Blk.put3 {w : World} {g T : Nat} {x y z a b c : Value} (h : Blk w g T [x, y, z]) : Blk (put3 w g a b c) g T [a, b, c] := ((h.set (i := 0) a).set (i := 1) b).set (i := 2) c
theorem below_put3 {B g : Nat} {w0 w : World} {a b c : Value} (h : Below B w0 w) (hg : B ≤ g) : Below B w0 (put3 w g a b c) := ((h.setCell (p := ⟨g, 0, none⟩) hg a).setCell (p := ⟨g, 1, none⟩) hg b).setCell (p := ⟨g, 2, none⟩) hg c

theorem fin_no {l : List Oj} {w wr : World} {code : Int} (h : S0 w wr) (hL : Lk fmain l zeroIg code) : LkFin l w (.returned (.tuple #[.agg #[.slice none 0 0, .slice none 0 0, .int .i64 0], .int .i64 code])) (put3 wr w.heap.size (.slice none 0 0) (.slice none 0 0) (.int .i64 0)) :=
  ⟨_, _, [], [], 0, code, rfl, hL, Im.zero _ _, below_put3 h.y (Nat.le_refl _)⟩

/-- The image while it is made: at block g, j objects done. -/
structure S3s (sn : Int) (l : List Oj) (w : World) (g hi h2 : Nat) (wr : World) (mv wv : Value) (rs : List (Value × Rg)) (ms : List Rg) (ws : List Wo) : Prop where
  z : S0 w wr
  m : Blk wr g 27 [mv, wv, .int .i64 sn]
  im : Im wr w.heap.size hi h2 mv wv rs ws
  rs : (rs.map fun x => x.2) = ms
  lo : w.heap.size < g
  hi : w.heap.size ≤ hi ∧ hi ≤ wr.heap.size
  h2 : h2 ≤ wr.heap.size
abbrev S3 := S3s 0
theorem S3s.step {sn : Int} {l : List Oj} {w wr w' : World} {g hi h2 : Nat} {mv wv : Value} {rs : List (Value × Rg)} {ms : List Rg} {ws : List Wo} (h : S3s sn l w g hi h2 wr mv wv rs ms ws) (b : Below wr.heap.size wr w') : S3s sn l w g hi h2 w' mv wv rs ms ws :=
  ⟨h.z.step b, h.m.below b h.m.lt, h.im.below b, h.rs, h.lo, ⟨h.hi.1, Nat.le_trans h.hi.2 b.size⟩, Nat.le_trans h.h2 b.size⟩

theorem grown_y {w wr w1 : World} {T k n : Nat} {v : Value} {xs : List Value} (h : Below w.heap.size w wr) (ho : wr.ownsRow w.heap.size T k v n xs) (hg : wr.grownBy w1 v.ownBlock) : Below w.heap.size w w1 := h.grown hg h.size fun g hg => (ho.lt g hg).1

/-- Words more, laid into the image. -/
theorem S3s.words {sn : Int} {l : List Oj} {w wr w1 : World} {g hi h2 n : Nat} {mv wv wv' : Value} {rs : List (Value × Rg)} {ms : List Rg} {ws us : List Wo} (h : S3s sn l w g hi h2 wr mv wv rs ms ws)
    (hn : us.length = n) (hr : w1.ownsRow w.heap.size 55 7 wv' (ws.length + n) (flatW ws ++ flatW us)) (hg : wr.grownBy w1 wv.ownBlock) : S3s sn l w g hi w1.heap.size (w1.setCell ⟨g, 1, none⟩ wv') mv wv' rs ms (ws ++ us) := by
  have hs := hg.size
  have y1 := grown_y h.z.y h.im.wrow.own hg
  have m1 := h.im.wblk hg h.m (by decide)
  have z1 := h.im.wblk hg h.z.z (by decide)
  have hlo := h.lo
  refine ⟨⟨z1.other (by omega), y1.setCell (p := ⟨g, 1, none⟩) (Nat.le_of_lt h.lo) _⟩, m1.set (i := 1) wv', (h.im.words hn hr hg).put m1 (by decide) (by decide) (.inl (by decide)), h.rs, h.lo, ⟨h.hi.1, ?_⟩, ?_⟩
  · have := h.hi.2; simp; omega
  · simp
/-- A region more, laid into the image. -/
theorem S3s.mods {sn : Int} {l : List Oj} {w wr w1 : World} {g hi h2 c0 : Nat} {mv wv mv' c : Value} {rs : List (Value × Rg)} {ms : List Rg} {ws : List Wo} {r : Rg} (h : S3s sn l w g hi h2 wr mv wv rs ms ws)
    (hc0 : hi ≤ c0) (hc : Pc wr 5 1 c0 wr.heap.size c r.code.length (bV r.code)) (hcb : isB r.code) (hcs : c0 ≤ wr.heap.size)
    (hr : w1.ownsRow w.heap.size 50 4 mv' (rs.length + 1) (flatR rs ++ r.vals c)) (hg : wr.grownBy w1 mv.ownBlock) : S3s sn l w g w1.heap.size h2 (w1.setCell ⟨g, 0, none⟩ mv') mv' wv (rs ++ [(c, r)]) (ms ++ [r]) ws := by
  have hs := hg.size
  have y1 := grown_y h.z.y h.im.mrow.own hg
  have m1 := h.im.mblk hg h.m (by decide)
  have z1 := h.im.mblk hg h.z.z (by decide)
  have hlo := h.lo
  refine ⟨⟨z1.other (by omega), y1.setCell (p := ⟨g, 0, none⟩) (Nat.le_of_lt h.lo) _⟩, m1.set (i := 0) mv', (h.im.mods h.hi.1 hc0 hc hcb hcs hr hg).put m1 (by decide) (by decide) (.inl (by decide)), ?_, h.lo, ⟨?_, ?_⟩, ?_⟩
  · rw [List.map_append, h.rs]; rfl
  · have := y1.size; omega
  · simp
  · have := h.h2; simp; omega

theorem S3s.cells {sn : Int} {l : List Oj} {w wr : World} {g hi h2 : Nat} {mv wv : Value} {rs : List (Value × Rg)} {ms : List Rg} {ws : List Wo} (h : S3s sn l w g hi h2 wr mv wv rs ms ws) : ∃ ma mc wa wc, mv = .slice ma rs.length mc ∧ wv = .slice wa ws.length wc := by
  obtain ⟨a, c, e, _⟩ := owns_shape h.im.mrow.own
  obtain ⟨a2, c2, e2, _⟩ := owns_shape h.im.wrow.own
  exact ⟨a, c, a2, c2, e, e2⟩

/-- The image handed over. -/
theorem fin_well {l : List Oj} {w wr : World} {g hi h2 x : Nat} {mv wv : Value} {rs : List (Value × Rg)} {s : Int} (h : S3 l w g hi h2 wr mv wv rs (modsTo l l.length) (wordsTo l l.length)) (hf : formOk l) (hu : unlO l) (hg : goodTo l l.length) (hx : findX (ojAt l (l.length - 1)) mainN fmain = some x) (hs : s = ((ojAt l (l.length - 1)).ex[x]?.map Xp.pos).getD 0) :
    LkFin l w (.returned (.tuple #[.agg #[mv, wv, .int .i64 s], .int .i64 0])) (put3 (wr.setCell ⟨g, 2, none⟩ (.int .i64 s)) w.heap.size mv wv (.int .i64 s)) := by
  have hlo := h.lo
  have m1 : Blk (wr.setCell ⟨g, 2, none⟩ (.int .i64 s)) g 27 [mv, wv, .int .i64 s] := h.m.set (i := 2) _
  have z1 : Blk (wr.setCell ⟨g, 2, none⟩ (.int .i64 s)) w.heap.size 27 _ := h.z.z.other (by omega)
  have i1 := h.im.put (i := 2) (v := .int .i64 s) h.m (by decide) (by decide) (.inl (by decide))
  have i2 := i1.put (i := 0) (v := mv) z1 (by decide) (by decide) (.inl (by decide))
  have z2 := z1.set (i := 0) mv
  have i3 := i2.put (i := 1) (v := wv) z2 (by decide) (by decide) (.inl (by decide))
  have z3 := z2.set (i := 1) wv
  have i4 := i3.put (i := 2) (v := .int .i64 s) z3 (by decide) (by decide) (.inl (by decide))
  have hsz : (put3 (wr.setCell ⟨g, 2, none⟩ (.int .i64 s)) w.heap.size mv wv (.int .i64 s)).heap.size = wr.heap.size := by simp [put3]
  refine ⟨mv, wv, rs, wordsTo l l.length, s, 0, rfl, ?_, (show Im (put3 _ _ _ _ _) _ _ _ _ _ _ _ from i4).wide (Nat.le_refl _) (by rw [hsz]; exact h.hi.2) (by rw [hsz]; exact h.h2), below_put3 (h.z.y.setCell (p := ⟨g, 2, none⟩) (Nat.le_of_lt h.lo) _) (Nat.le_refl _)⟩
  unfold mkIg
  rw [h.rs, hs]
  exact Lk.well x hf hu hg hx

/-- Where the objects' cells lie. -/
theorem objCells {w : World} {l : List Oj} {b off c n : Nat} (h : LRow w (some ⟨b, off, none⟩) c 5 (l.map Oj.fl)) (hn : l.length = n) : ∀ j, j < n → ∃ o v0 v1 v2 v3 v4, l[j]? = some o ∧ RdVals w o.fl [v0, v1, v2, v3, v4] ∧ (w.cell? ⟨b, off + j * 5, none⟩ = some v0 ∧ w.cell? ⟨b, off + j * 5 + 1, none⟩ = some v1 ∧ w.cell? ⟨b, off + j * 5 + 2, none⟩ = some v2 ∧ w.cell? ⟨b, off + j * 5 + 3, none⟩ = some v3 ∧ w.cell? ⟨b, off + j * 5 + 4, none⟩ = some v4) := by
  intro j hj
  obtain ⟨o, ho⟩ : ∃ o, l[j]? = some o := ⟨_, List.getElem?_eq_getElem (by omega)⟩
  obtain ⟨vs, hvs, hcl⟩ := (h.el (show (l.map Oj.fl)[j]? = some o.fl by rw [List.getElem?_map, ho]; rfl)).vals
  have hl : vs.length = 5 := hvs.len
  match vs, hl with
  | [v0, v1, v2, v3, v4], _ => exact ⟨o, v0, v1, v2, v3, v4, ho, hvs, hcl 0 _ rfl, hcl 1 _ rfl, hcl 2 _ rfl, hcl 3 _ rfl, hcl 4 _ rfl⟩
/-- How an object's values look. -/
theorem objShape {w : World} {o : Oj} {v0 v1 v2 v3 v4 : Value} (h : RdVals w o.fl [v0, v1, v2, v3, v4]) : ∃ a0 c0 a1 c1 a2 c2 a4 c4, v0 = .slice a0 o.name.length c0 ∧ v1 = .slice a1 o.ex.length c1 ∧ v2 = .slice a2 o.im.length c2 ∧ v3 = .int .i64 o.data ∧ v4 = .slice a4 o.code.length c4 ∧ BRow w a0 o.name.length o.name ∧ LRow w a1 c1 3 (o.ex.map Xp.fl) ∧ LRow w a2 c2 3 (o.im.map Ip.fl) ∧ (BRow w a4 o.code.length o.code ∧ (a4 = none → c4 = 0)) := by
  obtain ⟨y0, _, e0, ⟨a0, c0, rfl, h0, _⟩, y1, _, e1, h1, y2, _, e2, h2, y3, _, e3, h3, y4, _, e4, ⟨a4, c4, rfl, h4, _, _, h5⟩, _⟩ := h
  obtain ⟨a1, c1, rfl, l1⟩ := h1.list
  obtain ⟨a2, c2, rfl, l2⟩ := h2.list
  simp only [List.cons.injEq] at e0
  obtain ⟨rfl, rfl⟩ := e0
  simp only [List.cons.injEq] at e1
  obtain ⟨rfl, rfl⟩ := e1
  simp only [List.cons.injEq] at e2
  obtain ⟨rfl, rfl⟩ := e2
  simp only [List.cons.injEq] at e3
  obtain ⟨rfl, rfl⟩ := e3
  simp only [List.cons.injEq] at e4
  obtain ⟨rfl, _⟩ := e4
  exact ⟨a0, c0, a1, c1, a2, c2, a4, c4, rfl, by simp, by simp, h3, rfl, h0, l1, l2, h4, h5⟩
/-- append of bytes, whatever the source, as one operation of a drawn region. -/
theorem wp_appendBG {w : World} {o : Oper} {a : Act} {K : Act → World → Prop} {Q : Exit → Act → World → Prop} (s x : Operand)
    (ho : o.op = .call { callee := .builtin .append, args := #[s, x], argTypes := #[38, 38] })
    (base : Nat) (v : Value) (n : Nat) (l : List Int) (hs : a.eval s = v) (hown : Own w base v n l)
    (ao : Option Addr) (m c : Nat) (l2 : List Int) (hx : a.eval x = .slice ao m c) (hr : BRow w ao m l2) (hnil : ao = none → c = 0) (hsz : n + m ≤ 1099511627776) (hbase : base ≤ w.heap.size)
    (h : ∀ v' w', Own w' base v' (n + m) (l ++ l2) → w.grownBy w' v.ownBlock → K (a.put o.dst v') w') : Oper.wp Try.prog o a w K Q := by
  obtain ⟨i0, hi, hz0, hz1, hz2⟩ := info_parts info5
  have hby : ∀ x ∈ l ++ l2, 0 ≤ x ∧ x ≤ 255 := fun x hx => (List.mem_append.1 hx).elim (hown.2 x) (hr.2.1 x)
  cases ao with
  | none =>
    obtain rfl := hnil rfl
    have hm : m = 0 := by
      rcases Nat.eq_zero_or_pos m with h0 | hp
      · exact h0
      · obtain ⟨b, off, e, _⟩ := hr.2.2 hp; cases e
    subst hm
    obtain rfl : l2 = [] := List.eq_nil_of_length_eq_zero hr.1
    have hrun := run_append_owned_none (P := Try.prog) (w := w) base 38 o.type 5 i0 1 Try.underlying38 hi v n _ hown.1
    unfold Oper.wp execOp
    simp only [ho, resolve, invoke, builtin, Sem.run_bind, Sem.run_pure, Result.andThen_ok, List.map_toArray, List.map_cons, List.map_nil, hs, hx, hrun]
    exact h v w (by simpa using hown) (World.grownBy.refl _ _)
  | some ad =>
    refine wp_append_own w s x 38 ho base 5 i0 (.int .u8 0) 1 1 Try.underlying38 hi hz0 hz1 hz2 rfl (by decide) v n _ hs hown.1 ad m c (l2.map (Value.int .u8)) hx (by simp [hr.1]) ?_ (ints_oneCell _ _) (by unfold maxLen; omega) (by omega) hbase ?_
    · intro j u hu
      have hp : 0 < (l2.map (Value.int .u8)).length := Nat.lt_of_le_of_lt (Nat.zero_le j) (List.getElem?_eq_some_iff.1 hu).1
      obtain ⟨ad', e, hc⟩ := hr.pos hp
      cases e
      exact hc j u hu
    · intro v' w' ho' hg' _
      exact h v' w' ⟨by simpa using ho', hby⟩ hg'


theorem made_flatW (n : Nat) : (madeCells #[.bool false, .int .i64 0, .int .i64 0, .int .i64 0, .int .i64 0, .int .i64 0, .int .i64 0] (n * 7)).toList = flatW (List.replicate n zeroWo) := by
  apply List.ext_getElem?
  intro j
  by_cases hj : j < n * 7
  · have h7 : j % 7 < 7 := Nat.mod_lt _ (by omega)
    have e : j = (j / 7) * 7 + j % 7 := by omega
    have hk : (List.replicate n zeroWo)[j / 7]? = some zeroWo := by rw [List.getElem?_replicate, if_pos (by omega)]
    rw [show (flatW (List.replicate n zeroWo))[j]? = (flatW (List.replicate n zeroWo))[(j / 7) * 7 + j % 7]? by rw [← e], flatW_at h7 hk]
    simp only [madeCells, Array.toList_map, List.getElem?_map, Array.toList_range, List.getElem?_range hj, Option.map_some]
    show some (#[Value.bool false, .int .i64 0, .int .i64 0, .int .i64 0, .int .i64 0, .int .i64 0, .int .i64 0][j % 7]!) = _
    have : j % 7 = 0 ∨ j % 7 = 1 ∨ j % 7 = 2 ∨ j % 7 = 3 ∨ j % 7 = 4 ∨ j % 7 = 5 ∨ j % 7 = 6 := by omega
    rcases this with h | h | h | h | h | h | h <;> rw [h] <;> rfl
  · rw [List.getElem?_eq_none (by simp [madeCells]; omega), List.getElem?_eq_none (by rw [flatW_len]; simp; omega)]

/-- The image, with words for the stack alone. -/
theorem S3.start {l : List Oj} {w wr w1 : World} (h : S0 w wr) (ho : w1.ownsRow wr.heap.size 55 7 (.slice (some ⟨wr.heap.size, 0, none⟩) 600 600) 600 (madeCells #[.bool false, .int .i64 0, .int .i64 0, .int .i64 0, .int .i64 0, .int .i64 0, .int .i64 0] (600 * 7)).toList) (hg : wr.grownBy w1 none) (s : Value) :
    S0 w w1 ∧ Im w1 w.heap.size w1.heap.size w1.heap.size (.slice none 0 0) (.slice (some ⟨wr.heap.size, 0, none⟩) 600 600) [] (wordsTo l 0) := by
  have hb := below_grown hg
  rw [made_flatW] at ho
  refine ⟨h.step hb, trivial, ⟨World.ownsRow_nil _ _ _ _, fun g hg => by cases hg⟩, ⟨?_, fun g hg => (ho.lt g hg).2⟩⟩
  have e : (wordsTo l 0).length = 600 := by unfold wordsTo; rw [List.length_replicate]
  rw [e]
  exact owns_mono ho h.y.size

/-- A region, an object and its code beside the image. -/
structure S4 (l : List Oj) (w : World) (g hi h2 : Nat) (wr : World) (mv wv : Value) (rs : List (Value × Rg)) (ms : List Rg) (ws : List Wo) (gO gR c0 c1 : Nat) (ov : List Value) (cv : Value) (rlo rhi rown : Int) (code : List Int) : Prop where
  s : S3 l w g hi h2 wr mv wv rs ms ws
  o : Blk wr gO 47 ov
  r : Blk wr gR 50 [.int .i64 rlo, .int .i64 rhi, .int .i64 rown, cv]
  c : Pc wr 5 1 c0 c1 cv code.length (bV code)
  hb : isB code
  hc : hi ≤ c0 ∧ c0 ≤ c1 ∧ c1 ≤ wr.heap.size ∧ hi ≤ gR ∧ w.heap.size < gO
theorem S4.step {l : List Oj} {w wr w' : World} {g hi h2 gO gR c0 c1 : Nat} {mv wv cv : Value} {rs : List (Value × Rg)} {ms : List Rg} {ws : List Wo} {ov : List Value} {rlo rhi rown : Int} {code : List Int} (h : S4 l w g hi h2 wr mv wv rs ms ws gO gR c0 c1 ov cv rlo rhi rown code) (b : Below wr.heap.size wr w') : S4 l w g hi h2 w' mv wv rs ms ws gO gR c0 c1 ov cv rlo rhi rown code := by
  have hs := b.size
  have hc := h.hc
  exact ⟨h.s.step b, h.o.below b h.o.lt, h.r.below b h.r.lt, h.c.stays (fun g _ q _ => b.block g (by omega)), h.hb, by omega⟩
theorem S4.words {l : List Oj} {w wr w1 : World} {g hi h2 gO gR c0 c1 n : Nat} {mv wv wv' cv : Value} {rs : List (Value × Rg)} {ms : List Rg} {ws us : List Wo} {ov : List Value} {rlo rhi rown : Int} {code : List Int} (h : S4 l w g hi h2 wr mv wv rs ms ws gO gR c0 c1 ov cv rlo rhi rown code)
    (hn : us.length = n) (hr : w1.ownsRow w.heap.size 55 7 wv' (ws.length + n) (flatW ws ++ flatW us)) (hg : wr.grownBy w1 wv.ownBlock) : S4 l w g hi w1.heap.size (w1.setCell ⟨g, 1, none⟩ wv') mv wv' rs ms (ws ++ us) gO gR c0 c1 ov cv rlo rhi rown code := by
  have hs := hg.size
  have hc := h.hc
  have m1 := h.s.im.wblk hg h.s.m (by decide)
  have o1 := h.s.im.wblk hg h.o (by decide)
  have r1 := h.s.im.wblk hg h.r (by decide)
  have c1' := h.c.stays (w' := w1) (fun g _ _ q => grown_other h.s.im.wrow.own hg (by decide) q)
  have no : gO ≠ g := fun e => by subst e; exact absurd (typ_ne o1 m1) (by decide)
  have nr : gR ≠ g := fun e => by subst e; exact absurd (typ_ne r1 m1) (by decide)
  refine ⟨h.s.words hn hr hg, o1.other no, r1.other nr, c1'.stays (fun g' _ _ hq => heap_setCell_other w1 ⟨g, 1, none⟩ g' wv' (fun e => ?_)), h.hb, ?_⟩
  · have e' : g' = g := e
    subst e'
    exact absurd (blk_typ m1 hq) (by decide)
  · rw [show (w1.setCell ⟨g, 1, none⟩ wv').heap.size = w1.heap.size by simp]; omega
/-- The region's end is known. -/
theorem S4.rhi {l : List Oj} {w wr : World} {g hi h2 gO gR c0 c1 : Nat} {mv wv cv : Value} {rs : List (Value × Rg)} {ms : List Rg} {ws : List Wo} {ov : List Value} {rlo rhi rown : Int} {code : List Int} (h : S4 l w g hi h2 wr mv wv rs ms ws gO gR c0 c1 ov cv rlo rhi rown code) (x : Int) : S4 l w g hi h2 (wr.setCell ⟨gR, 1, none⟩ (.int .i64 x)) mv wv rs ms ws gO gR c0 c1 ov cv rlo x rown code := by
  have hc := h.hc
  have m1 := h.s.m
  have nr : g ≠ gR := fun e => by have := h.r; subst e; exact absurd (typ_ne this m1) (by decide)
  have nz : w.heap.size ≠ gR := fun e => by have := h.r; rw [← e] at this; exact absurd (typ_ne this h.s.z.z) (by decide)
  have no : gO ≠ gR := fun e => by have := h.r; rw [← e] at this; exact absurd (typ_ne this h.o) (by decide)
  have hlo := h.s.hi.1
  refine ⟨⟨⟨h.s.z.z.other nz, h.s.z.y.setCell (p := ⟨gR, 1, none⟩) (by show w.heap.size ≤ gR; omega) _⟩, m1.other nr, h.s.im.put h.r (by decide) (by decide) (.inr hc.2.2.2.1), h.s.rs, h.s.lo, ?_, ?_⟩, h.o.other no, h.r.set (i := 1) _, h.c.stays (fun g' _ _ hq => heap_setCell_other wr ⟨gR, 1, none⟩ g' _ (fun e => ?_)), h.hb, ?_⟩
  · simpa using h.s.hi
  · simpa using h.s.h2
  · have e' : g' = gR := e
    subst e'
    exact absurd (blk_typ h.r hq) (by decide)
  · simpa using hc

/-- A region laid beside the image. -/
theorem S4.make {l : List Oj} {w w5 W : World} {g hi h2 gO gR c0 c1 : Nat} {mv wv cv x0 x1 x2 x3 : Value} {rs : List (Value × Rg)} {ms : List Rg} {ws : List Wo} {ov : List Value} {rlo rhi rown : Int} {code : List Int} (st : S3 l w g hi h2 w5 mv wv rs ms ws) (oB : Blk w5 gO 47 ov) (hgO : w.heap.size < gO) (b : Below w5.heap.size w5 W)
    (rB : Blk W gR 50 [x0, x1, x2, x3]) (hgR : w5.heap.size ≤ gR) (pc : Pc W 5 1 c0 c1 cv code.length (bV code)) (hc : w5.heap.size ≤ c0 ∧ c0 ≤ c1 ∧ c1 ≤ W.heap.size) (hb : isB code) :
    S4 l w g hi h2 ((((W.setCell ⟨gR, 0, none⟩ (.int .i64 rlo)).setCell ⟨gR, 1, none⟩ (.int .i64 rhi)).setCell ⟨gR, 2, none⟩ (.int .i64 rown)).setCell ⟨gR, 3, none⟩ cv) mv wv rs ms ws gO gR c0 c1 ov cv rlo rhi rown code := by
  have b2 : Below w5.heap.size w5 ((((W.setCell ⟨gR, 0, none⟩ (.int .i64 rlo)).setCell ⟨gR, 1, none⟩ (.int .i64 rhi)).setCell ⟨gR, 2, none⟩ (.int .i64 rown)).setCell ⟨gR, 3, none⟩ cv) := (((b.setCell (p := ⟨gR, 0, none⟩) hgR _).setCell (p := ⟨gR, 1, none⟩) hgR _).setCell (p := ⟨gR, 2, none⟩) hgR _).setCell (p := ⟨gR, 3, none⟩) hgR _
  have hs : ((((W.setCell ⟨gR, 0, none⟩ (.int .i64 rlo)).setCell ⟨gR, 1, none⟩ (.int .i64 rhi)).setCell ⟨gR, 2, none⟩ (.int .i64 rown)).setCell ⟨gR, 3, none⟩ cv).heap.size = W.heap.size := by simp
  have r4 := (((rB.set (i := 0) (.int .i64 rlo)).set (i := 1) (.int .i64 rhi)).set (i := 2) (.int .i64 rown)).set (i := 3) cv
  have h1 := st.hi.2
  refine ⟨st.step b2, oB.below b2 oB.lt, r4, pc.stays (fun g' _ _ hq => ?_), hb, ?_⟩
  · have ne : g' ≠ gR := fun e => by
      subst e
      exact absurd (blk_typ rB hq) (by decide)
    rw [heap_setCell_other _ ⟨gR, 3, none⟩ g' _ ne, heap_setCell_other _ ⟨gR, 2, none⟩ g' _ ne, heap_setCell_other _ ⟨gR, 1, none⟩ g' _ ne, heap_setCell_other _ ⟨gR, 0, none⟩ g' _ ne]
  · rw [hs]; omega

theorem RdRows.take {w : World} {b k : Nat} : ∀ {rs : List (List Fl)} {off i : Nat}, RdRows w b k off rs → RdRows w b k off (rs.take i) := by
  intro rs
  induction rs with
  | nil => intro off i h; simpa using h
  | cons r rs ih =>
    intro off i h
    cases i with
    | zero => exact trivial
    | succ i => exact ⟨h.1, ih h.2⟩

theorem LRow.take {w : World} {a : Option Addr} {c k : Nat} {rs : List (List Fl)} (h : LRow w a c k rs) (i : Nat) : LRow w a c k (rs.take i) := by
  refine ⟨Nat.le_trans (by simp; omega) h.cap, h.most, h.nil, fun hp => ?_⟩
  obtain ⟨b, off, e, hr⟩ := h.row (by simp at hp; omega)
  exact ⟨b, off, e, hr.take⟩

/-- An import's cells. -/
theorem impCells {w : World} {l : List Ip} {a : Option Addr} {c k : Nat} {i : Ip} (h : LRow w a c 3 (l.map Ip.fl)) (hi : l[k]? = some i) : ∃ b off am cm an cn, a = some ⟨b, off, none⟩ ∧ (w.cell? ⟨b, off + k * 3, none⟩ = some (.slice am i.mod.length cm) ∧ w.cell? ⟨b, off + k * 3 + 1, none⟩ = some (.slice an i.name.length cn) ∧ w.cell? ⟨b, off + k * 3 + 2, none⟩ = some (.int .i64 i.print)) ∧ BRow w am i.mod.length i.mod ∧ BRow w an i.name.length i.name := by
  obtain ⟨b, off, rfl⟩ := h.addr (by have := (List.getElem?_eq_some_iff.1 hi).1; rw [List.length_map]; omega)
  obtain ⟨vs, hvs, hcl⟩ := (h.el (show (l.map Ip.fl)[k]? = some i.fl by rw [List.getElem?_map, hi]; rfl)).vals
  obtain ⟨y0, _, rfl, ⟨am, cm, rfl, h0, _⟩, y1, _, rfl, ⟨an, cn, rfl, h1, _⟩, y2, _, rfl, rfl, rfl⟩ := hvs
  exact ⟨b, off, am, cm, an, cn, rfl, ⟨hcl 0 _ rfl, hcl 1 _ rfl, hcl 2 _ rfl⟩, h0, h1⟩

theorem ents_next {l : List Oj} {j k : Nat} {o : Oj} {i : Ip} {x : Wo} (ho : l[j]? = some o) (hi : o.im[k]? = some i) (hx : impW (l.take j) i = some x) : (entsAt l j).take (k + 1) = (entsAt l j).take k ++ [x] := by
  have e : (entsAt l j)[k]? = some x := by
    unfold entsAt
    rw [ojAt_some ho, List.getElem?_map, hi]
    simp [hx]
  obtain ⟨hk, hx'⟩ := List.getElem?_eq_some_iff.1 e
  rw [List.take_succ_eq_append_getElem hk, hx']
theorem ents_all {l : List Oj} {j n : Nat} {o : Oj} (ho : l[j]? = some o) (hn : o.im.length = n) : (entsAt l j).take n = entsAt l j := List.take_of_length_le (by unfold entsAt; rw [ojAt_some ho, List.length_map, hn]; exact Nat.le_refl _)
theorem good_next {l : List Oj} {j n : Nat} {o : Oj} (ho : l[j]? = some o) (hn : o.im.length = n) (h : goodTo l j) (hk : ∀ (m : Nat) (i : Ip), m < n → o.im[m]? = some i → impW (l.take j) i ≠ none) : goodTo l (j + 1) := by
  intro m hm i hi
  by_cases e : m = j
  · subst e
    rw [ojAt_some ho] at hi
    obtain ⟨k, hk1, rfl⟩ := List.mem_iff_getElem.1 hi
    exact hk k _ (by omega) (List.getElem?_eq_getElem hk1)
  · exact h m (by omega) i hi
theorem good_not {l : List Oj} {j n k : Nat} {o : Oj} {i : Ip} (ho : l[j]? = some o) (hj : j < n) (hi : o.im[k]? = some i) (hx : impW (l.take j) i = none) : ¬ goodTo l n := fun h => h j hj i (by rw [ojAt_some ho]; exact List.mem_of_getElem? hi) hx

theorem wat_one {w : World} {g : Nat} {x : Wo} (h : Blk w g 55 x.vals) : WAt w (some ⟨g, 0, none⟩) [x] := fun _ => ⟨g, 0, rfl, fun i v hv => by
  rw [Nat.zero_add]
  exact h.cell (by simpa [flatW] using hv)⟩
theorem lw_bound {l : List Oj} {j k nw : Nat} (hw : (wordsTo l j).length = nw) (hb : nw ≤ 2264) (hk : k ≤ 8) : (wordsTo l j ++ (entsAt l j).take k).length ≤ 2272 := by
  rw [List.length_append, hw, List.length_take]
  omega
theorem take_get {l : List Oj} {j f : Nat} {o : Oj} (h : (l.take j)[f]? = some o) : f < j ∧ l[f]? = some o := by
  rw [List.getElem?_take] at h
  split at h
  · rename_i hf; exact ⟨hf, h⟩
  · cases h
theorem entB_yes {f x : Nat} (hf : f ≤ 7) (hx : x ≤ 4000) : entB (f : Int) (x : Int) = true := by simp [entB, inR]; omega

theorem wpList_appendRg {w : World} {ops : Array Oper} {rest : List Oper} {o : Oper} {a : Act} {Q : Exit → Act → World → Prop} (hgd : o.guard = none) (s x : Operand)
    (ho : o.op = .call { callee := .builtin .append, args := #[s, x], argTypes := #[24, 24] })
    (base : Nat) (v : Value) (n : Nat) (l : List (Value × Rg)) (hs : a.eval s = v) (hown : w.ownsRow base 50 4 v n (flatR l))
    (g : Nat) (c : Value) (r : Rg) (hx : a.eval x = .slice (some ⟨g, 0, none⟩) 1 1) (hr : Blk w g 50 (r.vals c)) (h1 : c.oneCell' = true) (hsz : n ≤ 1000) (hbase : base ≤ w.heap.size)
    (h : ∀ v' w', w'.ownsRow base 50 4 v' (n + 1) (flatR l ++ r.vals c) → w.grownBy w' v.ownBlock → wpList Try.prog ops Q rest (a.put o.dst v') w') : wpList Try.prog ops Q (o :: rest) a w :=
  wpList_plain hgd fun _ hK => wp_appendRg s x ho base v n l hs hown g c r hx hr h1 hsz hbase fun v' w' h2 h3 => hK _ _ (h v' w' h2 h3)

theorem S4.done {l : List Oj} {w wr w1 : World} {g hi h2 gO gR c0 c1 : Nat} {mv wv cv mv' : Value} {rs : List (Value × Rg)} {ms : List Rg} {ws : List Wo} {ov : List Value} {rlo rhi rown : Int} {code : List Int} (h : S4 l w g hi h2 wr mv wv rs ms ws gO gR c0 c1 ov cv rlo rhi rown code)
    (hr : w1.ownsRow w.heap.size 50 4 mv' (rs.length + 1) (flatR rs ++ Rg.vals cv ⟨rlo, rhi, rown, code⟩)) (hg : wr.grownBy w1 mv.ownBlock) : S3 l w g w1.heap.size h2 (w1.setCell ⟨g, 0, none⟩ mv') mv' wv (rs ++ [(cv, ⟨rlo, rhi, rown, code⟩)]) (ms ++ [⟨rlo, rhi, rown, code⟩]) ws := by
  have hc := h.hc
  exact h.s.mods hc.1 (h.c.wide (Nat.le_refl _) hc.2.2.1) h.hb (by omega) hr hg

theorem mods_next {l : List Oj} {j nw lz n2 : Nat} {o : Oj} (ho : l[j]? = some o) (hw : (wordsTo l j).length = nw) (hl : (wordsTo l (j + 1)).length = lz) (hn : o.im.length = n2) : modsTo l (j + 1) = modsTo l j ++ [⟨(nw : Int), (lz : Int), (n2 : Int), o.code⟩] := by
  conv => lhs; unfold modsTo
  rw [hw, hl, ojAt_some ho, hn]
theorem data_at {l : List Oj} {j nd : Nat} {o : Oj} (ho : l[j]? = some o) (hd : o.data = (nd : Int)) : dataAt l j = List.replicate nd zeroWo := by
  unfold dataAt
  rw [ojAt_some ho, hd, Int.toNat_natCast]

theorem words600 (l : List Oj) : ∀ j, 600 ≤ (wordsTo l j).length := by
  intro j
  induction j with
  | zero => unfold wordsTo; rw [List.length_replicate]; exact Nat.le_refl _
  | succ j ih => unfold wordsTo; rw [List.length_append]; omega
theorem mods_len (l : List Oj) : ∀ j, (modsTo l j).length = j := by
  intro j
  induction j with
  | zero => rfl
  | succ j ih => unfold modsTo; rw [List.length_append, ih]; rfl

theorem main_row {w : World} {g : Nat} (h : Blk w g 5 [.int .u8 109, .int .u8 97, .int .u8 105, .int .u8 110]) : BRow w (some ⟨g, 0, none⟩) 4 mainN := by
  have : Own w g (.slice (some ⟨g, 0, none⟩) mainN.length mainN.length) mainN.length mainN := own_of_block h (Nat.le_refl _) (by decide) (by decide)
  exact this.row
theorem nil_row (w : World) : NRow w none 0 [] := ⟨rfl, by simp, fun h => absurd h (by omega)⟩
theorem oj_last {l : List Oj} {n q : Nat} {o : Oj} (hn : l.length = n) (hq : n = q + 1) (ho : l[q]? = some o) : ojAt l (l.length - 1) = o := by
  rw [hn, hq]
  exact ojAt_some ho
/-- An export's cells. -/
theorem expCells {w : World} {l : List Xp} {a : Option Addr} {c k : Nat} {x : Xp} (h : LRow w a c 3 (l.map Xp.fl)) (hx : l[k]? = some x) : ∃ b off am cm, a = some ⟨b, off, none⟩ ∧ (w.cell? ⟨b, off + k * 3, none⟩ = some (.slice am x.name.length cm) ∧ w.cell? ⟨b, off + k * 3 + 1, none⟩ = some (.int .i64 x.print) ∧ w.cell? ⟨b, off + k * 3 + 2, none⟩ = some (.int .i64 x.pos)) ∧ BRow w am x.name.length x.name := by
  obtain ⟨b, off, rfl⟩ := h.addr (by have := (List.getElem?_eq_some_iff.1 hx).1; rw [List.length_map]; omega)
  obtain ⟨vs, hvs, hcl⟩ := (h.el (show (l.map Xp.fl)[k]? = some x.fl by rw [List.getElem?_map, hx]; rfl)).vals
  obtain ⟨y0, _, rfl, ⟨am, cm, rfl, h0, _⟩, y1, _, rfl, rfl, y2, _, rfl, rfl, rfl⟩ := hvs
  exact ⟨b, off, am, cm, rfl, ⟨hcl 0 _ rfl, hcl 1 _ rfl, hcl 2 _ rfl⟩, h0⟩

theorem wrap_nat {m : Nat} (h : m ≤ 1048576) : IntKind.i64.wrap (m : Int) = (m : Int) := by rw [IntKind.wrap]; simp [IntKind.min, IntKind.max, IntKind.bits, IntKind.signed]; omega

/-! A constant's bytes: the row's mark -/
theorem conv_mark {W : World} {g n c : Nat} {C : List Value} (h : Blk W g 5 C) : (convert 38 38 (.slice (some ⟨g, 0, none⟩) n c)).run Try.prog W = .ok (.slice (some ⟨g, 0, none⟩) n c) (W.freeze ⟨g, C.length, none⟩ 1) := by
  have hsh : W.shape? g = some (5, C.length) := by unfold World.shape?; rw [show W.heap[g]? = _ from h]; simp
  simp [convert, run_underlying Try.underlying38, run_underlying Try.underlying5, markStringish, hsh]
theorem frz_other {W : World} {g g' k : Nat} (hne : g' ≠ g) : (W.freeze ⟨g, k, none⟩ 1).heap[g']? = W.heap[g']? := by
  unfold World.freeze
  rw [if_neg (by decide)]
  simp only [Array.getElem?_modify]
  rw [if_neg (Ne.symm hne)]
theorem frz_below {B g k : Nat} {a W : World} (h : Below B a W) (hg : B ≤ g) : Below B a (W.freeze ⟨g, k, none⟩ 1) := by
  have hs : (W.freeze ⟨g, k, none⟩ 1).heap.size = W.heap.size := by unfold World.freeze; rw [if_neg (by decide)]; simp
  have h1 : (W.freeze ⟨g, k, none⟩ 1).os = W.os ∧ (W.freeze ⟨g, k, none⟩ 1).tape = W.tape ∧ (W.freeze ⟨g, k, none⟩ 1).output = W.output := by unfold World.freeze; rw [if_neg (by decide)]; exact ⟨rfl, rfl, rfl⟩
  exact ⟨h1.1.trans h.os, h1.2.1.trans h.tape, h1.2.2.trans h.output, by rw [hs]; exact h.size, fun j hj => (frz_other (by omega)).trans (h.block j hj)⟩
/-- These cells lie in block g. -/
def MC (W : World) (g : Nat) : Prop := ∀ i v, [Value.int .u8 109, .int .u8 97, .int .u8 105, .int .u8 110][i]? = some v → W.cell? ⟨g, i, none⟩ = some v
theorem MC.below {W W' : World} {g : Nat} (h : MC W g) (hb : Below W.heap.size W W') : MC W' g := fun i v hv => cell_on (h i v hv) hb
theorem MC.frz {W : World} {g k : Nat} (h : Blk W g 5 [.int .u8 109, .int .u8 97, .int .u8 105, .int .u8 110]) : MC (W.freeze ⟨g, k, none⟩ 1) g := by
  intro i v hv
  rw [← h.cell hv]
  have e : (W.freeze ⟨g, k, none⟩ 1).heap[g]? = some (.cells #[.int .u8 109, .int .u8 97, .int .u8 105, .int .u8 110] 5 (k, k + 1)) := by
    unfold World.freeze
    rw [if_neg (by decide)]
    simp only [Array.getElem?_modify, if_pos]
    rw [show W.heap[g]? = _ from h]
    rfl
  rw [cell_of_row _ g i _ _ _ e, cell_of_row _ g i _ _ _ h]
theorem MC.frzO {W : World} {g g' k : Nat} (h : MC W g) (hne : g ≠ g') : MC (W.freeze ⟨g', k, none⟩ 1) g := fun i v hv => by
  rw [World.cell?_of_block (a := ⟨g, i, none⟩) (frz_other hne)]
  exact h i v hv
theorem Blk.frzO {W : World} {g g' k T : Nat} {vs : List Value} (h : Blk W g T vs) (hne : g ≠ g') : Blk (W.freeze ⟨g', k, none⟩ 1) g T vs := (frz_other hne).trans h
theorem MC.row {W : World} {g : Nat} (h : MC W g) : BRow W (some ⟨g, 0, none⟩) 4 mainN := by
  refine ⟨rfl, by decide, fun _ => ⟨g, 0, rfl, fun i hi => ?_⟩⟩
  rw [Nat.zero_add]
  match i, hi with
  | 0, _ => exact h 0 _ rfl
  | 1, _ => exact h 1 _ rfl
  | 2, _ => exact h 2 _ rfl
  | 3, _ => exact h 3 _ rfl

theorem fin_wellN {l : List Oj} {w wr : World} {g hi h2 x n : Nat} {mv wv : Value} {rs : List (Value × Rg)} {s : Int} (hn : l.length = n) (h : S3 l w g hi h2 wr mv wv rs (modsTo l n) (wordsTo l n)) (hf : formOk l) (hu : unlO l) (hg : goodTo l n) (hx : findX (ojAt l (l.length - 1)) mainN fmain = some x) (hs : s = ((ojAt l (l.length - 1)).ex[x]?.map Xp.pos).getD 0) :
    LkFin l w (.returned (.tuple #[.agg #[mv, wv, .int .i64 s], .int .i64 0])) ((((wr.setCell ⟨g, 2, none⟩ (.int .i64 s)).setCell ⟨w.heap.size, 0, none⟩ mv).setCell ⟨w.heap.size, 1, none⟩ wv).setCell ⟨w.heap.size, 2, none⟩ (.int .i64 s)) := by
  subst hn
  exact fin_well h hf hu hg hx hs
end Go.Proofs.Ytefciaeajlgheaa

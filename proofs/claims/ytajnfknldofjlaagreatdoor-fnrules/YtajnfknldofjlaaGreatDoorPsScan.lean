/- All tokens of a text: the program's own list, as a plain function. -/
import Derived.Test.YtajnfknldofjlaaGreatDoorPsSeq
import Derived.Test.YtajnfknldofjlaaGreatDoorGot
namespace Go.Proofs.YtajnfknldofjlaaGreatDoor
open Go.RowKit Go.Shelf
set_option linter.unusedVariables false
set_option linter.unusedSimpArgs false
set_option maxRecDepth 100000
attribute [local go_sem] Oper.semAt_some

theorem tokensC (a : Option Addr) (n c : Nat) (w : World) :
    Calls Tryz.prog 17 #[.slice a n c] w fun e w' => e = .returned (.func (.func 44) #[] #[.pointer (some ⟨w.heap.size, 0, none⟩)]) ∧ w' = w.alloc (.cells #[.slice a n c] 22 (0, 0)) := by
  have hmf : ∀ (fn : Fn) (first cap : Array Value) (w : World), (Instr.makeFunc fn first cap).run Tryz.prog w = .ok (.func fn first cap) w := fun _ _ _ _ => rfl
  go_enter Tryz.func17, Tryz.ntmps17
  go_wp2_with fail
  go_ret
  exact ⟨rfl, rfl⟩

theorem kl_b {n0 : Nat} {w : World} (hn : n0 ≤ w.heap.size) (W : World) (l : Nat) (o o' : Obj) (hl : w.heap.size ≤ l) (h : W.heap[l]? = some o) (hc : o.isCells = false) (_ : o.isWalk = false) : Kl n0 W (W.putObj l o') := by
  have hg := grownBy_putObj' W l o'
  refine ⟨hg.os, hg.tape, hg.output, hg.size, fun k hk => ?_, fun k c T f hk _ => ?_⟩
  · have hl2 := (Array.getElem?_eq_some_iff.1 h).1
    exact hg.block k (by omega) (by simp; omega)
  · refine hg.block k (Array.getElem?_eq_some_iff.1 hk).1 (by
      simp only [ne_eq, Option.some.injEq]
      intro e
      subst e
      rw [hk] at h
      cases h
      cases hc)
theorem blkT_own {A C : World} {row : Option Nat} {g : Nat} {T : TypeId} {vs : List Value} (h : Blk A g T vs) (hg : A.grownBy C row) (hr : ∀ r, row = some r → ∃ o : Obj, A.heap[r]? = some o ∧ o.isCells = false) : Blk C g T vs :=
  (hg.block g h.lt (fun e => by
    obtain ⟨o, ho, hc⟩ := hr g e.symm
    have h' : A.heap[g]? = _ := h
    rw [h'] at ho
    cases ho
    cases hc)).trans h
theorem rowT_own {A C : World} {row : Option Nat} {T k base n : Nat} {v : Value} {xs : List Value} (h : A.ownsRow base T k v n xs) (hg : A.grownBy C row) (hr : ∀ r, row = some r → ∃ o : Obj, A.heap[r]? = some o ∧ o.isCells = false) : C.ownsRow base T k v n xs :=
  owns_stays h fun g hv => hg.block g (h.lt g hv).2 (fun e => by
    obtain ⟨o, ho, hc⟩ := hr g e.symm
    obtain ⟨cur, h'⟩ := owns_type h hv
    rw [h'] at ho
    cases ho
    cases hc)

def Tok.vals (x : Tok) : List Value := [.int .i64 x.kind, .string (strOfNums x.text), .int .i64 x.pos]
def flatT (l : List Tok) : List Value := l.flatMap Tok.vals
theorem flatT_len (l : List Tok) : (flatT l).length = l.length * 3 := by
  induction l with
  | nil => rfl
  | cons x l ih => simp only [flatT, List.flatMap_cons, List.length_append, List.length_cons] at ih ⊢; rw [ih]; simp [Tok.vals]; omega
theorem flatT_one (x : Tok) : flatT [x] = x.vals := by simp [flatT]
theorem flatT_snoc (l : List Tok) (x : Tok) : flatT (l ++ [x]) = flatT l ++ x.vals := by simp [flatT]
theorem vals_one (x : Tok) : ∀ u ∈ x.vals, u.oneCell' = true := by
  intro u hu
  simp only [Tok.vals, List.mem_cons, List.not_mem_nil, or_false] at hu
  rcases hu with rfl | rfl | rfl <;> rfl
theorem infoTok : (Tryz.prog.info? 53).map (fun i => (i.zero, i.size, i.bytes)) = some (some (.agg #[.int .i64 0, .string ⟨#[]⟩, .int .i64 0]), 3, 32) := by kernel_rfl

/-- Where the first is that is none; -1: there is none such. -/
def wrongOf (ts : List Tok) : Int := match ts.find? (fun x => decide (x.kind = 0)) with
  | some x => x.pos
  | none => -1
theorem wrong_none {ts : List Tok} (h : ∀ x ∈ ts, x.kind ≠ 0) : wrongOf ts = -1 := by
  unfold wrongOf
  rw [List.find?_eq_none.2 (by intro x hx; simpa using h x hx)]
theorem wrong_some {ts pre : List Tok} {x : Tok} (hp : pre ++ [x] <+: ts) (h : ∀ y ∈ pre, y.kind ≠ 0) (hx : x.kind = 0) : wrongOf ts = x.pos := by
  obtain ⟨r, rfl⟩ := hp
  unfold wrongOf
  rw [List.append_assoc, List.find?_append, List.find?_eq_none.2 (by intro y hy; simpa using h y hy)]
  simp [hx]

/-- How far scan has come: pre told, none of them wrong. -/
structure Scn (w : World) (bv : Value) (pre : List Tok) (wv : Int) (W : World) : Prop where
  ls : ∃ v, Blk W w.heap.size 33 [v] ∧ W.ownsRow w.heap.size 53 3 v pre.length (flatT pre)
  wr : Blk W (w.heap.size + 1) 3 [.int .i64 wv]
  box : Blk W (w.heap.size + 1 + 1) 22 [bv]
  ok : ∀ x ∈ pre, x.kind ≠ 0
  y : Below w.heap.size w W
theorem Scn.grown {w W C : World} {bv : Value} {pre : List Tok} {wv : Int} (h : Scn w bv pre wv W) (hg : W.grownBy C none) : Scn w bv pre wv C := by
  have b := below_grown hg
  obtain ⟨v, h1, h2⟩ := h.ls
  exact ⟨⟨v, h1.below b h1.lt, owns_stays h2 (fun g hv => b.block g (h2.lt g hv).2)⟩, h.wr.below b h.wr.lt, h.box.below b h.box.lt, h.ok, h.y.trans (b.mono h.y.size)⟩
theorem Scn.own {w A C : World} {bv : Value} {pre : List Tok} {wv : Int} {row : Option Nat} (h : Scn w bv pre wv A) (hg : A.grownBy C row) (hr : ∀ r, row = some r → w.heap.size ≤ r ∧ ∃ o : Obj, A.heap[r]? = some o ∧ o.isCells = false) : Scn w bv pre wv C := by
  have hr' := fun r e => (hr r e).2
  obtain ⟨v, h1, h2⟩ := h.ls
  exact ⟨⟨v, blkT_own h1 hg hr', rowT_own h2 hg hr'⟩, blkT_own h.wr hg hr', blkT_own h.box hg hr', h.ok, h.y.grown hg h.y.size (fun k hk => (hr k hk).1)⟩
theorem tok_other {w w' : World} {base n : Nat} {v : Value} {xs : List Value} (h : w.ownsRow base 53 3 v n xs) (hg : w.grownBy w' v.ownBlock) {g U : Nat} {vs : List Value} (hb : Blk w g U vs) (hne : U ≠ 53) : Blk w' g U vs := by
  refine (hg.block g hb.lt fun e => ?_).trans hb
  obtain ⟨d, hd⟩ := owns_type h e.symm
  have hb' : w.heap[g]? = _ := hb
  rw [hb'] at hd
  simp only [Option.some.injEq, Obj.cells.injEq] at hd
  exact hne hd.2.1
theorem Scn.start (w : World) (a : Option Addr) (n c : Nat) : Scn w (.slice a n c) [] (-1) (((w.alloc (.cells #[.slice none 0 0] 33 (0, 0))).alloc (.cells #[.int .i64 (-1)] 3 (0, 0))).alloc (.cells #[.slice a n c] 22 (0, 0))) := by
  have b0 := ((Blk.new w 33 [.slice none 0 0]).old (o := .cells #[.int .i64 (-1)] 3 (0, 0))).old (o := .cells #[.slice a n c] 22 (0, 0))
  have b1 := (Blk.new (w.alloc (.cells #[.slice none 0 0] 33 (0, 0))) 3 [.int .i64 (-1)]).old (o := .cells #[.slice a n c] 22 (0, 0))
  have b2 := Blk.new ((w.alloc (.cells #[.slice none 0 0] 33 (0, 0))).alloc (.cells #[.int .i64 (-1)] 3 (0, 0))) 22 [.slice a n c]
  simp only [List.toArray, World.size_alloc] at b0 b1 b2
  exact ⟨⟨_, b0, World.ownsRow_nil _ _ _ _⟩, b1, b2, by simp, (((Below.refl _ w).alloc (Nat.le_refl _) _).alloc (by simp) _).alloc (by simp; omega) _⟩

theorem lexP_len : ∀ (f : Nat) (l : List Int) (i : Nat), (lexP f l i).length ≤ f
  | 0, _, _ => by simp [lexP]
  | f + 1, l, i => by
    cases l with
    | nil => simp [lexP]
    | cons x r =>
      simp only [lexP]
      split
      · have := lexP_len f r (i + 1); omega
      · simp only [List.length_cons]; have := lexP_len f ((x :: r).drop (tokSize (x :: r))) (i + tokSize (x :: r)); omega
theorem wpListIn_appendT {F : Fence} {fn : Nat} {w : World} {ops : Array Oper} {rest : List Oper} {o : Oper} {a : Act} {Q : Exit → Act → World → Prop} (hgd : o.guard = none) (s x : Operand)
    (ho : o.op = .call { callee := .builtin .append, args := #[s, x], argTypes := #[33, 33] })
    (base : Nat) (v : Value) (n : Nat) (ts : List Tok) (hs : a.eval s = v) (hown : w.ownsRow base 53 3 v n (flatT ts))
    (g : Nat) (e : Tok) (hx : a.eval x = .slice (some ⟨g, 0, none⟩) 1 1) (hr : Blk w g 53 e.vals) (hsz : n ≤ 1048576) (hbase : base ≤ w.heap.size)
    (h : ∀ v' w', w'.ownsRow base 53 3 v' (n + 1) (flatT (ts ++ [e])) → w.grownBy w' v.ownBlock → wpListIn F fn Tryz.prog ops Q rest (a.put o.dst v') w') : wpListIn F fn Tryz.prog ops Q (o :: rest) a w := by
  obtain ⟨i0, hi, hz0, hz1, hz2⟩ := info_parts infoTok
  refine wpListIn_append_own w hgd s x 33 ho base 53 i0 _ 3 32 Tryz.underlying33 hi hz0 hz1 hz2 rfl (by decide) v n _ hs hown ⟨g, 0, none⟩ 1 1 e.vals hx rfl ?_ (vals_one _) (by unfold maxLen; omega) (by omega) hbase ?_
  · intro j u hu
    rw [Addr.add_lit, Nat.zero_add]
    exact hr.cell hu
  · intro v' w' ho' hg' _
    rw [← flatT_snoc] at ho'
    exact h v' w' ho' hg'
theorem Scn.push {w W C : World} {bv v v' : Value} {pre : List Tok} {wv : Int} {x : Tok} (h : Scn w bv pre wv W) (h1 : Blk W w.heap.size 33 [v]) (h2 : W.ownsRow w.heap.size 53 3 v pre.length (flatT pre)) (hx : x.kind ≠ 0)
    (hr : C.ownsRow w.heap.size 53 3 v' (pre.length + 1) (flatT (pre ++ [x]))) (hg : W.grownBy C v.ownBlock) :
    Blk C w.heap.size 33 [v] ∧ Scn w bv (pre ++ [x]) wv (C.setCell ⟨w.heap.size, 0, none⟩ v') ∧ KeepsOthers W (C.setCell ⟨w.heap.size, 0, none⟩ v') ∧ Kl w.heap.size W (C.setCell ⟨w.heap.size, 0, none⟩ v') := by
  have e1 := tok_other h2 hg h1 (by decide)
  have e2 := tok_other h2 hg h.wr (by decide)
  have e3 := tok_other h2 hg h.box (by decide)
  have hy : Below w.heap.size w C := h.y.grown hg h.y.size (fun k hk => (h2.lt k hk).1)
  refine ⟨e1, ⟨⟨v', e1.set (i := 0) v', ?_⟩, e2.other (by omega), e3.other (by omega), ?_, hy.setCell (p := ⟨w.heap.size, 0, none⟩) (Nat.le_refl _) _⟩, ?_, ?_⟩
  · rw [List.length_append]
    refine owns_stays hr fun g hv => heap_setCell_other _ ⟨w.heap.size, 0, none⟩ g _ fun e => ?_
    subst e
    obtain ⟨d, hd⟩ := owns_type hr hv
    have hb' : C.heap[w.heap.size]? = _ := e1
    rw [hb'] at hd
    simp only [Option.some.injEq, Obj.cells.injEq] at hd
    exact absurd hd.2.1 (by decide)
  · intro y hy
    rcases List.mem_append.1 hy with hy | hy
    · exact h.ok y hy
    · rw [List.mem_singleton.1 hy]; exact hx
  · refine (KeepsOthers.of_grownBy hg (fun j o hj ho => ?_)).trans (KeepsOthers.setCell _ _ _)
    obtain ⟨d, hd⟩ := owns_type h2 hj
    rw [hd] at ho
    cases ho
    rfl
  · have hs : (C.setCell ⟨w.heap.size, 0, none⟩ v').heap.size = C.heap.size := by simp
    refine ⟨hg.os, hg.tape, hg.output, by rw [hs]; exact hg.size, fun k hk => ?_, fun k cc T f hc hT => ?_⟩
    · rw [heap_setCell_other C ⟨w.heap.size, 0, none⟩ k v' (by show k ≠ w.heap.size; omega)]
      exact hg.block k (Nat.lt_of_lt_of_le hk h.y.size) (fun e => by have := (h2.lt k e.symm).1; omega)
    · subst hT
      have n1 : k ≠ w.heap.size := by
        intro e
        subst e
        have h' : W.heap[w.heap.size]? = _ := h1
        rw [h'] at hc
        simp only [Option.some.injEq, Obj.cells.injEq] at hc
        exact absurd hc.2.1 (by decide)
      rw [heap_setCell_other C ⟨w.heap.size, 0, none⟩ k v' n1]
      refine hg.block k (Array.getElem?_eq_some_iff.1 hc).1 (fun e => ?_)
      obtain ⟨d, hd⟩ := owns_type h2 e.symm
      rw [hc] at hd
      simp only [Option.some.injEq, Obj.cells.injEq] at hd
      exact absurd hd.2.1 (by decide)

set_option maxHeartbeats 8000000 in
theorem scanC (l : List Int) (a : Option Addr) (n c : Nat) (w : World) (hR : BRow w a n l) (hn2 : n ≤ 3000) (hnc : n ≤ c) (hcm : c ≤ 9223372036854775807) (ht : TabsR w) :
    Calls Tryz.prog 7 #[.slice a n c] w fun e w' => ∃ v, e = .returned (.tuple #[v, .int .i64 (wrongOf (lexAll l))]) ∧ ((∀ x ∈ lexAll l, x.kind ≠ 0) → w'.ownsRow w.heap.size 53 3 v ((lexAll l).length + 1) (flatT (lexAll l ++ [⟨1, [], n⟩]))) ∧ Below w.heap.size w w' := by
  have S0 := Scn.start w a n c
  refine callsIn_wide (n := 5) |>.1 ?_
  refine callsIn_of_wp_marks Tryz.func7 rfl trivial ?_ rfl
  simp only [Tryz.ntmps7, List.size_toArray, List.length_cons, List.length_nil, Nat.reduceAdd, Nat.reduceSub, Array.replicate_succ, Array.replicate_zero, List.push_toArray, List.append_toArray, List.nil_append, List.cons_append]
  gi_wp2_with fail
  refine wpIn_wide.2 (wp_scope_straight ((wpIn_wide (n := 5)).1 ?_))
  gi_wp2_with fail
  refine wpIn_label ?_
  gi_wp2_with (refine ⟨trivial, ?_⟩; gi_at_call 17; refine (callsIn_wide.2 (tokensC _ _ _ _)).mono ?_; rintro e w' ⟨rfl, rfl⟩)
  obtain ⟨W0, hW0⟩ : ∃ W0, ((w.alloc (.cells #[.slice none 0 0] 33 (0, 0))).alloc (.cells #[.int .i64 (-1)] 3 (0, 0))).alloc (.cells #[.slice a n c] 22 (0, 0)) = W0 := ⟨_, rfl⟩
  rw [hW0] at S0 ⊢
  clear hW0
  have hB0 := S0.y
  have HT : Hid (TabsR w) := ht
  rename_i K hKK
  have HKK : Hid (∀ (p : List Tok) (wv : Int) (W : World) (D : Nat), Scn w (.slice a n c) p wv W → w.heap.size ≤ D → W.heap[D]? = some (.deferred (some [])) → p.length ≤ 1000000 → wv = wrongOf (lexAll l) → ((∀ x ∈ lexAll l, x.kind ≠ 0) → p = lexAll l) → K { tmps := #[.slice a n c, undef, .slice none 0 0, .int .i64 0, .pointer (some ⟨w.heap.size, 0, none⟩), .pointer (some ⟨w.heap.size + 1, 0, none⟩), undef, .slice a n c, .func (.func 44) #[] #[.pointer (some ⟨w.heap.size + 1 + 1, 0, none⟩)], undef, undef, undef, undef, undef, undef, undef, undef, undef, undef, undef, undef, undef, undef, undef, undef, undef, undef], defers := [{ target := .collected D, args := #[] }] } W) := by
    intro p wv W D hs hD hdf hpl hwv0 hpg
    have HWV : Hid (wv = wrongOf (lexAll l)) := hwv0
    clear hwv0
    refine hKK _ _ ?_
    clear hKK
    obtain ⟨v, h1, h2⟩ := hs.ls
    obtain ⟨av, cv, rfl, _⟩ := owns_shape h2
    have c0 : W.drew.cell? ⟨w.heap.size, 0, none⟩ = some (.slice av p.length cv) := h1.cell (i := 0) rfl
    have c1 : W.drew.cell? ⟨w.heap.size + 1, 0, none⟩ = some (.int .i64 wv) := hs.wr.cell (i := 0) rfl
    have bD : Below W.heap.size W W.drew := (Below.refl _ _).drew
    have hs1 := hs.grown (below_none bD)
    have hf1 : W.drew.heap[D]? = some (.deferred (some [])) := hdf
    have h2' : W.drew.ownsRow w.heap.size 53 3 (.slice av p.length cv) p.length (flatT p) := h2
    gi_upto_region 9 with fail
    rename_i K2 hK2
    refine wpIn_mono (?_ : Code.wpIn _ _ _ _ (Exit.then K2 (fun _ _ _ => False)) _ _) (fun e a w h => by cases e <;> first | exact h | exact h.elim)
    refine wpIn_wide.2 ?_
    refine wp_region_held_drew (S := fun wl => wl.cell? ⟨w.heap.size, 0, none⟩ = some (.slice av p.length cv) ∧ wl.cell? ⟨w.heap.size + 1, 0, none⟩ = some (.int .i64 wv)) (by kernel_rfl) ⟨c0, c1⟩ (fun hHeld => ?_)
    clear h1 h2 hs hdf bD c0 c1
    generalize W.drew = w1 at *
    refine wpAnyH_take (i := 0) (v := ?v501) rfl (by kernel_rfl) (by kernel_rfl) (by kernel_rfl) (fun _ _ _ h => h) (.inl ⟨by rfl, ?y501⟩) hHeld ?_
    case y501 => intro w hSw; (try dsimp only at hSw); go_simp; first | done | rfl
    refine wpAnyH_take (i := 1) (v := ?v502) rfl (by kernel_rfl) (by kernel_rfl) (by kernel_rfl) (fun _ _ _ h => h) (.inl ⟨by rfl, ?y502⟩) hHeld ?_
    case y502 => intro w hSw; (try dsimp only at hSw); go_simp; first | done | rfl
    refine wpAnyH_take (i := 2) (v := ?v503) rfl (by kernel_rfl) (by kernel_rfl) (by kernel_rfl) (fun _ _ _ h => h) (.inl ⟨by rfl, ?y503⟩) hHeld ?_
    case y503 => intro w hSw; (try dsimp only at hSw); go_simp; first | done | rfl
    refine wpAnyH_take (i := 3) (v := ?v504) rfl (by kernel_rfl) (by kernel_rfl) (by kernel_rfl) (fun _ _ _ h => h) (.inl ⟨by rfl, ?y504⟩) hHeld ?_
    case y504 => intro w hSw; (try dsimp only at hSw); go_simp; first | done | rfl
    refine wpAnyH_take (i := 6) (v := ?v505) rfl (by kernel_rfl) (by kernel_rfl) (by kernel_rfl) (fun _ _ _ h => h) (.inl ⟨by rfl, ?y505⟩) hHeld ?_
    case y505 => intro w hSw; (try dsimp only at hSw); go_simp; first | done | rfl
    try simp only [Act.put, List.getElem_toArray, List.getElem_cons_zero, List.getElem_cons_succ, List.setIfInBounds_toArray, List.set_cons_zero, List.set_cons_succ]
    have gA := grown_alloc w1 (.cells #[.int .i64 1, .string ⟨#[]⟩, .int .i64 n] 53 (0, 0)) none
    have hS4 : (w1.alloc (.cells #[.int .i64 1, .string ⟨#[]⟩, .int .i64 n] 53 (0, 0))).cell? ⟨w.heap.size, 0, none⟩ = some (.slice av p.length cv) ∧ (w1.alloc (.cells #[.int .i64 1, .string ⟨#[]⟩, .int .i64 n] 53 (0, 0))).cell? ⟨w.heap.size + 1, 0, none⟩ = some (.int .i64 wv) := ⟨cell_on hHeld.1 (below_grown gA), cell_on hHeld.2 (below_grown gA)⟩
    refine wpAnyH_ready (rs := [4]) (by kernel_rfl) (by simp) ?_
    refine AllReadyH.cons (i := 4) (o := ?o506) ?i506 (fun K hK => ?_) AllReadyH.nil
    case i506 => exact rfl
    go_simp
    refine hK.out _ _ (hS4) (fun hHeld => ?_)
    clear hK K
    try simp only [Act.put, List.getElem_toArray, List.getElem_cons_zero, List.getElem_cons_succ, List.setIfInBounds_toArray, List.set_cons_zero, List.set_cons_succ]
    have hE4 := hs1.grown gA
    obtain ⟨i0, hi, hz0, hz1, hz2⟩ := info_parts infoTok
    have hb4 : Blk (w1.alloc (.cells #[.int .i64 1, .string ⟨#[]⟩, .int .i64 n] 53 (0, 0))) w1.heap.size 53 [.int .i64 1, .string ⟨#[]⟩, .int .i64 n] := Blk.new w1 53 [.int .i64 1, .string ⟨#[]⟩, .int .i64 n]
    have h24 : (w1.alloc (.cells #[.int .i64 1, .string ⟨#[]⟩, .int .i64 n] 53 (0, 0))).ownsRow w.heap.size 53 3 (.slice av p.length cv) p.length (flatT p) := owns_stays h2' (fun g hv => (below_grown gA).block g (h2'.lt g hv).2)
    have hf4 : (w1.alloc (.cells #[.int .i64 1, .string ⟨#[]⟩, .int .i64 n] 53 (0, 0))).heap[D]? = some (.deferred (some [])) := ((below_grown gA).block D (Array.getElem?_eq_some_iff.1 hf1).1).trans hf1
    refine wpAnyH_ready (rs := [5]) (by kernel_rfl) (by simp) ?_
    refine AllReadyH.cons (i := 5) (o := ?o5) ?i5 (fun K hK => ?_) AllReadyH.nil
    case i5 => exact rfl
    rw [if_pos (by kernel_rfl)]
    refine wp_append_own _ _ _ 33 rfl w.heap.size 53 i0 _ 3 32 Tryz.underlying33 hi hz0 hz1 hz2 rfl (by decide) _ p.length _ rfl h24 ⟨w1.heap.size, 0, none⟩ 1 1 [.int .i64 1, .string ⟨#[]⟩, .int .i64 n] rfl rfl ?_ ?_ (by unfold maxLen; omega) (by omega) hE4.y.size ?_
    · intro j u hu
      rw [Addr.add_lit, Nat.zero_add]
      exact hb4.cell hu
    · intro u hu
      simp only [List.mem_cons, List.not_mem_nil, or_false] at hu
      rcases hu with rfl | rfl | rfl <;> rfl
    intro v' w6 ho6 hg6 _
    have hc1 : Blk w6 w.heap.size 33 [.slice av p.length cv] := by
      obtain ⟨u, q1, q2⟩ := hE4.ls
      have e : u = .slice av p.length cv := by have h' := q1.cell (i := 0) rfl; rw [hHeld.1] at h'; simpa using h'.symm
      rw [e] at q1
      exact tok_other h24 hg6 q1 (by decide)
    have hc2 : Blk w6 (w.heap.size + 1) 3 [.int .i64 wv] := tok_other h24 hg6 hE4.wr (by decide)
    have hB6 : Below w.heap.size w w6 := hE4.y.grown hg6 hE4.y.size (fun k hk => (h24.lt k hk).1)
    have hf6 : w6.heap[D]? = some (.deferred (some [])) := by
      refine (hg6.block D (Array.getElem?_eq_some_iff.1 hf4).1 fun e => ?_).trans hf4
      obtain ⟨d, hd⟩ := owns_type h24 e.symm
      rw [hf4] at hd
      cases hd
    refine hK.out _ _ ⟨hc1.cell (i := 0) rfl, hc2.cell (i := 0) rfl⟩ (fun hHeld => ?_)
    clear hK
    obtain ⟨av', cv', rfl, _⟩ := owns_shape ho6
    refine wpAnyH_take (i := 7) (v := ?v507) rfl (by kernel_rfl) (by kernel_rfl) (by kernel_rfl) (fun _ _ _ h => h) (.inl ⟨by rfl, ?y507⟩) hHeld ?_
    case y507 => intro w hSw; (try dsimp only at hSw); go_simp; first | done | rfl
    refine wpAnyH_take (i := 8) (v := ?v508) rfl (by kernel_rfl) (by kernel_rfl) (by kernel_rfl) (fun _ _ _ h => h) (.inl ⟨by rfl, ?y508⟩) hHeld ?_
    case y508 => intro w hSw; (try dsimp only at hSw); go_simp; first | done | rfl
    try simp only [Act.put, List.getElem_toArray, List.getElem_cons_zero, List.getElem_cons_succ, List.setIfInBounds_toArray, List.set_cons_zero, List.set_cons_succ]
    refine wpAnyH_done (by kernel_rfl) ?_ _
    clear hs1 hf1 h2' gA hS4 hE4 hb4 h24 hf4 hg6 hc1 hc2
    refine hK2 _ _ ?_
    clear hK2
    gi_wp2_with fail
    refine ⟨by simp, .inl ⟨_, _, rfl, run_takeDeferred hf6, ?_⟩⟩
    have hrr : ∀ r, some D = some r → ∃ o : Obj, w6.heap[r]? = some o ∧ o.isCells = false := fun r e => by cases e; exact ⟨_, hf6, rfl⟩
    refine ⟨.tuple #[.slice av' (p.length + 1) cv', .int .i64 wv], ?_, _, by rw [HWV.out], fun h => ?_, ?_⟩
    · simp only [results, Tryz.results7]
      simp [go_sem]
    · rw [hpg h] at ho6 ⊢
      rw [flatT_snoc]
      exact rowT_own ho6 (grownBy_putObj' _ D (.deferred none)) hrr
    · exact hB6.grown (grownBy_putObj' w6 D (.deferred none)) hB6.size (fun k hk => by cases hk; exact hD)
  clear hKK
  refine wpIn_rangeFunc_ownH rfl (by omega) (gf := 44) (lb := #[.pointer (some ⟨w.heap.size + 1 + 1, 0, none⟩)]) rfl trivial (enters_of Tryz.func44 (by kernel_rfl) rfl)
    (tokensSeq w W0 4 w.heap.size (w.heap.size + 1 + 1) l a n c hR hn2 hnc hcm ht hB0 (Nat.le_refl _) hB0.size S0.box) Kl.trans (kl_b hB0.size) (Below.refl _ _) (fun _ => rfl)
    (fun pre W => Scn w (.slice a n c) pre (-1) W)
    (fun cd pre W => cd = .exit 0 ∧ ∃ p x, pre = p ++ [x] ∧ x.kind = 0 ∧ Scn w (.slice a n c) p x.pos W)
    (fun s A C row hs hg hr => hs.own hg (fun r e => ⟨Nat.le_trans hB0.size (hr r e).1, (hr r e).2⟩))
    (fun cd s A C row hs hg hr => by obtain ⟨h1, p, x, h2, h3, h4⟩ := hs; exact ⟨h1, p, x, h2, h3, h4.own hg (fun r e => ⟨Nat.le_trans hB0.size (hr r e).1, (hr r e).2⟩)⟩)
    S0
    (fun x a' W => ∃ Bx, w.heap.size + 1 + 1 < Bx ∧ Blk W Bx 53 x.vals ∧ a' = { tmps := #[.slice a n c, undef, .slice none 0 0, .int .i64 0, .pointer (some ⟨w.heap.size, 0, none⟩), .pointer (some ⟨w.heap.size + 1, 0, none⟩), .pointer (some ⟨Bx, 0, none⟩), .slice a n c, .func (.func 44) #[] #[.pointer (some ⟨w.heap.size + 1 + 1, 0, none⟩)], .agg #[.int .i64 x.kind, .string (strOfNums x.text), .int .i64 x.pos], undef, undef, undef, undef, undef, undef, undef, undef, undef, undef, undef, undef, undef, undef, undef, undef, undef], defers := [] })
    (fun x a' _ A C row hs hg hr => by obtain ⟨Bx, h1, h2, h3⟩ := hs; exact ⟨Bx, h1, blkT_own h2 hg (fun r e => (hr r e).2), h3⟩)
    ?assign ?body ?done ?stop
  case assign =>
    rintro l' pre x W K9 hE hK
    have HK : Hid (∀ a' W', KeepsFrom W0.heap.size W W' → Kl w.heap.size W W' → Scn w (.slice a n c) pre (-1) W' → (∃ Bx, w.heap.size + 1 + 1 < Bx ∧ Blk W' Bx 53 x.vals ∧ a' = { tmps := #[.slice a n c, undef, .slice none 0 0, .int .i64 0, .pointer (some ⟨w.heap.size, 0, none⟩), .pointer (some ⟨w.heap.size + 1, 0, none⟩), .pointer (some ⟨Bx, 0, none⟩), .slice a n c, .func (.func 44) #[] #[.pointer (some ⟨w.heap.size + 1 + 1, 0, none⟩)], .agg #[.int .i64 x.kind, .string (strOfNums x.text), .int .i64 x.pos], undef, undef, undef, undef, undef, undef, undef, undef, undef, undef, undef, undef, undef, undef, undef, undef, undef], defers := [] }) → K9 a' W') := hK
    clear hK
    simp only [Tok.enc]
    gi_wp2_with fail
    exact HK.out _ _ ((KeepsOthers.alloc _ _).from _) (Kl.grown (grown_alloc W _ none) hE.y.size) (hE.grown (grown_alloc W _ none)) ⟨W.heap.size, hE.box.lt, Blk.new W 53 x.vals, rfl⟩
  case body =>
    rintro l' pre x a' W hl ⟨r, hr⟩ hE ⟨Bx, hBx, bX, rfl⟩ hlt
    have hpl : pre.length ≤ 1000000 := by have := lexP_len (l.length + 1) l 0; have h1 := hR.1; unfold lexAll at hlt; omega
    obtain ⟨x0, x1, x2⟩ : W.cell? ⟨Bx, 0, none⟩ = some (.int .i64 x.kind) ∧ W.cell? ⟨Bx, 1, none⟩ = some (.string (strOfNums x.text)) ∧ W.cell? ⟨Bx, 2, none⟩ = some (.int .i64 x.pos) := ⟨bX.cell (i := 0) rfl, bX.cell (i := 1) rfl, bX.cell (i := 2) rfl⟩
    clear hl hr hlt HKK
    by_cases hk : x.kind = 0
    · have hkb : (x.kind == 0) = true := by simpa using hk
      have r1 := hE.wr.cell (i := 0) rfl
      have f1 := hE.wr.free 0
      have HF : Hid (KeepsFrom W0.heap.size W (W.setCell ⟨w.heap.size + 1, 0, none⟩ (.int .i64 x.pos)) ∧ ∃ p y, pre ++ [x] = p ++ [y] ∧ y.kind = 0 ∧ Scn w (.slice a n c) p y.pos (W.setCell ⟨w.heap.size + 1, 0, none⟩ (.int .i64 x.pos))) := by
        refine ⟨(KeepsOthers.setCell _ _ _).from _, pre, x, rfl, hk, ?_⟩
        obtain ⟨v, h1, h2⟩ := hE.ls
        refine ⟨⟨v, h1.other (by omega), owns_stays h2 fun g hv => heap_setCell_other _ ⟨w.heap.size + 1, 0, none⟩ g _ fun e => ?_⟩, hE.wr.set (i := 0) _, hE.box.other (by omega), hE.ok, hE.y.setCell (p := ⟨w.heap.size + 1, 0, none⟩) (by show w.heap.size ≤ w.heap.size + 1; omega) _⟩
        have e' : g = w.heap.size + 1 := e
        subst e'
        obtain ⟨d, hd⟩ := owns_type h2 hv
        have hb' : W.heap[w.heap.size + 1]? = _ := hE.wr
        rw [hb'] at hd
        simp only [Option.some.injEq, Obj.cells.injEq] at hd
        exact absurd hd.2.1 (by decide)
      clear hE bX hk x1
      gi_wp2_with fail
      exact ⟨HF.out.1, rfl, HF.out.2⟩
    · have hkb : (x.kind == 0) = false := by simpa using hk
      obtain ⟨v, h1, h2⟩ := hE.ls
      have c0 := h1.cell (i := 0) rfl
      have gA := grown_alloc W (.cells #[.int .i64 x.kind, .string (strOfNums x.text), .int .i64 x.pos] 53 (0, 0)) none
      have E5 : Hid (Scn w (.slice a n c) pre (-1) (W.alloc (.cells #[.int .i64 x.kind, .string (strOfNums x.text), .int .i64 x.pos] 53 (0, 0)))) := hE.grown gA
      have K1 : Hid _ := h1.old (o := .cells #[.int .i64 x.kind, .string (strOfNums x.text), .int .i64 x.pos] 53 (0, 0))
      have K2 : Hid ((W.alloc (.cells #[.int .i64 x.kind, .string (strOfNums x.text), .int .i64 x.pos] 53 (0, 0))).ownsRow w.heap.size 53 3 v pre.length (flatT pre)) := owns_stays h2 (fun g hv => (below_grown gA).block g (h2.lt g hv).2)
      have KB : Hid (Blk (W.alloc (.cells #[.int .i64 x.kind, .string (strOfNums x.text), .int .i64 x.pos] 53 (0, 0))) W.heap.size 53 x.vals) := Blk.new W 53 x.vals
      have KY : Hid (w.heap.size ≤ (W.alloc (.cells #[.int .i64 x.kind, .string (strOfNums x.text), .int .i64 x.pos] 53 (0, 0))).heap.size) := E5.out.y.size
      have GA : Hid _ := gA
      obtain ⟨av, cv, rfl, _⟩ := owns_shape h2
      have HY : Hid (w.heap.size ≤ W.heap.size) := hE.y.size
      clear hE h1 h2 gA bX
      gi_wp2_with (gi_at_builtin; refine wpListIn_appendT rfl _ _ rfl w.heap.size _ pre.length pre rfl K2.out W.heap.size x rfl KB.out (by omega) KY.out ?_)
      intro v' w6 ho6 hg6
      obtain ⟨B6, E6, KO6, KT6⟩ := E5.out.push (x := x) K1.out K2.out hk ho6 hg6
      have rc := B6.cell (i := 0) rfl
      have rf := B6.free 0
      obtain ⟨av', cv', rfl, _⟩ := owns_shape ho6
      have HFI : Hid (KeepsFrom W0.heap.size W (w6.setCell ⟨w.heap.size, 0, none⟩ (.slice av' (pre.length + 1) cv')) ∧ Kl w.heap.size W (w6.setCell ⟨w.heap.size, 0, none⟩ (.slice av' (pre.length + 1) cv')) ∧ Scn w (.slice a n c) (pre ++ [x]) (-1) (w6.setCell ⟨w.heap.size, 0, none⟩ (.slice av' (pre.length + 1) cv'))) :=
        ⟨((KeepsOthers.of_grownBy GA.out (fun j o hj => by cases hj)).trans KO6).from _, (Kl.grown GA.out HY.out).trans KT6, E6⟩
      clear E6 B6 KO6 KT6 ho6 hg6 E5 K1 K2 KB KY GA c0 x0 x1 x2
      gi_wp2_with fail
      exact HFI.out
  case done =>
    rintro D xs W hD hS hE hK
    exact HKK.out xs (-1) W D hE (Nat.le_trans hB0.size hD) hK (by rw [hS]; have := lexP_len (l.length + 1) l 0; have h1 := hR.1; unfold lexAll; omega) (by rw [← hS]; exact (wrong_none hE.ok).symm) (fun _ => hS)
  case stop =>
    rintro D cd pre W hD hpre ⟨rfl, p, x, rfl, hx, hE⟩ hK
    gi_wp2_with fail
    exact HKK.out p x.pos W D hE (Nat.le_trans hB0.size hD) hK (by have h2 := hpre.length_le; have := lexP_len (l.length + 1) l 0; have h1 := hR.1; unfold lexAll at h2; rw [List.length_append] at h2; omega) (wrong_some hpre hE.ok hx).symm (fun h => absurd hx (h x (hpre.subset (by simp))))
end Go.Proofs.YtajnfknldofjlaaGreatDoor

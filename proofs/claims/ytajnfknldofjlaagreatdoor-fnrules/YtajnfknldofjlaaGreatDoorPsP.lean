/- The parser's small steps, where they go well: what is left of the tokens, as a plain list. -/
import Derived.Test.YtajnfknldofjlaaGreatDoorPsScan
namespace Go.Proofs.YtajnfknldofjlaaGreatDoor
open Go.RowKit Go.Shelf
set_option linter.unusedVariables false
set_option linter.unusedSimpArgs false
set_option maxRecDepth 100000
attribute [local go_sem] Oper.semAt_some

/-- The parser pb stands ahead of the tokens ts. -/
structure At (W : World) (pb : Nat) (ts : List Tok) : Prop where
  ex : ∃ g o c, Blk W pb 38 [.slice (some ⟨g, o, none⟩) ts.length c] ∧ ts.length ≤ c ∧ c ≤ maxLen ∧ (∃ cs f, W.heap[g]? = some (.cells cs 53 f)) ∧ ∀ i v, (flatT ts)[i]? = some v → W.cell? ⟨g, o + i, none⟩ = some v

/-- All stays but the block pb. -/
structure Kp (pb : Nat) (W W' : World) : Prop where
  os : W'.os = W.os
  tape : W'.tape = W.tape
  output : W'.output = W.output
  size : W.heap.size ≤ W'.heap.size
  block : ∀ k, k < W.heap.size → k ≠ pb → W'.heap[k]? = W.heap[k]?

theorem Kp.refl (pb : Nat) (W : World) : Kp pb W W := ⟨rfl, rfl, rfl, Nat.le_refl _, fun _ _ _ => rfl⟩
theorem Kp.trans {pb : Nat} {A B C : World} (h : Kp pb A B) (h' : Kp pb B C) : Kp pb A C :=
  ⟨h'.os.trans h.os, h'.tape.trans h.tape, h'.output.trans h.output, Nat.le_trans h.size h'.size, fun k a b => (h'.block k (Nat.lt_of_lt_of_le a h.size) b).trans (h.block k a b)⟩
theorem Kp.below {pb : Nat} {A B : World} (h : Below A.heap.size A B) : Kp pb A B := ⟨h.os, h.tape, h.output, h.size, fun k a _ => h.block k a⟩
theorem Kp.set {pb : Nat} {A : World} (v : Value) : Kp pb A (A.setCell ⟨pb, 0, none⟩ v) :=
  have h := (Below.refl pb A).setCell (p := ⟨pb, 0, none⟩) (Nat.le_refl pb) v
  ⟨h.os, h.tape, h.output, h.size, fun k _ b => heap_setCell_other A ⟨pb, 0, none⟩ k v b⟩
theorem At.kp {W W' : World} {pb : Nat} {ts : List Tok} (h : At W pb ts) (hb : Below W.heap.size W W') : At W' pb ts := by
  obtain ⟨g, o, c, h1, h2, h3, ⟨cs, f, h5⟩, h4⟩ := h.ex
  refine ⟨g, o, c, h1.below hb h1.lt, h2, h3, ⟨cs, f, (hb.block g (Array.getElem?_eq_some_iff.1 h5).1).trans h5⟩, fun i v hv => cell_on (h4 i v hv) hb⟩
theorem At.step {W : World} {pb g o c : Nat} {x : Tok} {ts : List Tok} (h1 : Blk W pb 38 [.slice (some ⟨g, o, none⟩) (x :: ts).length c]) (h2 : (x :: ts).length ≤ c) (h3 : c ≤ maxLen) (h5 : ∃ cs f, W.heap[g]? = some (.cells cs 53 f)) (h4 : ∀ i v, (flatT (x :: ts))[i]? = some v → W.cell? ⟨g, o + i, none⟩ = some v) :
    At (W.setCell ⟨pb, 0, none⟩ (.slice (some ⟨g, o + 3, none⟩) ts.length (c - 1))) pb ts := by
  obtain ⟨cs, f, h5⟩ := h5
  have hne : g ≠ pb := by
    rintro rfl
    have h' : W.heap[g]? = _ := h1
    rw [h'] at h5
    simp only [Option.some.injEq, Obj.cells.injEq] at h5
    exact absurd h5.2.1 (by decide)
  have hs := heap_setCell_other W ⟨pb, 0, none⟩ g (.slice (some ⟨g, o + 3, none⟩) ts.length (c - 1)) hne
  refine ⟨g, o + 3, c - 1, h1.set (i := 0) _, by simp at h2; omega, by omega, ⟨cs, f, hs.trans h5⟩, fun i v hv => ?_⟩
  have h := h4 (3 + i) v (by rw [flatT, List.flatMap_cons, List.getElem?_append_right (by simp [Tok.vals])]; simpa [Tok.vals, flatT] using hv)
  rw [cell_of_row _ g _ cs _ f (hs.trans h5), Nat.add_assoc]
  rw [cell_of_row _ g _ cs _ f h5] at h
  exact h

theorem seesC (pb : Nat) (x : Tok) (ts : List Tok) (s : ByteArray) (W : World) (h : At W pb (x :: ts)) :
    Calls Tryz.prog 48 #[.pointer (some ⟨pb, 0, none⟩), .string s] W fun e W' => e = .returned (.bool ((strOfNums x.text).toList == s.toList)) ∧ W' = W := by
  obtain ⟨g, o, c, h1, h2, h3, _, h4⟩ := h.ex
  have c1 := h1.cell (i := 0) rfl
  have t0 := h4 0 _ rfl
  have t1 := h4 1 _ rfl
  have t2 := h4 2 _ rfl
  go_enter Tryz.func48, Tryz.ntmps48
  go_wp2_with fail
  go_ret
  exact ⟨rfl, rfl⟩

theorem gotNo (pb : Nat) (x : Tok) (ts : List Tok) (s : ByteArray) (W : World) (h : At W pb (x :: ts)) (hs : ((strOfNums x.text).toList == s.toList) = false) :
    Calls Tryz.prog 20 #[.pointer (some ⟨pb, 0, none⟩), .string s] W fun e W' => e = .returned (.bool false) ∧ W' = W := by
  have H := seesC pb x ts s W h
  rw [hs] at H
  clear h hs
  go_enter Tryz.func20, Tryz.ntmps20
  go_wp2_with fail
  refine H.mono ?_
  rintro e w1 ⟨rfl, rfl⟩
  go_wp2_with fail
  go_ret
  exact ⟨rfl, rfl⟩

theorem gotYes (pb : Nat) (x y : Tok) (ts : List Tok) (s : ByteArray) (W : World) (h : At W pb (x :: y :: ts)) (hs : ((strOfNums x.text).toList == s.toList) = true) :
    Calls Tryz.prog 20 #[.pointer (some ⟨pb, 0, none⟩), .string s] W fun e W' => e = .returned (.bool true) ∧ At W' pb (y :: ts) ∧ Kp pb W W' := by
  have H := seesC pb x (y :: ts) s W h
  obtain ⟨g, o, c, h1, h2, h3, h5, h4⟩ := h.ex
  have c1 := h1.cell (i := 0) rfl
  have f1 := h1.free 0
  have A1 : Hid _ := At.step h1 h2 h3 h5 h4
  rw [hs] at H
  simp only [List.length_cons] at c1 h2 A1
  clear h hs h1 h4 h5
  go_enter Tryz.func20, Tryz.ntmps20
  go_wp2_with fail
  refine H.mono ?_
  rintro e w1 ⟨rfl, rfl⟩
  go_wp2_with fail
  go_ret
  exact ⟨rfl, A1.out, Kp.set _⟩

theorem wantYes (pb : Nat) (x y : Tok) (ts : List Tok) (s : ByteArray) (W : World) (h : At W pb (x :: y :: ts)) (hs : ((strOfNums x.text).toList == s.toList) = true) :
    Calls Tryz.prog 18 #[.pointer (some ⟨pb, 0, none⟩), .string s] W fun e W' => e = .returned (.tuple #[]) ∧ At W' pb (y :: ts) ∧ Kp pb W W' := by
  have H := gotYes pb x y ts s W h hs
  clear h hs
  go_enter Tryz.func18, Tryz.ntmps18
  go_wp2_with fail
  refine H.mono ?_
  rintro e w1 ⟨rfl, h1, h2⟩
  have H1 : Hid _ := And.intro h1 h2
  clear h1 h2 H
  go_wp2_with fail
  go_end0
  exact ⟨rfl, H1.out⟩

theorem takeYes (pb : Nat) (x y : Tok) (ts : List Tok) (W : World) (h : At W pb (x :: y :: ts)) :
    Calls Tryz.prog 23 #[.pointer (some ⟨pb, 0, none⟩), .int .i64 x.kind] W fun e W' => e = .returned (.string (strOfNums x.text)) ∧ At W' pb (y :: ts) ∧ Kp pb W W' := by
  obtain ⟨g, o, c, h1, h2, h3, h5, h4⟩ := h.ex
  have c1 := h1.cell (i := 0) rfl
  have f1 := h1.free 0
  have t0 : W.cell? ⟨g, o, none⟩ = _ := h4 0 _ rfl
  have t1 := h4 1 _ rfl
  have t2 := h4 2 _ rfl
  have hlt : pb < W.heap.size := h1.lt
  have A1 : Hid _ := At.step h1 h2 h3 h5 h4
  simp only [List.length_cons] at c1 h2 A1
  clear h h1 h4 h5
  go_enter Tryz.func23, Tryz.ntmps23
  go_wp2_with fail
  go_ret
  have hB := below_grown (grown_alloc (W.setCell ⟨pb, 0, none⟩ (.slice (some ⟨g, o + 3, none⟩) (ts.length + 1) (c - 1))) (.cells #[.int .i64 x.kind, .string (strOfNums x.text), .int .i64 x.pos] 53 (0, 0)) none)
  exact ⟨rfl, A1.out.kp hB, (Kp.set _).trans (Kp.below hB)⟩

theorem takeEnd (pb : Nat) (x : Tok) (W : World) (h : At W pb [x]) :
    Calls Tryz.prog 23 #[.pointer (some ⟨pb, 0, none⟩), .int .i64 x.kind] W fun e W' => e = .returned (.string (strOfNums x.text)) ∧ Kp pb W W' := by
  obtain ⟨g, o, c, h1, h2, h3, h5, h4⟩ := h.ex
  have c1 := h1.cell (i := 0) rfl
  have f1 := h1.free 0
  have t0 : W.cell? ⟨g, o, none⟩ = _ := h4 0 _ rfl
  have t1 := h4 1 _ rfl
  have t2 := h4 2 _ rfl
  have hlt : pb < W.heap.size := h1.lt
  simp only [List.length_cons, List.length_nil, Nat.zero_add] at c1 h2
  clear h h1 h4 h5
  go_enter Tryz.func23, Tryz.ntmps23
  go_wp2_with fail
  all_goals
    go_ret
    exact ⟨rfl, (Kp.set _).trans (Kp.below (below_grown (grown_alloc _ _ none)))⟩

theorem conv_str (l : List Int) (w1 : World) : (convert 9 22 (.string (strOfNums l))).run Tryz.prog w1 = .ok (.slice (some ⟨w1.heap.size, 0, none⟩) l.length (grownCap w1 l.length 0 5)) (Lib.bytesWorld w1 5 (strOfNums l)) := by
  have := Lib.run_convert_string_bytes (P := Tryz.prog) w1 9 22 5 (strOfNums l) Tryz.underlying9 Tryz.underlying22 Tryz.underlying5
  rw [str_size] at this
  exact this

/-- The world without its blocks ahead of B: what is read there, lies behind. -/
def fr (B : Nat) (W : World) : World := { W with heap := W.heap.mapIdx fun i o => if i < B then .deferred none else o }
theorem fr_block (B : Nat) (W : World) (k : Nat) : (fr B W).heap[k]? = (W.heap[k]?).map fun o => if k < B then .deferred none else o := by simp [fr]
theorem fr_cell {B : Nat} {W : World} {a : Addr} {v : Value} : (fr B W).cell? a = some v ↔ B ≤ a.block ∧ W.cell? a = some v := by
  unfold World.cell?
  rw [fr_block]
  by_cases h : a.block < B
  · constructor
    · intro h'
      cases hh : W.heap[a.block]? with
      | none => rw [hh] at h'; cases h'
      | some o => rw [hh] at h'; simp [h] at h'
    · intro h'; omega
  · have e : (W.heap[a.block]?).map (fun o => if a.block < B then Obj.deferred none else o) = W.heap[a.block]? := by simp [h]
    rw [e]
    exact ⟨fun h' => ⟨by omega, h'⟩, fun h' => h'.2⟩
def Cm (A B : World) : Prop := ∀ a v, A.cell? a = some v → B.cell? a = some v
theorem cm_out (N : Nat) (W : World) : Cm (fr N W) W := fun _ _ h => (fr_cell.1 h).2
theorem cm_mono {N M : Nat} (h : M ≤ N) (W : World) : Cm (fr N W) (fr M W) := fun _ _ hv => fr_cell.2 ⟨Nat.le_trans h (fr_cell.1 hv).1, (fr_cell.1 hv).2⟩
theorem Kp.cm {pb N : Nat} {A B : World} (h : Kp pb A B) (hp : pb < N) : Cm (fr N A) (fr N B) := fun a v hv => by
  obtain ⟨h1, h2⟩ := fr_cell.1 hv
  refine fr_cell.2 ⟨h1, ?_⟩
  rw [World.cell?_of_block (h.block _ (World.block_lt_of_cell? _ _ h2) (by omega))]
  exact h2
theorem cm_set {N g i : Nat} {A : World} {u : Value} (hp : g < N) : Cm (fr N A) (fr N (A.setCell ⟨g, i, none⟩ u)) := fun a v hv => by
  obtain ⟨h1, h2⟩ := fr_cell.1 hv
  refine fr_cell.2 ⟨h1, ?_⟩
  rw [World.cell?_of_block (heap_setCell_other A ⟨g, i, none⟩ a.block u (by show a.block ≠ g; omega))]
  exact h2
theorem BRow.cm {A B : World} {a : Option Addr} {n : Nat} {l : List Int} (hc : Cm A B) (h : BRow A a n l) : BRow B a n l := by
  obtain ⟨h1, h2, h3⟩ := h
  refine ⟨h1, h2, fun hp => ?_⟩
  obtain ⟨b, off, e, h4⟩ := h3 hp
  exact ⟨b, off, e, fun j hj => hc _ _ (h4 j hj)⟩
theorem NRow.cm {A B : World} {a : Option Addr} {n : Nat} {l : List Int} (hc : Cm A B) (h : NRow A a n l) : NRow B a n l := by
  obtain ⟨h1, h2, h3⟩ := h
  refine ⟨h1, h2, fun hp => ?_⟩
  obtain ⟨b, off, e, h4⟩ := h3 hp
  exact ⟨b, off, e, fun j hj => hc _ _ (h4 j hj)⟩
mutual
theorem Fl.Rd.cm {A B : World} (hc : Cm A B) : ∀ (f : Fl) (v : Value), f.Rd A v → f.Rd B v
  | .b l, v, h => by
    obtain ⟨a, c, e, hr, r⟩ := h
    exact ⟨a, c, e, hr.cm hc, r⟩
  | .i l, v, h => by
    obtain ⟨a, c, e, hr, r⟩ := h
    exact ⟨a, c, e, hr.cm hc, r⟩
  | .n x, v, h => h
  | .t x, v, h => h
  | .l k rs, v, h => by
    obtain ⟨a, c, e, h1, h2, h3, h4⟩ := h
    refine ⟨a, c, e, h1, h2, h3, fun hp => ?_⟩
    obtain ⟨b, off, e2, h5⟩ := h4 hp
    exact ⟨b, off, e2, RdRows.cm hc b k off rs h5⟩
theorem RdRec.cm {A B : World} (hc : Cm A B) (b : Nat) : ∀ (off : Nat) (r : List Fl), RdRec A b off r → RdRec B b off r
  | _, [], h => trivial
  | off, f :: r, h => by
    obtain ⟨⟨v, hv, hf⟩, h2⟩ := h
    exact ⟨⟨v, hc _ _ hv, Fl.Rd.cm hc f v hf⟩, RdRec.cm hc b (off + 1) r h2⟩
theorem RdRows.cm {A B : World} (hc : Cm A B) (b k : Nat) : ∀ (off : Nat) (rs : List (List Fl)), RdRows A b k off rs → RdRows B b k off rs
  | _, [], h => trivial
  | off, r :: rs, h => ⟨RdRec.cm hc b off r h.1, RdRows.cm hc b k (off + k) rs h.2⟩
end

theorem conv_rd {B : Nat} {l : List Int} (hl : ∀ x ∈ l, 0 ≤ x ∧ x ≤ 255) (hn : l.length ≤ 3000) (w : World) (hp : B ≤ w.heap.size) : (Fl.b l).Rd (fr B (Lib.bytesWorld w 5 (strOfNums l))) (.slice (some ⟨w.heap.size, 0, none⟩) l.length (grownCap w l.length 0 5)) := by
  obtain ⟨h1, h2, h3⟩ := conv_row hl w
  refine ⟨_, _, rfl, ⟨h1, h2, fun hp' => ?_⟩, grownCap_ge _ _ _ _, grownCap_le_maxLen _ _ _ _ (by unfold maxLen; omega), fun h => by cases h⟩
  obtain ⟨b, off, e, h4⟩ := h3 hp'
  cases e
  exact ⟨_, _, rfl, fun j hj => fr_cell.2 ⟨hp, h4 j hj⟩⟩

theorem smallYes (pb : Nat) (x y : Tok) (ts : List Tok) (W : World) (h : At W pb (x :: y :: ts)) (hk : x.kind = 3) (hx : ∀ b ∈ x.text, 0 ≤ b ∧ b ≤ 255) (hn : x.text.length ≤ 3000) :
    Calls Tryz.prog 49 #[.pointer (some ⟨pb, 0, none⟩)] W fun e W' => ∃ v, e = .returned v ∧ (Fl.b x.text).Rd (fr W.heap.size W') v ∧ At W' pb (y :: ts) ∧ Kp pb W W' := by
  have H := takeYes pb x y ts W h
  rw [hk] at H
  have kc := conv_str x.text
  have hlt : pb < W.heap.size := by obtain ⟨_, _, _, h1, _⟩ := h.ex; exact h1.lt
  clear h
  go_enter Tryz.func49, Tryz.ntmps49
  go_wp2_with fail
  refine H.mono ?_
  rintro e w1 ⟨rfl, h1, h2⟩
  have A1 : Hid _ := h1
  have K1 : Hid _ := h2
  clear h1 h2 H
  go_wp2_with fail
  go_ret
  have hB : Below w1.heap.size w1 (Lib.bytesWorld w1 5 (strOfNums x.text)) := Lib.bytesWorld_below _ _ _
  exact ⟨_, rfl, conv_rd hx hn w1 K1.out.size, A1.out.kp hB, K1.out.trans (Kp.below hB)⟩

theorem greatYes (pb : Nat) (x y : Tok) (ts : List Tok) (W : World) (h : At W pb (x :: y :: ts)) (hk : x.kind = 4) (hx : ∀ b ∈ x.text, 0 ≤ b ∧ b ≤ 255) (hn : x.text.length ≤ 3000) :
    Calls Tryz.prog 19 #[.pointer (some ⟨pb, 0, none⟩)] W fun e W' => ∃ v, e = .returned v ∧ (Fl.b x.text).Rd (fr W.heap.size W') v ∧ At W' pb (y :: ts) ∧ Kp pb W W' := by
  have H := takeYes pb x y ts W h
  rw [hk] at H
  have kc := conv_str x.text
  have hlt : pb < W.heap.size := by obtain ⟨_, _, _, h1, _⟩ := h.ex; exact h1.lt
  clear h
  go_enter Tryz.func19, Tryz.ntmps19
  go_wp2_with fail
  refine H.mono ?_
  rintro e w1 ⟨rfl, h1, h2⟩
  have A1 : Hid _ := h1
  have K1 : Hid _ := h2
  clear h1 h2 H
  go_wp2_with fail
  go_ret
  have hB : Below w1.heap.size w1 (Lib.bytesWorld w1 5 (strOfNums x.text)) := Lib.bytesWorld_below _ _ _
  exact ⟨_, rfl, conv_rd hx hn w1 K1.out.size, A1.out.kp hB, K1.out.trans (Kp.below hB)⟩
end Go.Proofs.YtajnfknldofjlaaGreatDoor

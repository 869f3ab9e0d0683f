/- The parser's small steps, on: numbers, signs, what begins here. -/
import Derived.Test.YtajnfknldofjlaaGreatDoorPsP
namespace Go.Proofs.YtajnfknldofjlaaGreatDoor
open Go.RowKit Go.Shelf
set_option linter.unusedVariables false
set_option linter.unusedSimpArgs false
set_option maxRecDepth 100000
attribute [local go_sem] Oper.semAt_some

theorem inYes (n lo hi : Int) (w : World) (h1 : lo ≤ n) (h2 : n ≤ hi) : Calls Tryz.prog 86 #[.int .i64 n, .int .i64 lo, .int .i64 hi] w fun e w' => e = .returned (.bool true) ∧ w' = w := by
  have e1 : decide (lo ≤ n) = true := by simpa using h1
  have e2 : decide (n ≤ hi) = true := by simpa using h2
  go_enter Tryz.func86, Tryz.ntmps86
  go_wp2
  go_ret
  exact ⟨rfl, rfl⟩

theorem numYes (pb : Nat) (x y : Tok) (ts : List Tok) (lo hi v : Int) (W : World) (h : At W pb (x :: y :: ts)) (hk : x.kind = 5) (hn : x.text.length ≤ 3000) (ha : Lib.atoiAll (strOfNums x.text).data.toList = .ok v) (h1 : lo ≤ v) (h2 : v ≤ hi) :
    Calls Tryz.prog 50 #[.pointer (some ⟨pb, 0, none⟩), .int .i64 lo, .int .i64 hi] W fun e W' => e = .returned (.int .i64 v) ∧ At W' pb (y :: ts) ∧ Kp pb W W' := by
  have HT := fun (w1 : World) (hb : Below W.heap.size W w1) => takeYes pb x y ts w1 (h.kp hb)
  rw [hk] at HT
  have HI := fun (w1 : World) => inYes v lo hi w1 h1 h2
  have hsz := str_size x.text
  have HA := Tryz.strconv_Atoi_ok (strOfNums x.text) (by omega) v ha W
  obtain ⟨g, o, c, b1, b2, b3, b5, b4⟩ := h.ex
  have c1 := b1.cell (i := 0) rfl
  have t0 : W.cell? ⟨g, o, none⟩ = _ := b4 0 _ rfl
  have t1 := b4 1 _ rfl
  have t2 := b4 2 _ rfl
  simp only [List.length_cons] at c1 b2
  clear h b1 b4 b5 ha
  go_enter Tryz.func50, Tryz.ntmps50
  go_wp2_with fail
  refine HA.mono ?_
  rintro e w1 ⟨rfl, hw⟩
  have hb1 : Below W.heap.size W w1 := by
    rcases hw with rfl | ⟨t, rfl⟩
    · exact Below.refl _ _
    · exact Lib.bytesWorld_below _ _ _
  have H1 := HT w1 hb1
  have H2 := HI w1
  have K1 : Hid _ := Kp.below (pb := pb) hb1
  clear HA hw hb1 HT HI c1 t0 t1 t2
  go_wp2_with fail
  refine H2.mono ?_
  rintro e w2 ⟨rfl, rfl⟩
  go_wp2_with fail
  refine H1.mono ?_
  rintro e w2 ⟨rfl, h3, h4⟩
  have A1 : Hid _ := h3
  have K2 : Hid _ := h4
  clear h3 h4 H1 H2
  go_wp2_with fail
  go_ret
  exact ⟨rfl, A1.out, K1.out.trans K2.out⟩

def sT (t : List Int) (s : List UInt8) : Bool := (strOfNums t).toList == s
def kbOf (y : Tok) : Int := if sT y.text [91] then 2 else if sT y.text [40] then 6 else 1
theorem kbC (pb : Nat) (x y : Tok) (ts : List Tok) (W : World) (h : At W pb (x :: y :: ts)) :
    Calls Tryz.prog 174 #[.pointer (some ⟨pb, 0, none⟩)] W fun e W' => e = .returned (.int .i64 (kbOf y)) ∧ W' = W := by
  obtain ⟨g, o, c, b1, b2, b3, b5, b4⟩ := h.ex
  have c1 := b1.cell (i := 0) rfl
  have t0 : W.cell? ⟨g, o, none⟩ = _ := b4 0 _ rfl
  have t1 := b4 1 _ rfl
  have t2 := b4 2 _ rfl
  have t3 := b4 3 _ rfl
  have t4 := b4 4 _ rfl
  have t5 := b4 5 _ rfl
  simp only [List.length_cons] at c1 b2
  clear h b1 b4 b5
  go_enter Tryz.func174, Tryz.ntmps174
  go_wp2_with fail
  all_goals
    go_ret
    exact ⟨ret_int (by simp [kbOf, sT, *]), rfl⟩

def exK (x y : Tok) : Int × Bool := if x.kind == 5 then (0, true) else if x.kind == 4 then (6, true) else if x.kind == 3 then (kbOf y, true) else
  if sT x.text [40] then (3, true) else if sT x.text [73, 78] then (4, true) else if sT x.text [76, 69, 78] then (5, true) else if sT x.text [64] then (7, true) else (0, false)
theorem exKC (pb : Nat) (x y : Tok) (ts : List Tok) (W : World) (h : At W pb (x :: y :: ts)) :
    Calls Tryz.prog 148 #[.pointer (some ⟨pb, 0, none⟩)] W fun e W' => e = .returned (.tuple #[.int .i64 (exK x y).1, .bool (exK x y).2]) ∧ W' = W := by
  have HB := kbC pb x y ts W h
  obtain ⟨g, o, c, b1, b2, b3, b5, b4⟩ := h.ex
  have c1 := b1.cell (i := 0) rfl
  have t0 : W.cell? ⟨g, o, none⟩ = _ := b4 0 _ rfl
  have t1 := b4 1 _ rfl
  have t2 := b4 2 _ rfl
  have t3 := b4 3 _ rfl
  have t4 := b4 4 _ rfl
  have t5 := b4 5 _ rfl
  simp only [List.length_cons] at c1 b2
  clear h b1 b4 b5
  go_enter Tryz.func148, Tryz.ntmps148
  go_wp2_with (refine HB.mono ?_; rintro e w1 ⟨rfl, rfl⟩)
  all_goals
    refine bodyPost_ret (v := .tuple #[.int .i64 (exK x y).1, .bool (exK x y).2]) (by simp [results, Tryz.results148, go_sem, exK, sT, *]) rfl ⟨rfl, rfl⟩

def stK (x y : Tok) : Int × Bool := if x.kind == 3 then (if sT y.text [91] then (1, true) else (0, true)) else
  if sT x.text [73, 70] then (2, true) else if sT x.text [87, 72, 73, 76, 69] then (3, true) else if sT x.text [82, 69, 84, 85, 82, 78] then (4, true) else if sT x.text [79, 85, 84] then (5, true) else if sT x.text [84, 82, 65, 80] then (6, true) else if sT x.text [67, 65, 76, 76] then (7, true) else (0, false)
theorem stKC (pb : Nat) (x y : Tok) (ts : List Tok) (W : World) (h : At W pb (x :: y :: ts)) :
    Calls Tryz.prog 118 #[.pointer (some ⟨pb, 0, none⟩)] W fun e W' => e = .returned (.tuple #[.int .i64 (stK x y).1, .bool (stK x y).2]) ∧ W' = W := by
  obtain ⟨g, o, c, b1, b2, b3, b5, b4⟩ := h.ex
  have c1 := b1.cell (i := 0) rfl
  have t0 : W.cell? ⟨g, o, none⟩ = _ := b4 0 _ rfl
  have t1 := b4 1 _ rfl
  have t2 := b4 2 _ rfl
  have t3 := b4 3 _ rfl
  have t4 := b4 4 _ rfl
  have t5 := b4 5 _ rfl
  simp only [List.length_cons] at c1 b2
  clear h b1 b4 b5
  go_enter Tryz.func118, Tryz.ntmps118
  go_wp2_with fail
  all_goals
    refine bodyPost_ret (v := .tuple #[.int .i64 (stK x y).1, .bool (stK x y).2]) (by simp [results, Tryz.results118, go_sem, stK, sT, *]) rfl ⟨rfl, rfl⟩

theorem modNo (pb : Nat) (x y : Tok) (ts : List Tok) (W : World) (h : At W pb (x :: y :: ts)) (hk : x.kind ≠ 4) :
    Calls Tryz.prog 172 #[.pointer (some ⟨pb, 0, none⟩)] W fun e W' => e = .returned (.slice none 0 0) ∧ W' = W := by
  have hkb : (x.kind == 4) = false := by simpa using hk
  obtain ⟨g, o, c, b1, b2, b3, b5, b4⟩ := h.ex
  have c1 := b1.cell (i := 0) rfl
  have t0 : W.cell? ⟨g, o, none⟩ = _ := b4 0 _ rfl
  have t1 := b4 1 _ rfl
  have t2 := b4 2 _ rfl
  have t3 := b4 3 _ rfl
  have t4 := b4 4 _ rfl
  have t5 := b4 5 _ rfl
  simp only [List.length_cons] at c1 b2
  clear h b1 b4 b5
  go_enter Tryz.func172, Tryz.ntmps172
  go_wp2_with fail
  go_ret
  exact ⟨rfl, rfl⟩

theorem modYes (pb : Nat) (x d y : Tok) (ts : List Tok) (W : World) (h : At W pb (x :: d :: y :: ts)) (hk : x.kind = 4) (hx : ∀ b ∈ x.text, 0 ≤ b ∧ b ≤ 255) (hn : x.text.length ≤ 3000) (hd : sT d.text [46] = true) :
    Calls Tryz.prog 172 #[.pointer (some ⟨pb, 0, none⟩)] W fun e W' => ∃ v, e = .returned v ∧ (Fl.b x.text).Rd (fr W.heap.size W') v ∧ At W' pb (y :: ts) ∧ Kp pb W W' := by
  have HG := greatYes pb x d (y :: ts) W h hk hx hn
  have HW := fun (w1 : World) (h1 : At w1 pb (d :: y :: ts)) => wantYes pb d y ts ⟨#[46]⟩ w1 h1 (by simpa [sT] using hd)
  obtain ⟨g, o, c, b1, b2, b3, b5, b4⟩ := h.ex
  have hlt : pb < W.heap.size := b1.lt
  have c1 := b1.cell (i := 0) rfl
  have t0 : W.cell? ⟨g, o, none⟩ = _ := b4 0 _ rfl
  have t1 := b4 1 _ rfl
  have t2 := b4 2 _ rfl
  have t3 := b4 3 _ rfl
  have t4 := b4 4 _ rfl
  have t5 := b4 5 _ rfl
  simp only [List.length_cons] at c1 b2
  clear h b1 b4 b5
  rw [hk] at t0
  go_enter Tryz.func172, Tryz.ntmps172
  go_wp2_with fail
  refine HG.mono ?_
  rintro e w1 ⟨v, rfl, h1, h2, h3⟩
  have H1 := HW w1 h2
  have R1 : Hid _ := h1
  have K1 : Hid _ := h3
  clear h1 h2 h3 HG HW c1 t0 t1 t2 t3 t4 t5
  go_wp2_with fail
  refine H1.mono ?_
  rintro e w2 ⟨rfl, h3, h4⟩
  have A2 : Hid _ := h3
  have K2 : Hid _ := h4
  clear h3 h4 H1
  go_wp2_with fail
  go_ret
  exact ⟨v, rfl, Fl.Rd.cm (K2.out.cm hlt) _ _ R1.out, A2.out, K1.out.trans K2.out⟩

theorem op0 (pb : Nat) (x y : Tok) (ts : List Tok) (W : World) (h : At W pb (x :: y :: ts)) (hx : sT x.text [43] = true) :
    Calls Tryz.prog 171 #[.pointer (some ⟨pb, 0, none⟩)] W fun e W' => e = .returned (.int .i64 0) ∧ At W' pb (y :: ts) ∧ Kp pb W W' := by
  have e := eq_of_beq hx
  have Y := gotYes pb x y ts ⟨#[43]⟩ W h (by rw [e]; simp)
  clear h hx e
  go_enter Tryz.func171, Tryz.ntmps171
  go_wp2_with fail
  refine wp_loop_rounds 1 ?_
  rw [rounds_succ]
  go_wp2_with fail
  refine Y.mono ?_
  rintro e w1 ⟨rfl, h1, h2⟩
  have H1 : Hid _ := And.intro h1 h2
  clear h1 h2
  go_wp2_with fail
  go_ret
  exact ⟨rfl, H1.out⟩

theorem op1 (pb : Nat) (x y : Tok) (ts : List Tok) (W : World) (h : At W pb (x :: y :: ts)) (hx : sT x.text [45] = true) :
    Calls Tryz.prog 171 #[.pointer (some ⟨pb, 0, none⟩)] W fun e W' => e = .returned (.int .i64 1) ∧ At W' pb (y :: ts) ∧ Kp pb W W' := by
  have e := eq_of_beq hx
  have N0 := gotNo pb x (y :: ts) ⟨#[43]⟩ W h (by rw [e]; simp)
  have Y := gotYes pb x y ts ⟨#[45]⟩ W h (by rw [e]; simp)
  clear h hx e
  go_enter Tryz.func171, Tryz.ntmps171
  go_wp2_with fail
  refine wp_loop_rounds 2 ?_
  rw [rounds_succ]
  go_wp2_with fail
  refine N0.mono ?_
  rintro e w1 ⟨rfl, rfl⟩
  go_wp2_with fail
  rw [rounds_succ]
  go_wp2_with fail
  refine Y.mono ?_
  rintro e w1 ⟨rfl, h1, h2⟩
  have H1 : Hid _ := And.intro h1 h2
  clear h1 h2
  go_wp2_with fail
  go_ret
  exact ⟨rfl, H1.out⟩

theorem op2 (pb : Nat) (x y : Tok) (ts : List Tok) (W : World) (h : At W pb (x :: y :: ts)) (hx : sT x.text [42] = true) :
    Calls Tryz.prog 171 #[.pointer (some ⟨pb, 0, none⟩)] W fun e W' => e = .returned (.int .i64 2) ∧ At W' pb (y :: ts) ∧ Kp pb W W' := by
  have e := eq_of_beq hx
  have N0 := gotNo pb x (y :: ts) ⟨#[43]⟩ W h (by rw [e]; simp)
  have N1 := gotNo pb x (y :: ts) ⟨#[45]⟩ W h (by rw [e]; simp)
  have Y := gotYes pb x y ts ⟨#[42]⟩ W h (by rw [e]; simp)
  clear h hx e
  go_enter Tryz.func171, Tryz.ntmps171
  go_wp2_with fail
  refine wp_loop_rounds 3 ?_
  rw [rounds_succ]
  go_wp2_with fail
  refine N0.mono ?_
  rintro e w1 ⟨rfl, rfl⟩
  go_wp2_with fail
  rw [rounds_succ]
  go_wp2_with fail
  refine N1.mono ?_
  rintro e w1 ⟨rfl, rfl⟩
  go_wp2_with fail
  rw [rounds_succ]
  go_wp2_with fail
  refine Y.mono ?_
  rintro e w1 ⟨rfl, h1, h2⟩
  have H1 : Hid _ := And.intro h1 h2
  clear h1 h2
  go_wp2_with fail
  go_ret
  exact ⟨rfl, H1.out⟩

theorem op3 (pb : Nat) (x y : Tok) (ts : List Tok) (W : World) (h : At W pb (x :: y :: ts)) (hx : sT x.text [47] = true) :
    Calls Tryz.prog 171 #[.pointer (some ⟨pb, 0, none⟩)] W fun e W' => e = .returned (.int .i64 3) ∧ At W' pb (y :: ts) ∧ Kp pb W W' := by
  have e := eq_of_beq hx
  have N0 := gotNo pb x (y :: ts) ⟨#[43]⟩ W h (by rw [e]; simp)
  have N1 := gotNo pb x (y :: ts) ⟨#[45]⟩ W h (by rw [e]; simp)
  have N2 := gotNo pb x (y :: ts) ⟨#[42]⟩ W h (by rw [e]; simp)
  have Y := gotYes pb x y ts ⟨#[47]⟩ W h (by rw [e]; simp)
  clear h hx e
  go_enter Tryz.func171, Tryz.ntmps171
  go_wp2_with fail
  refine wp_loop_rounds 4 ?_
  rw [rounds_succ]
  go_wp2_with fail
  refine N0.mono ?_
  rintro e w1 ⟨rfl, rfl⟩
  go_wp2_with fail
  rw [rounds_succ]
  go_wp2_with fail
  refine N1.mono ?_
  rintro e w1 ⟨rfl, rfl⟩
  go_wp2_with fail
  rw [rounds_succ]
  go_wp2_with fail
  refine N2.mono ?_
  rintro e w1 ⟨rfl, rfl⟩
  go_wp2_with fail
  rw [rounds_succ]
  go_wp2_with fail
  refine Y.mono ?_
  rintro e w1 ⟨rfl, h1, h2⟩
  have H1 : Hid _ := And.intro h1 h2
  clear h1 h2
  go_wp2_with fail
  go_ret
  exact ⟨rfl, H1.out⟩

theorem op4 (pb : Nat) (x y : Tok) (ts : List Tok) (W : World) (h : At W pb (x :: y :: ts)) (hx : sT x.text [60] = true) :
    Calls Tryz.prog 171 #[.pointer (some ⟨pb, 0, none⟩)] W fun e W' => e = .returned (.int .i64 4) ∧ At W' pb (y :: ts) ∧ Kp pb W W' := by
  have e := eq_of_beq hx
  have N0 := gotNo pb x (y :: ts) ⟨#[43]⟩ W h (by rw [e]; simp)
  have N1 := gotNo pb x (y :: ts) ⟨#[45]⟩ W h (by rw [e]; simp)
  have N2 := gotNo pb x (y :: ts) ⟨#[42]⟩ W h (by rw [e]; simp)
  have N3 := gotNo pb x (y :: ts) ⟨#[47]⟩ W h (by rw [e]; simp)
  have Y := gotYes pb x y ts ⟨#[60]⟩ W h (by rw [e]; simp)
  clear h hx e
  go_enter Tryz.func171, Tryz.ntmps171
  go_wp2_with fail
  refine wp_loop_rounds 5 ?_
  rw [rounds_succ]
  go_wp2_with fail
  refine N0.mono ?_
  rintro e w1 ⟨rfl, rfl⟩
  go_wp2_with fail
  rw [rounds_succ]
  go_wp2_with fail
  refine N1.mono ?_
  rintro e w1 ⟨rfl, rfl⟩
  go_wp2_with fail
  rw [rounds_succ]
  go_wp2_with fail
  refine N2.mono ?_
  rintro e w1 ⟨rfl, rfl⟩
  go_wp2_with fail
  rw [rounds_succ]
  go_wp2_with fail
  refine N3.mono ?_
  rintro e w1 ⟨rfl, rfl⟩
  go_wp2_with fail
  rw [rounds_succ]
  go_wp2_with fail
  refine Y.mono ?_
  rintro e w1 ⟨rfl, h1, h2⟩
  have H1 : Hid _ := And.intro h1 h2
  clear h1 h2
  go_wp2_with fail
  go_ret
  exact ⟨rfl, H1.out⟩

theorem op5 (pb : Nat) (x y : Tok) (ts : List Tok) (W : World) (h : At W pb (x :: y :: ts)) (hx : sT x.text [61] = true) :
    Calls Tryz.prog 171 #[.pointer (some ⟨pb, 0, none⟩)] W fun e W' => e = .returned (.int .i64 5) ∧ At W' pb (y :: ts) ∧ Kp pb W W' := by
  have e := eq_of_beq hx
  have N0 := gotNo pb x (y :: ts) ⟨#[43]⟩ W h (by rw [e]; simp)
  have N1 := gotNo pb x (y :: ts) ⟨#[45]⟩ W h (by rw [e]; simp)
  have N2 := gotNo pb x (y :: ts) ⟨#[42]⟩ W h (by rw [e]; simp)
  have N3 := gotNo pb x (y :: ts) ⟨#[47]⟩ W h (by rw [e]; simp)
  have N4 := gotNo pb x (y :: ts) ⟨#[60]⟩ W h (by rw [e]; simp)
  have Y := gotYes pb x y ts ⟨#[61]⟩ W h (by rw [e]; simp)
  clear h hx e
  go_enter Tryz.func171, Tryz.ntmps171
  go_wp2_with fail
  refine wp_loop_rounds 6 ?_
  rw [rounds_succ]
  go_wp2_with fail
  refine N0.mono ?_
  rintro e w1 ⟨rfl, rfl⟩
  go_wp2_with fail
  rw [rounds_succ]
  go_wp2_with fail
  refine N1.mono ?_
  rintro e w1 ⟨rfl, rfl⟩
  go_wp2_with fail
  rw [rounds_succ]
  go_wp2_with fail
  refine N2.mono ?_
  rintro e w1 ⟨rfl, rfl⟩
  go_wp2_with fail
  rw [rounds_succ]
  go_wp2_with fail
  refine N3.mono ?_
  rintro e w1 ⟨rfl, rfl⟩
  go_wp2_with fail
  rw [rounds_succ]
  go_wp2_with fail
  refine N4.mono ?_
  rintro e w1 ⟨rfl, rfl⟩
  go_wp2_with fail
  rw [rounds_succ]
  go_wp2_with fail
  refine Y.mono ?_
  rintro e w1 ⟨rfl, h1, h2⟩
  have H1 : Hid _ := And.intro h1 h2
  clear h1 h2
  go_wp2_with fail
  go_ret
  exact ⟨rfl, H1.out⟩

end Go.Proofs.YtajnfknldofjlaaGreatDoor

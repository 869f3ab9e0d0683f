/- Expressions and statements by themselves: what the program tells of their own fields. By mkformex.py. -/
import Derived.Test.YtajnfknldofjlaaGreatDoorFormEx
namespace Go.Proofs.YtajnfknldofjlaaGreatDoor
open Go.RowKit
set_option linter.unusedVariables false
set_option linter.unusedSimpArgs false
set_option maxRecDepth 100000

def Fm.cells (f : Fm) : List Value := [.string ⟨f.txt.toArray⟩, .int .i64 f.lo, .int .i64 f.hi, .int .i64 f.le, .int .i64 f.mo]

def exT (k n : Int) (mod name : List Int) (ks : List Ex) : Bool :=
  inB k 0 7 && (fTakes (exF k.toNat) n name ks.length && (decide (mod.length = 0) || hasW (exF k.toNat) wMod && nameOk mod true) && (decide (k = 6) || !(ks.any fun x => decide (x.kind = 7))))

set_option maxHeartbeats 4000000 in
theorem exFormedC (x : Ex) (vs : List Value) (w : World) (ht : Tabs w) (h : RdVals w x.fl vs) (hs : recLen x.fl ≤ 1048576) :
    Calls Tryz.prog 195 #[agg vs] w fun e w' => e = .returned (.bool (exT x.kind x.n x.mod x.name x.kids)) ∧ w.grownBy w' none := by
  obtain ⟨k, n, mod, name, ks⟩ := x
  unfold Ex.fl at h
  have hs' : mod.length ≤ 1048576 ∧ name.length ≤ 1048576 := by simp only [Ex.fl, recLen, Fl.len] at hs; omega
  clear hs
  obtain ⟨y0, _, rfl, rfl, y1, _, rfl, rfl, y2, _, rfl, ⟨a2, c2, rfl, h2, hc2, _⟩, y3, _, rfl, ⟨a3, c3, rfl, h3, hc3, _⟩, y4, _, rfl, h4', rfl⟩ := h
  obtain ⟨a4, c4, rfl, h4⟩ := h4'.list
  clear h4'
  have hkl : (exs ks).length = ks.length := by simp [exs_map]
  have hk9 : ks.length ≤ 9223372036854775807 := by have h5 := h4.cap; have h6 := h4.most; unfold maxLen at h6; omega
  rw [hkl]
  simp only [agg, Ex.kind, Ex.n, Ex.mod, Ex.name, Ex.kids]
  have yy := grown_alloc w (.cells #[.int .i64 k, .int .i64 n, .slice a2 mod.length c2, .slice a3 name.length c3, .slice a4 ks.length c4] 122 (0, 0)) none
  have x0 := Blk.new w 122 [.int .i64 k, .int .i64 n, .slice a2 mod.length c2, .slice a3 name.length c3, .slice a4 ks.length c4]
  have hfe : Hid (exT k n mod name ks = (inB k 0 7 && (fTakes (exF k.toNat) n name ks.length && (decide (mod.length = 0) || hasW (exF k.toNat) wMod && nameOk mod true) && (decide (k = 6) || !(ks.any fun x => decide (x.kind = 7)))))) := rfl
  generalize exT k n mod name ks = TG at *
  have ht1 := ht.below (below_grown yy)
  have h21 := h2.below (below_grown yy)
  have h31 := h3.below (below_grown yy)
  have h41 := h4.below (below_grown yy)
  clear ht h2 h3 h4
  go_enter Tryz.func195, Tryz.ntmps195
  go_upto_region 1 with fail
  generalize w.alloc (.cells #[.int .i64 k, .int .i64 n, .slice a2 mod.length c2, .slice a3 name.length c3, .slice a4 ks.length c4] 122 (0, 0)) = w1 at *
  have q0 := x0.cell (i := 0) rfl
  have R1 := inRangeC k 0 7 w1
  go_wp2_with fail
  refine R1.mono ?_
  rintro e w1 ⟨rfl, rfl⟩
  clear R1
  rw [show (decide (0 ≤ k) && decide (k ≤ 7)) = inB k 0 7 from rfl]
  cases e1 : inB k 0 7
  · have he : Hid (TG = false) := by show _ = _; rw [hfe.out, e1]; rfl
    clear e1
    go_wp2_with fail
    go_ret
    exact ⟨ret_bool he.out.symm, yy⟩
  have hkk : 0 ≤ k ∧ k ≤ 7 := by simpa [inB] using e1
  have hf2 : Hid (TG = (fTakes (exF k.toNat) n name ks.length && (decide (mod.length = 0) || hasW (exF k.toNat) wMod && nameOk mod true) && (decide (k = 6) || !(ks.any fun x => decide (x.kind = 7))))) := by show _ = _; rw [hfe.out, e1]; rfl
  clear e1 hfe
  obtain ⟨i, rfl⟩ : ∃ i : Nat, k = (i : Int) := ⟨k.toNat, by omega⟩
  simp only [Int.toNat_natCast] at hf2
  have hi : i < 8 := by omega
  have hp := exPlain i
  have hF := ht1.ex i hi
  have z0 := hF.c0
  have z1 := hF.c1
  have z2 := hF.c2
  have z3 := hF.c3
  have z4 := hF.c4
  clear hF
  generalize hFm : exF i = F at *
  clear hFm
  go_upto_region 4 with fail
  clear z0 z1 z2 z3 z4 q0
  have fb := Blk.new w1 153 [.string ⟨F.txt.toArray⟩, .int .i64 F.lo, .int .i64 F.hi, .int .i64 F.le, .int .i64 F.mo]
  have yf := grown_alloc w1 (.cells #[.string ⟨F.txt.toArray⟩, .int .i64 F.lo, .int .i64 F.hi, .int .i64 F.le, .int .i64 F.mo] 153 (0, 0)) none
  replace x0 := x0.below (below_grown yf) x0.lt
  replace ht1 := ht1.below (below_grown yf)
  replace h21 := h21.below (below_grown yf)
  replace h31 := h31.below (below_grown yf)
  replace h41 := h41.below (below_grown yf)
  replace yy := grown_trans yy yf
  generalize w1.alloc (.cells #[.string ⟨F.txt.toArray⟩, .int .i64 F.lo, .int .i64 F.hi, .int .i64 F.le, .int .i64 F.mo] 153 (0, 0)) = w2 at *
  generalize w1.heap.size = gf at *
  clear yf
  have q0 := x0.cell (i := 0) rfl
  have q1 := x0.cell (i := 1) rfl
  have q2 := x0.cell (i := 2) rfl
  have q3 := x0.cell (i := 3) rfl
  have q4 := x0.cell (i := 4) rfl
  have f0 := fb.cell (i := 0) rfl
  have f1 := fb.cell (i := 1) rfl
  have f2 := fb.cell (i := 2) rfl
  have f3 := fb.cell (i := 3) rfl
  have f4 := fb.cell (i := 4) rfl
  have HQ := takesC F hp n a3 c3 name ks.length w2 ht1 h31 (by omega) hc3
  simp only [Fm.val, wName, wMod, wBody, wElse, wCall] at HQ
  go_wp2_with fail
  refine HQ.mono ?_
  rintro e w3 ⟨rfl, hg⟩
  clear q0 q1 q2 q3 q4 f0 f1 f2 f3 f4
  replace x0 := x0.below (below_grown hg) x0.lt
  replace fb := fb.below (below_grown hg) fb.lt
  replace ht1 := ht1.below (below_grown hg)
  replace yy := grown_trans yy hg
  replace h21 := h21.below (below_grown hg)
  replace h31 := h31.below (below_grown hg)
  replace h41 := h41.below (below_grown hg)
  clear hg HQ
  have q0 := x0.cell (i := 0) rfl
  have q1 := x0.cell (i := 1) rfl
  have q2 := x0.cell (i := 2) rfl
  have q3 := x0.cell (i := 3) rfl
  have q4 := x0.cell (i := 4) rfl
  have f0 := fb.cell (i := 0) rfl
  have f1 := fb.cell (i := 1) rfl
  have f2 := fb.cell (i := 2) rfl
  have f3 := fb.cell (i := 3) rfl
  have f4 := fb.cell (i := 4) rfl
  cases e1 : fTakes F n name ks.length
  · skip
    have he : Hid (TG = false) := by show _ = _; rw [hf2.out, e1]; rfl
    go_wp2_with fail
    go_ret
    exact ⟨ret_bool he.out.symm, yy⟩
  have hf3 : Hid (TG = ((decide (mod.length = 0) || hasW F wMod && nameOk mod true) && (decide ((i : Int) = 6) || !(ks.any fun x => decide (x.kind = 7))))) := by show _ = _; rw [hf2.out, e1]; rfl
  clear e1 hf2
  by_cases hm : mod.length = 0
  · skip
    have hm' : ((mod.length : Int) == 0) = true := by simpa using hm
    have hf4 : Hid (TG = (decide ((i : Int) = 6) || !(ks.any fun x => decide (x.kind = 7)))) := by show _ = _; rw [hf3.out, decide_eq_true hm]; simp
    clear hf3
    by_cases h6 : (i : Int) = 6
    · skip
      have h6' : ((i : Int) == 6) = true := by simpa using h6
      have he : Hid (TG = true) := by show _ = _; rw [hf4.out, decide_eq_true h6]; rfl
      go_wp2_with fail
      go_ret
      exact ⟨ret_bool he.out.symm, yy⟩
    · skip
      have h6' : ((i : Int) == 6) = false := by simpa using h6
      have HQ := hasKindC 7 ks a4 c4 w3 h41
      skip
      go_wp2_with fail
      refine HQ.mono ?_
      rintro e w4 ⟨rfl, hg⟩
      clear q0 q1 q2 q3 q4 f0 f1 f2 f3 f4
      replace x0 := x0.below (below_grown hg) x0.lt
      replace fb := fb.below (below_grown hg) fb.lt
      replace ht1 := ht1.below (below_grown hg)
      replace yy := grown_trans yy hg
      replace h21 := h21.below (below_grown hg)
      replace h31 := h31.below (below_grown hg)
      replace h41 := h41.below (below_grown hg)
      clear hg HQ
      have q0 := x0.cell (i := 0) rfl
      have q1 := x0.cell (i := 1) rfl
      have q2 := x0.cell (i := 2) rfl
      have q3 := x0.cell (i := 3) rfl
      have q4 := x0.cell (i := 4) rfl
      have f0 := fb.cell (i := 0) rfl
      have f1 := fb.cell (i := 1) rfl
      have f2 := fb.cell (i := 2) rfl
      have f3 := fb.cell (i := 3) rfl
      have f4 := fb.cell (i := 4) rfl
      have he : Hid (TG = !(ks.any fun x => decide (x.kind = 7))) := by show _ = _; rw [hf4.out, decide_eq_false h6]; simp
      go_wp2_with fail
      go_ret
      exact ⟨ret_bool he.out.symm, yy⟩
  · skip
    have hm' : ((mod.length : Int) == 0) = false := by simpa using hm
    have HQ := hasC F hp wMod w3 ht1
    simp only [Fm.val, wName, wMod, wBody, wElse, wCall] at HQ
    go_wp2_with fail
    refine HQ.mono ?_
    rintro e w4 ⟨rfl, hg⟩
    clear q0 q1 q2 q3 q4 f0 f1 f2 f3 f4
    replace x0 := x0.below (below_grown hg) x0.lt
    replace fb := fb.below (below_grown hg) fb.lt
    replace ht1 := ht1.below (below_grown hg)
    replace yy := grown_trans yy hg
    replace h21 := h21.below (below_grown hg)
    replace h31 := h31.below (below_grown hg)
    replace h41 := h41.below (below_grown hg)
    clear hg HQ
    have q0 := x0.cell (i := 0) rfl
    have q1 := x0.cell (i := 1) rfl
    have q2 := x0.cell (i := 2) rfl
    have q3 := x0.cell (i := 3) rfl
    have q4 := x0.cell (i := 4) rfl
    have f0 := fb.cell (i := 0) rfl
    have f1 := fb.cell (i := 1) rfl
    have f2 := fb.cell (i := 2) rfl
    have f3 := fb.cell (i := 3) rfl
    have f4 := fb.cell (i := 4) rfl
    simp only [show ([109, 111, 100] : List UInt8) = wMod from rfl]
    cases e2 : hasW F wMod
    · skip
      have he : Hid (TG = false) := by show _ = _; rw [hf3.out, decide_eq_false hm, e2]; simp
      go_wp2_with fail
      go_ret
      exact ⟨ret_bool he.out.symm, yy⟩
    have HQ := implNameOk a2 mod.length c2 mod true w4 h21 (by omega) hc2
    skip
    go_wp2_with fail
    refine HQ.mono ?_
    rintro e w5 ⟨rfl, hg⟩
    clear q0 q1 q2 q3 q4 f0 f1 f2 f3 f4
    replace hg : w4.grownBy w5 none := by rw [hg]; exact grown_refl _ _
    replace x0 := x0.below (below_grown hg) x0.lt
    replace fb := fb.below (below_grown hg) fb.lt
    replace ht1 := ht1.below (below_grown hg)
    replace yy := grown_trans yy hg
    replace h21 := h21.below (below_grown hg)
    replace h31 := h31.below (below_grown hg)
    replace h41 := h41.below (below_grown hg)
    clear hg HQ
    have q0 := x0.cell (i := 0) rfl
    have q1 := x0.cell (i := 1) rfl
    have q2 := x0.cell (i := 2) rfl
    have q3 := x0.cell (i := 3) rfl
    have q4 := x0.cell (i := 4) rfl
    have f0 := fb.cell (i := 0) rfl
    have f1 := fb.cell (i := 1) rfl
    have f2 := fb.cell (i := 2) rfl
    have f3 := fb.cell (i := 3) rfl
    have f4 := fb.cell (i := 4) rfl
    cases e3 : nameOk mod true
    · skip
      have he : Hid (TG = false) := by show _ = _; rw [hf3.out, decide_eq_false hm, e2, e3]; simp
      go_wp2_with fail
      go_ret
      exact ⟨ret_bool he.out.symm, yy⟩
    have hf4 : Hid (TG = (decide ((i : Int) = 6) || !(ks.any fun x => decide (x.kind = 7)))) := by show _ = _; rw [hf3.out, decide_eq_false hm, e2, e3]; simp
    clear hf3
    by_cases h6 : (i : Int) = 6
    · skip
      have h6' : ((i : Int) == 6) = true := by simpa using h6
      have he : Hid (TG = true) := by show _ = _; rw [hf4.out, decide_eq_true h6]; rfl
      go_wp2_with fail
      go_ret
      exact ⟨ret_bool he.out.symm, yy⟩
    · skip
      have h6' : ((i : Int) == 6) = false := by simpa using h6
      have HQ := hasKindC 7 ks a4 c4 w5 h41
      skip
      go_wp2_with fail
      refine HQ.mono ?_
      rintro e w6 ⟨rfl, hg⟩
      clear q0 q1 q2 q3 q4 f0 f1 f2 f3 f4
      replace x0 := x0.below (below_grown hg) x0.lt
      replace fb := fb.below (below_grown hg) fb.lt
      replace ht1 := ht1.below (below_grown hg)
      replace yy := grown_trans yy hg
      replace h21 := h21.below (below_grown hg)
      replace h31 := h31.below (below_grown hg)
      replace h41 := h41.below (below_grown hg)
      clear hg HQ
      have q0 := x0.cell (i := 0) rfl
      have q1 := x0.cell (i := 1) rfl
      have q2 := x0.cell (i := 2) rfl
      have q3 := x0.cell (i := 3) rfl
      have q4 := x0.cell (i := 4) rfl
      have f0 := fb.cell (i := 0) rfl
      have f1 := fb.cell (i := 1) rfl
      have f2 := fb.cell (i := 2) rfl
      have f3 := fb.cell (i := 3) rfl
      have f4 := fb.cell (i := 4) rfl
      have he : Hid (TG = !(ks.any fun x => decide (x.kind = 7))) := by show _ = _; rw [hf4.out, decide_eq_false h6]; simp
      go_wp2_with fail
      go_ret
      exact ⟨ret_bool he.out.symm, yy⟩

def stT (k n : Int) (name : List Int) (ks : List Ex) (nb ne : Nat) : Bool :=
  inB k 0 7 && (fTakes (stF k.toNat) n name ks.length && (decide (nb = 0) || hasW (stF k.toNat) wBody) && (decide (ne = 0) || hasW (stF k.toNat) wElse) && !(ks.any fun x => decide (x.kind = 7)) && (!hasW (stF k.toNat) wCall || ks.any fun x => decide (x.kind = 6)))

set_option maxHeartbeats 4000000 in
theorem stFormedC (k n : Int) (name : List Int) (ks : List Ex) (bs es : List St) (vs : List Value) (w : World) (ht : Tabs w) (h : RdVals w (St.mk k n name ks bs es).fl vs) (hs : recLen (St.mk k n name ks bs es).fl ≤ 1048576) :
    Calls Tryz.prog 151 #[agg vs] w fun e w' => e = .returned (.bool (stT k n name ks bs.length es.length)) ∧ w.grownBy w' none := by
  unfold St.fl at h
  have hs' : name.length ≤ 1048576 := by simp only [St.fl, recLen, Fl.len] at hs; omega
  clear hs
  obtain ⟨y0, _, rfl, rfl, y1, _, rfl, rfl, y2, _, rfl, ⟨a2, c2, rfl, h2, hc2, _⟩, y3, _, rfl, h3', y4, _, rfl, h4', y5, _, rfl, h5', rfl⟩ := h
  obtain ⟨a3, c3, rfl, h3⟩ := h3'.list
  obtain ⟨a4, c4, rfl, h4⟩ := h4'.list
  obtain ⟨a5, c5, rfl, h5⟩ := h5'.list
  clear h3' h4' h5'
  have hkl : (exs ks).length = ks.length := by simp [exs_map]
  have hbl : (sts bs).length = bs.length := by simp [sts_map]
  have hel : (sts es).length = es.length := by simp [sts_map]
  have hk9 : ks.length ≤ 9223372036854775807 := by have h5 := h3.cap; have h6 := h3.most; unfold maxLen at h6; omega
  have hb9 : bs.length ≤ 9223372036854775807 := by have h5 := h4.cap; have h6 := h4.most; unfold maxLen at h6; omega
  have he9 : es.length ≤ 9223372036854775807 := by have h7 := h5.cap; have h6 := h5.most; unfold maxLen at h6; omega
  rw [hkl, hbl, hel]
  clear h4 h5
  generalize bs.length = nb at *
  generalize es.length = ne at *
  simp only [agg]
  have yy := grown_alloc w (.cells #[.int .i64 k, .int .i64 n, .slice a2 name.length c2, .slice a3 ks.length c3, .slice a4 nb c4, .slice a5 ne c5] 133 (0, 0)) none
  have x0 := Blk.new w 133 [.int .i64 k, .int .i64 n, .slice a2 name.length c2, .slice a3 ks.length c3, .slice a4 nb c4, .slice a5 ne c5]
  have hfe : Hid (stT k n name ks nb ne = (inB k 0 7 && (fTakes (stF k.toNat) n name ks.length && (decide (nb = 0) || hasW (stF k.toNat) wBody) && (decide (ne = 0) || hasW (stF k.toNat) wElse) && !(ks.any fun x => decide (x.kind = 7)) && (!hasW (stF k.toNat) wCall || ks.any fun x => decide (x.kind = 6))))) := rfl
  generalize stT k n name ks nb ne = TG at *
  have ht1 := ht.below (below_grown yy)
  have h31 := h2.below (below_grown yy)
  have h41 := h3.below (below_grown yy)
  clear ht h2 h3
  go_enter Tryz.func151, Tryz.ntmps151
  go_upto_region 1 with fail
  generalize w.alloc (.cells #[.int .i64 k, .int .i64 n, .slice a2 name.length c2, .slice a3 ks.length c3, .slice a4 nb c4, .slice a5 ne c5] 133 (0, 0)) = w1 at *
  have q0 := x0.cell (i := 0) rfl
  have R1 := inRangeC k 0 7 w1
  go_wp2_with fail
  refine R1.mono ?_
  rintro e w1 ⟨rfl, rfl⟩
  clear R1
  rw [show (decide (0 ≤ k) && decide (k ≤ 7)) = inB k 0 7 from rfl]
  cases e1 : inB k 0 7
  · have he : Hid (TG = false) := by show _ = _; rw [hfe.out, e1]; rfl
    clear e1
    go_wp2_with fail
    go_ret
    exact ⟨ret_bool he.out.symm, yy⟩
  have hkk : 0 ≤ k ∧ k ≤ 7 := by simpa [inB] using e1
  have hf2 : Hid (TG = (fTakes (stF k.toNat) n name ks.length && (decide (nb = 0) || hasW (stF k.toNat) wBody) && (decide (ne = 0) || hasW (stF k.toNat) wElse) && !(ks.any fun x => decide (x.kind = 7)) && (!hasW (stF k.toNat) wCall || ks.any fun x => decide (x.kind = 6)))) := by show _ = _; rw [hfe.out, e1]; rfl
  clear e1 hfe
  obtain ⟨i, rfl⟩ : ∃ i : Nat, k = (i : Int) := ⟨k.toNat, by omega⟩
  simp only [Int.toNat_natCast] at hf2
  have hi : i < 8 := by omega
  have hp := stPlain i
  have hF := ht1.st i hi
  have z0 := hF.c0
  have z1 := hF.c1
  have z2 := hF.c2
  have z3 := hF.c3
  have z4 := hF.c4
  clear hF
  generalize hFm : stF i = F at *
  clear hFm
  go_upto_region 4 with fail
  clear z0 z1 z2 z3 z4 q0
  have fb := Blk.new w1 153 [.string ⟨F.txt.toArray⟩, .int .i64 F.lo, .int .i64 F.hi, .int .i64 F.le, .int .i64 F.mo]
  have yf := grown_alloc w1 (.cells #[.string ⟨F.txt.toArray⟩, .int .i64 F.lo, .int .i64 F.hi, .int .i64 F.le, .int .i64 F.mo] 153 (0, 0)) none
  replace x0 := x0.below (below_grown yf) x0.lt
  replace ht1 := ht1.below (below_grown yf)
  replace h31 := h31.below (below_grown yf)
  replace h41 := h41.below (below_grown yf)
  replace yy := grown_trans yy yf
  generalize w1.alloc (.cells #[.string ⟨F.txt.toArray⟩, .int .i64 F.lo, .int .i64 F.hi, .int .i64 F.le, .int .i64 F.mo] 153 (0, 0)) = w2 at *
  generalize w1.heap.size = gf at *
  clear yf
  generalize eA : fTakes F n name ks.length = bA at *
  generalize eB : hasW F wBody = bB at *
  generalize eC : hasW F wElse = bC at *
  generalize eD : (ks.any fun x => decide (x.kind = 7)) = bD at *
  generalize eE : hasW F wCall = bE at *
  generalize eF : (ks.any fun x => decide (x.kind = 6)) = bF at *
  have q0 := x0.cell (i := 0) rfl
  have q1 := x0.cell (i := 1) rfl
  have q2 := x0.cell (i := 2) rfl
  have q3 := x0.cell (i := 3) rfl
  have q4 := x0.cell (i := 4) rfl
  have q5 := x0.cell (i := 5) rfl
  have f0 := fb.cell (i := 0) rfl
  have f1 := fb.cell (i := 1) rfl
  have f2 := fb.cell (i := 2) rfl
  have f3 := fb.cell (i := 3) rfl
  have f4 := fb.cell (i := 4) rfl
  have HQ := takesC F hp n a2 c2 name ks.length w2 ht1 h31 (by omega) hc2
  simp only [Fm.val, wName, wMod, wBody, wElse, wCall] at HQ
  go_wp2_with fail
  refine HQ.mono ?_
  rintro e w3 ⟨rfl, hg⟩
  clear q0 q1 q2 q3 q4 q5 f0 f1 f2 f3 f4
  replace x0 := x0.below (below_grown hg) x0.lt
  replace fb := fb.below (below_grown hg) fb.lt
  replace ht1 := ht1.below (below_grown hg)
  replace yy := grown_trans yy hg
  replace h31 := h31.below (below_grown hg)
  replace h41 := h41.below (below_grown hg)
  clear hg HQ
  have q0 := x0.cell (i := 0) rfl
  have q1 := x0.cell (i := 1) rfl
  have q2 := x0.cell (i := 2) rfl
  have q3 := x0.cell (i := 3) rfl
  have q4 := x0.cell (i := 4) rfl
  have q5 := x0.cell (i := 5) rfl
  have f0 := fb.cell (i := 0) rfl
  have f1 := fb.cell (i := 1) rfl
  have f2 := fb.cell (i := 2) rfl
  have f3 := fb.cell (i := 3) rfl
  have f4 := fb.cell (i := 4) rfl
  simp only [eA]
  cases bA
  · skip
    have he : Hid (TG = false) := by show _ = _; rw [hf2.out]; rfl
    go_wp2_with fail
    go_ret
    exact ⟨ret_bool he.out.symm, yy⟩
  by_cases hzB : nb = 0
  · skip
    have hz' : ((nb : Int) == 0) = true := by simpa using hzB
    by_cases hzC : ne = 0
    · skip
      have hz' : ((ne : Int) == 0) = true := by simpa using hzC
      have HQ := hasKindC 7 ks a3 c3 w3 h41
      skip
      go_wp2_with fail
      refine HQ.mono ?_
      rintro e w4 ⟨rfl, hg⟩
      clear q0 q1 q2 q3 q4 q5 f0 f1 f2 f3 f4
      replace x0 := x0.below (below_grown hg) x0.lt
      replace fb := fb.below (below_grown hg) fb.lt
      replace ht1 := ht1.below (below_grown hg)
      replace yy := grown_trans yy hg
      replace h31 := h31.below (below_grown hg)
      replace h41 := h41.below (below_grown hg)
      clear hg HQ
      have q0 := x0.cell (i := 0) rfl
      have q1 := x0.cell (i := 1) rfl
      have q2 := x0.cell (i := 2) rfl
      have q3 := x0.cell (i := 3) rfl
      have q4 := x0.cell (i := 4) rfl
      have q5 := x0.cell (i := 5) rfl
      have f0 := fb.cell (i := 0) rfl
      have f1 := fb.cell (i := 1) rfl
      have f2 := fb.cell (i := 2) rfl
      have f3 := fb.cell (i := 3) rfl
      have f4 := fb.cell (i := 4) rfl
      simp only [eD]
      cases bD
      rotate_left
      · skip
        have he : Hid (TG = false) := by show _ = _; rw [hf2.out, decide_eq_true hzB, decide_eq_true hzC]; simp
        go_wp2_with fail
        go_ret
        exact ⟨ret_bool he.out.symm, yy⟩
      have HQ := hasC F hp wCall w4 ht1
      simp only [Fm.val, wName, wMod, wBody, wElse, wCall] at HQ
      go_wp2_with fail
      refine HQ.mono ?_
      rintro e w5 ⟨rfl, hg⟩
      clear q0 q1 q2 q3 q4 q5 f0 f1 f2 f3 f4
      replace x0 := x0.below (below_grown hg) x0.lt
      replace fb := fb.below (below_grown hg) fb.lt
      replace ht1 := ht1.below (below_grown hg)
      replace yy := grown_trans yy hg
      replace h31 := h31.below (below_grown hg)
      replace h41 := h41.below (below_grown hg)
      clear hg HQ
      have q0 := x0.cell (i := 0) rfl
      have q1 := x0.cell (i := 1) rfl
      have q2 := x0.cell (i := 2) rfl
      have q3 := x0.cell (i := 3) rfl
      have q4 := x0.cell (i := 4) rfl
      have q5 := x0.cell (i := 5) rfl
      have f0 := fb.cell (i := 0) rfl
      have f1 := fb.cell (i := 1) rfl
      have f2 := fb.cell (i := 2) rfl
      have f3 := fb.cell (i := 3) rfl
      have f4 := fb.cell (i := 4) rfl
      simp only [show ([99, 97, 108, 108] : List UInt8) = wCall from rfl, eE]
      cases bE
      · skip
        have he : Hid (TG = true) := by show _ = _; rw [hf2.out, decide_eq_true hzB, decide_eq_true hzC]; simp
        go_wp2_with fail
        go_ret
        exact ⟨ret_bool he.out.symm, yy⟩
      have HQ := hasKindC 6 ks a3 c3 w5 h41
      skip
      go_wp2_with fail
      refine HQ.mono ?_
      rintro e w6 ⟨rfl, hg⟩
      clear q0 q1 q2 q3 q4 q5 f0 f1 f2 f3 f4
      replace x0 := x0.below (below_grown hg) x0.lt
      replace fb := fb.below (below_grown hg) fb.lt
      replace ht1 := ht1.below (below_grown hg)
      replace yy := grown_trans yy hg
      replace h31 := h31.below (below_grown hg)
      replace h41 := h41.below (below_grown hg)
      clear hg HQ
      have q0 := x0.cell (i := 0) rfl
      have q1 := x0.cell (i := 1) rfl
      have q2 := x0.cell (i := 2) rfl
      have q3 := x0.cell (i := 3) rfl
      have q4 := x0.cell (i := 4) rfl
      have q5 := x0.cell (i := 5) rfl
      have f0 := fb.cell (i := 0) rfl
      have f1 := fb.cell (i := 1) rfl
      have f2 := fb.cell (i := 2) rfl
      have f3 := fb.cell (i := 3) rfl
      have f4 := fb.cell (i := 4) rfl
      simp only [eF]
      have he : Hid (TG = bF) := by show _ = _; rw [hf2.out, decide_eq_true hzB, decide_eq_true hzC]; simp
      go_wp2_with fail
      go_ret
      exact ⟨ret_bool he.out.symm, yy⟩
    · skip
      have hz' : ((ne : Int) == 0) = false := by simpa using hzC
      have HQ := hasC F hp wElse w3 ht1
      simp only [Fm.val, wName, wMod, wBody, wElse, wCall] at HQ
      go_wp2_with fail
      refine HQ.mono ?_
      rintro e w4 ⟨rfl, hg⟩
      clear q0 q1 q2 q3 q4 q5 f0 f1 f2 f3 f4
      replace x0 := x0.below (below_grown hg) x0.lt
      replace fb := fb.below (below_grown hg) fb.lt
      replace ht1 := ht1.below (below_grown hg)
      replace yy := grown_trans yy hg
      replace h31 := h31.below (below_grown hg)
      replace h41 := h41.below (below_grown hg)
      clear hg HQ
      have q0 := x0.cell (i := 0) rfl
      have q1 := x0.cell (i := 1) rfl
      have q2 := x0.cell (i := 2) rfl
      have q3 := x0.cell (i := 3) rfl
      have q4 := x0.cell (i := 4) rfl
      have q5 := x0.cell (i := 5) rfl
      have f0 := fb.cell (i := 0) rfl
      have f1 := fb.cell (i := 1) rfl
      have f2 := fb.cell (i := 2) rfl
      have f3 := fb.cell (i := 3) rfl
      have f4 := fb.cell (i := 4) rfl
      simp only [show ([101, 108, 115, 101] : List UInt8) = wElse from rfl, eC]
      cases bC
      · skip
        have he : Hid (TG = false) := by show _ = _; rw [hf2.out, decide_eq_true hzB, decide_eq_false hzC]; simp
        go_wp2_with fail
        go_ret
        exact ⟨ret_bool he.out.symm, yy⟩
      have HQ := hasKindC 7 ks a3 c3 w4 h41
      skip
      go_wp2_with fail
      refine HQ.mono ?_
      rintro e w5 ⟨rfl, hg⟩
      clear q0 q1 q2 q3 q4 q5 f0 f1 f2 f3 f4
      replace x0 := x0.below (below_grown hg) x0.lt
      replace fb := fb.below (below_grown hg) fb.lt
      replace ht1 := ht1.below (below_grown hg)
      replace yy := grown_trans yy hg
      replace h31 := h31.below (below_grown hg)
      replace h41 := h41.below (below_grown hg)
      clear hg HQ
      have q0 := x0.cell (i := 0) rfl
      have q1 := x0.cell (i := 1) rfl
      have q2 := x0.cell (i := 2) rfl
      have q3 := x0.cell (i := 3) rfl
      have q4 := x0.cell (i := 4) rfl
      have q5 := x0.cell (i := 5) rfl
      have f0 := fb.cell (i := 0) rfl
      have f1 := fb.cell (i := 1) rfl
      have f2 := fb.cell (i := 2) rfl
      have f3 := fb.cell (i := 3) rfl
      have f4 := fb.cell (i := 4) rfl
      simp only [eD]
      cases bD
      rotate_left
      · skip
        have he : Hid (TG = false) := by show _ = _; rw [hf2.out, decide_eq_true hzB, decide_eq_false hzC]; simp
        go_wp2_with fail
        go_ret
        exact ⟨ret_bool he.out.symm, yy⟩
      have HQ := hasC F hp wCall w5 ht1
      simp only [Fm.val, wName, wMod, wBody, wElse, wCall] at HQ
      go_wp2_with fail
      refine HQ.mono ?_
      rintro e w6 ⟨rfl, hg⟩
      clear q0 q1 q2 q3 q4 q5 f0 f1 f2 f3 f4
      replace x0 := x0.below (below_grown hg) x0.lt
      replace fb := fb.below (below_grown hg) fb.lt
      replace ht1 := ht1.below (below_grown hg)
      replace yy := grown_trans yy hg
      replace h31 := h31.below (below_grown hg)
      replace h41 := h41.below (below_grown hg)
      clear hg HQ
      have q0 := x0.cell (i := 0) rfl
      have q1 := x0.cell (i := 1) rfl
      have q2 := x0.cell (i := 2) rfl
      have q3 := x0.cell (i := 3) rfl
      have q4 := x0.cell (i := 4) rfl
      have q5 := x0.cell (i := 5) rfl
      have f0 := fb.cell (i := 0) rfl
      have f1 := fb.cell (i := 1) rfl
      have f2 := fb.cell (i := 2) rfl
      have f3 := fb.cell (i := 3) rfl
      have f4 := fb.cell (i := 4) rfl
      simp only [show ([99, 97, 108, 108] : List UInt8) = wCall from rfl, eE]
      cases bE
      · skip
        have he : Hid (TG = true) := by show _ = _; rw [hf2.out, decide_eq_true hzB, decide_eq_false hzC]; simp
        go_wp2_with fail
        go_ret
        exact ⟨ret_bool he.out.symm, yy⟩
      have HQ := hasKindC 6 ks a3 c3 w6 h41
      skip
      go_wp2_with fail
      refine HQ.mono ?_
      rintro e w7 ⟨rfl, hg⟩
      clear q0 q1 q2 q3 q4 q5 f0 f1 f2 f3 f4
      replace x0 := x0.below (below_grown hg) x0.lt
      replace fb := fb.below (below_grown hg) fb.lt
      replace ht1 := ht1.below (below_grown hg)
      replace yy := grown_trans yy hg
      replace h31 := h31.below (below_grown hg)
      replace h41 := h41.below (below_grown hg)
      clear hg HQ
      have q0 := x0.cell (i := 0) rfl
      have q1 := x0.cell (i := 1) rfl
      have q2 := x0.cell (i := 2) rfl
      have q3 := x0.cell (i := 3) rfl
      have q4 := x0.cell (i := 4) rfl
      have q5 := x0.cell (i := 5) rfl
      have f0 := fb.cell (i := 0) rfl
      have f1 := fb.cell (i := 1) rfl
      have f2 := fb.cell (i := 2) rfl
      have f3 := fb.cell (i := 3) rfl
      have f4 := fb.cell (i := 4) rfl
      simp only [eF]
      have he : Hid (TG = bF) := by show _ = _; rw [hf2.out, decide_eq_true hzB, decide_eq_false hzC]; simp
      go_wp2_with fail
      go_ret
      exact ⟨ret_bool he.out.symm, yy⟩
  · skip
    have hz' : ((nb : Int) == 0) = false := by simpa using hzB
    have HQ := hasC F hp wBody w3 ht1
    simp only [Fm.val, wName, wMod, wBody, wElse, wCall] at HQ
    go_wp2_with fail
    refine HQ.mono ?_
    rintro e w4 ⟨rfl, hg⟩
    clear q0 q1 q2 q3 q4 q5 f0 f1 f2 f3 f4
    replace x0 := x0.below (below_grown hg) x0.lt
    replace fb := fb.below (below_grown hg) fb.lt
    replace ht1 := ht1.below (below_grown hg)
    replace yy := grown_trans yy hg
    replace h31 := h31.below (below_grown hg)
    replace h41 := h41.below (below_grown hg)
    clear hg HQ
    have q0 := x0.cell (i := 0) rfl
    have q1 := x0.cell (i := 1) rfl
    have q2 := x0.cell (i := 2) rfl
    have q3 := x0.cell (i := 3) rfl
    have q4 := x0.cell (i := 4) rfl
    have q5 := x0.cell (i := 5) rfl
    have f0 := fb.cell (i := 0) rfl
    have f1 := fb.cell (i := 1) rfl
    have f2 := fb.cell (i := 2) rfl
    have f3 := fb.cell (i := 3) rfl
    have f4 := fb.cell (i := 4) rfl
    simp only [show ([98, 111, 100, 121] : List UInt8) = wBody from rfl, eB]
    cases bB
    · skip
      have he : Hid (TG = false) := by show _ = _; rw [hf2.out, decide_eq_false hzB]; simp
      go_wp2_with fail
      go_ret
      exact ⟨ret_bool he.out.symm, yy⟩
    by_cases hzC : ne = 0
    · skip
      have hz' : ((ne : Int) == 0) = true := by simpa using hzC
      have HQ := hasKindC 7 ks a3 c3 w4 h41
      skip
      go_wp2_with fail
      refine HQ.mono ?_
      rintro e w5 ⟨rfl, hg⟩
      clear q0 q1 q2 q3 q4 q5 f0 f1 f2 f3 f4
      replace x0 := x0.below (below_grown hg) x0.lt
      replace fb := fb.below (below_grown hg) fb.lt
      replace ht1 := ht1.below (below_grown hg)
      replace yy := grown_trans yy hg
      replace h31 := h31.below (below_grown hg)
      replace h41 := h41.below (below_grown hg)
      clear hg HQ
      have q0 := x0.cell (i := 0) rfl
      have q1 := x0.cell (i := 1) rfl
      have q2 := x0.cell (i := 2) rfl
      have q3 := x0.cell (i := 3) rfl
      have q4 := x0.cell (i := 4) rfl
      have q5 := x0.cell (i := 5) rfl
      have f0 := fb.cell (i := 0) rfl
      have f1 := fb.cell (i := 1) rfl
      have f2 := fb.cell (i := 2) rfl
      have f3 := fb.cell (i := 3) rfl
      have f4 := fb.cell (i := 4) rfl
      simp only [eD]
      cases bD
      rotate_left
      · skip
        have he : Hid (TG = false) := by show _ = _; rw [hf2.out, decide_eq_false hzB, decide_eq_true hzC]; simp
        go_wp2_with fail
        go_ret
        exact ⟨ret_bool he.out.symm, yy⟩
      have HQ := hasC F hp wCall w5 ht1
      simp only [Fm.val, wName, wMod, wBody, wElse, wCall] at HQ
      go_wp2_with fail
      refine HQ.mono ?_
      rintro e w6 ⟨rfl, hg⟩
      clear q0 q1 q2 q3 q4 q5 f0 f1 f2 f3 f4
      replace x0 := x0.below (below_grown hg) x0.lt
      replace fb := fb.below (below_grown hg) fb.lt
      replace ht1 := ht1.below (below_grown hg)
      replace yy := grown_trans yy hg
      replace h31 := h31.below (below_grown hg)
      replace h41 := h41.below (below_grown hg)
      clear hg HQ
      have q0 := x0.cell (i := 0) rfl
      have q1 := x0.cell (i := 1) rfl
      have q2 := x0.cell (i := 2) rfl
      have q3 := x0.cell (i := 3) rfl
      have q4 := x0.cell (i := 4) rfl
      have q5 := x0.cell (i := 5) rfl
      have f0 := fb.cell (i := 0) rfl
      have f1 := fb.cell (i := 1) rfl
      have f2 := fb.cell (i := 2) rfl
      have f3 := fb.cell (i := 3) rfl
      have f4 := fb.cell (i := 4) rfl
      simp only [show ([99, 97, 108, 108] : List UInt8) = wCall from rfl, eE]
      cases bE
      · skip
        have he : Hid (TG = true) := by show _ = _; rw [hf2.out, decide_eq_false hzB, decide_eq_true hzC]; simp
        go_wp2_with fail
        go_ret
        exact ⟨ret_bool he.out.symm, yy⟩
      have HQ := hasKindC 6 ks a3 c3 w6 h41
      skip
      go_wp2_with fail
      refine HQ.mono ?_
      rintro e w7 ⟨rfl, hg⟩
      clear q0 q1 q2 q3 q4 q5 f0 f1 f2 f3 f4
      replace x0 := x0.below (below_grown hg) x0.lt
      replace fb := fb.below (below_grown hg) fb.lt
      replace ht1 := ht1.below (below_grown hg)
      replace yy := grown_trans yy hg
      replace h31 := h31.below (below_grown hg)
      replace h41 := h41.below (below_grown hg)
      clear hg HQ
      have q0 := x0.cell (i := 0) rfl
      have q1 := x0.cell (i := 1) rfl
      have q2 := x0.cell (i := 2) rfl
      have q3 := x0.cell (i := 3) rfl
      have q4 := x0.cell (i := 4) rfl
      have q5 := x0.cell (i := 5) rfl
      have f0 := fb.cell (i := 0) rfl
      have f1 := fb.cell (i := 1) rfl
      have f2 := fb.cell (i := 2) rfl
      have f3 := fb.cell (i := 3) rfl
      have f4 := fb.cell (i := 4) rfl
      simp only [eF]
      have he : Hid (TG = bF) := by show _ = _; rw [hf2.out, decide_eq_false hzB, decide_eq_true hzC]; simp
      go_wp2_with fail
      go_ret
      exact ⟨ret_bool he.out.symm, yy⟩
    · skip
      have hz' : ((ne : Int) == 0) = false := by simpa using hzC
      have HQ := hasC F hp wElse w4 ht1
      simp only [Fm.val, wName, wMod, wBody, wElse, wCall] at HQ
      go_wp2_with fail
      refine HQ.mono ?_
      rintro e w5 ⟨rfl, hg⟩
      clear q0 q1 q2 q3 q4 q5 f0 f1 f2 f3 f4
      replace x0 := x0.below (below_grown hg) x0.lt
      replace fb := fb.below (below_grown hg) fb.lt
      replace ht1 := ht1.below (below_grown hg)
      replace yy := grown_trans yy hg
      replace h31 := h31.below (below_grown hg)
      replace h41 := h41.below (below_grown hg)
      clear hg HQ
      have q0 := x0.cell (i := 0) rfl
      have q1 := x0.cell (i := 1) rfl
      have q2 := x0.cell (i := 2) rfl
      have q3 := x0.cell (i := 3) rfl
      have q4 := x0.cell (i := 4) rfl
      have q5 := x0.cell (i := 5) rfl
      have f0 := fb.cell (i := 0) rfl
      have f1 := fb.cell (i := 1) rfl
      have f2 := fb.cell (i := 2) rfl
      have f3 := fb.cell (i := 3) rfl
      have f4 := fb.cell (i := 4) rfl
      simp only [show ([101, 108, 115, 101] : List UInt8) = wElse from rfl, eC]
      cases bC
      · skip
        have he : Hid (TG = false) := by show _ = _; rw [hf2.out, decide_eq_false hzB, decide_eq_false hzC]; simp
        go_wp2_with fail
        go_ret
        exact ⟨ret_bool he.out.symm, yy⟩
      have HQ := hasKindC 7 ks a3 c3 w5 h41
      skip
      go_wp2_with fail
      refine HQ.mono ?_
      rintro e w6 ⟨rfl, hg⟩
      clear q0 q1 q2 q3 q4 q5 f0 f1 f2 f3 f4
      replace x0 := x0.below (below_grown hg) x0.lt
      replace fb := fb.below (below_grown hg) fb.lt
      replace ht1 := ht1.below (below_grown hg)
      replace yy := grown_trans yy hg
      replace h31 := h31.below (below_grown hg)
      replace h41 := h41.below (below_grown hg)
      clear hg HQ
      have q0 := x0.cell (i := 0) rfl
      have q1 := x0.cell (i := 1) rfl
      have q2 := x0.cell (i := 2) rfl
      have q3 := x0.cell (i := 3) rfl
      have q4 := x0.cell (i := 4) rfl
      have q5 := x0.cell (i := 5) rfl
      have f0 := fb.cell (i := 0) rfl
      have f1 := fb.cell (i := 1) rfl
      have f2 := fb.cell (i := 2) rfl
      have f3 := fb.cell (i := 3) rfl
      have f4 := fb.cell (i := 4) rfl
      simp only [eD]
      cases bD
      rotate_left
      · skip
        have he : Hid (TG = false) := by show _ = _; rw [hf2.out, decide_eq_false hzB, decide_eq_false hzC]; simp
        go_wp2_with fail
        go_ret
        exact ⟨ret_bool he.out.symm, yy⟩
      have HQ := hasC F hp wCall w6 ht1
      simp only [Fm.val, wName, wMod, wBody, wElse, wCall] at HQ
      go_wp2_with fail
      refine HQ.mono ?_
      rintro e w7 ⟨rfl, hg⟩
      clear q0 q1 q2 q3 q4 q5 f0 f1 f2 f3 f4
      replace x0 := x0.below (below_grown hg) x0.lt
      replace fb := fb.below (below_grown hg) fb.lt
      replace ht1 := ht1.below (below_grown hg)
      replace yy := grown_trans yy hg
      replace h31 := h31.below (below_grown hg)
      replace h41 := h41.below (below_grown hg)
      clear hg HQ
      have q0 := x0.cell (i := 0) rfl
      have q1 := x0.cell (i := 1) rfl
      have q2 := x0.cell (i := 2) rfl
      have q3 := x0.cell (i := 3) rfl
      have q4 := x0.cell (i := 4) rfl
      have q5 := x0.cell (i := 5) rfl
      have f0 := fb.cell (i := 0) rfl
      have f1 := fb.cell (i := 1) rfl
      have f2 := fb.cell (i := 2) rfl
      have f3 := fb.cell (i := 3) rfl
      have f4 := fb.cell (i := 4) rfl
      simp only [show ([99, 97, 108, 108] : List UInt8) = wCall from rfl, eE]
      cases bE
      · skip
        have he : Hid (TG = true) := by show _ = _; rw [hf2.out, decide_eq_false hzB, decide_eq_false hzC]; simp
        go_wp2_with fail
        go_ret
        exact ⟨ret_bool he.out.symm, yy⟩
      have HQ := hasKindC 6 ks a3 c3 w7 h41
      skip
      go_wp2_with fail
      refine HQ.mono ?_
      rintro e w8 ⟨rfl, hg⟩
      clear q0 q1 q2 q3 q4 q5 f0 f1 f2 f3 f4
      replace x0 := x0.below (below_grown hg) x0.lt
      replace fb := fb.below (below_grown hg) fb.lt
      replace ht1 := ht1.below (below_grown hg)
      replace yy := grown_trans yy hg
      replace h31 := h31.below (below_grown hg)
      replace h41 := h41.below (below_grown hg)
      clear hg HQ
      have q0 := x0.cell (i := 0) rfl
      have q1 := x0.cell (i := 1) rfl
      have q2 := x0.cell (i := 2) rfl
      have q3 := x0.cell (i := 3) rfl
      have q4 := x0.cell (i := 4) rfl
      have q5 := x0.cell (i := 5) rfl
      have f0 := fb.cell (i := 0) rfl
      have f1 := fb.cell (i := 1) rfl
      have f2 := fb.cell (i := 2) rfl
      have f3 := fb.cell (i := 3) rfl
      have f4 := fb.cell (i := 4) rfl
      simp only [eF]
      have he : Hid (TG = bF) := by show _ = _; rw [hf2.out, decide_eq_false hzB, decide_eq_false hzC]; simp
      go_wp2_with fail
      go_ret
      exact ⟨ret_bool he.out.symm, yy⟩

end Go.Proofs.YtajnfknldofjlaaGreatDoor

/- Modules but for how long the text is: what the specification tells. -/
import Derived.Test.YtopnodadggohiaaGreatDoorSpSts
import Derived.Test.YtopnodadggohiaaGreatDoorSpOkPure
namespace Go.Proofs.YtopnodadggohiaaGreatDoor
open Go.RowKit
set_option linter.unusedVariables false
set_option linter.unusedSimpArgs false
set_option maxRecDepth 100000

set_option maxHeartbeats 40000000 in
theorem specOk (m : Mo) (vs : List Value) (w : World) (hr : RdVals w m.fl vs) (hs : recLen m.fl ≤ 1048576) :
  Calls Tryz.prog 60 #[agg vs] w fun e w' => e = .returned (.bool (formed m)) ∧ w.grownBy w' none := by
 have es9 : recLen m.fl = m.name.length + ((txts m.uses).length + rowsLen (txts m.uses)) + ((m.vars.map Va.fl).length + rowsLen (m.vars.map Va.fl)) + ((m.procs.map Pr.fl).length + rowsLen (m.procs.map Pr.fl)) := by simp [Mo.fl, recLen, Fl.len] <;> omega
 rw [es9] at hs
 have hs0 : m.name.length ≤ 1048576 := by omega
 have hs1 : rowsLen (txts m.uses) ≤ 1048576 := by omega
 have hs2 : rowsLen (m.vars.map Va.fl) ≤ 1048576 := by omega
 have hs3 : rowsLen (m.procs.map Pr.fl) ≤ 1048576 := by omega
 clear hs es9
 unfold Mo.fl at hr
 obtain ⟨y0, _, rfl, ⟨a0, c0, rfl, h0, hc0, _⟩, y1, _, rfl, h1', y2, _, rfl, h2', y3, _, rfl, h3', rfl⟩ := hr
 obtain ⟨a1, c1, rfl, h1⟩ := h1'.list
 obtain ⟨a2, c2, rfl, h2⟩ := h2'.list
 obtain ⟨a3, c3, rfl, h3⟩ := h3'.list
 clear h1' h2' h3'
 have k1 : (txts m.uses).length = m.uses.length := by simp [txts]
 have k2 : (m.vars.map Va.fl).length = m.vars.length := by simp
 have k3 : (m.procs.map Pr.fl).length = m.procs.length := by simp
 have m1 : m.uses.length ≤ 9223372036854775807 := by have h7 := h1.cap; have h6 := h1.most; unfold maxLen at h6; omega
 have m2 : m.vars.length ≤ 9223372036854775807 := by have h7 := h2.cap; have h6 := h2.most; unfold maxLen at h6; omega
 have m3 : m.procs.length ≤ 9223372036854775807 := by have h7 := h3.cap; have h6 := h3.most; unfold maxLen at h6; omega
 rw [k1, k2, k3]
 simp only [agg]
 obtain ⟨n0, e0⟩ : ∃ z, z = m.name.length := ⟨_, rfl⟩
 obtain ⟨n1, e1⟩ : ∃ z, z = m.uses.length := ⟨_, rfl⟩
 obtain ⟨n2, e2⟩ : ∃ z, z = m.vars.length := ⟨_, rfl⟩
 obtain ⟨n3, e3⟩ : ∃ z, z = m.procs.length := ⟨_, rfl⟩
 rw [← e0] at h0 hs0 hc0 ⊢
 rw [← e1] at k1 m1 ⊢
 rw [← e2] at k2 m2 ⊢
 rw [← e3] at k3 m3 ⊢
 have E1 : Hid (m.uses.length = n1) := e1.symm
 have E2 : Hid (m.vars.length = n2) := e2.symm
 have E3 : Hid (m.procs.length = n3) := e3.symm
 clear e0 e1 e2 e3
 have yy := grown_alloc w (.cells #[.slice a0 n0 c0, .slice a1 n1 c1, .slice a2 n2 c2, .slice a3 n3 c3] 36 (0, 0)) none
 have x0 := Blk.new w 36 [.slice a0 n0 c0, .slice a1 n1 c1, .slice a2 n2 c2, .slice a3 n3 c3]
 have HN := specNameOk a0 _ c0 m.name true _ (h0.below (below_grown yy)) (by omega)
 have H1 : Hid (LRow w a1 c1 1 (txts m.uses)) := h1
 have H2 : Hid (LRow w a2 c2 2 (m.vars.map Va.fl)) := h2
 have H3 : Hid (LRow w a3 c3 5 (m.procs.map Pr.fl)) := h3
 clear h0 h1 h2 h3 hc0
 go_enter Tryz.func60, Tryz.ntmps60
 go_upto_region 1 with fail
 generalize w.alloc (.cells #[.slice a0 n0 c0, .slice a1 n1 c1, .slice a2 n2 c2, .slice a3 n3 c3] 36 (0, 0)) = w1 at *
 obtain ⟨gx, hgx⟩ : ∃ z, z = w.heap.size := ⟨_, rfl⟩
 rw [← hgx] at x0 ⊢
 have HGX : Hid (gx = w.heap.size) := hgx
 clear hgx
 obtain ⟨q0, q1, q2, q3⟩ := x0.c4
 generalize hno : nameOk m.name true = ok at HN
 have HNO : Hid (nameOk m.name true = ok) := hno
 clear hno
 go_wp2_with fail
 refine HN.mono ?_
 rintro e w1 ⟨rfl, rfl⟩
 clear HN
 cases ok
 ·
  have he : Hid (formed m = false) := formed_name HNO.out
  go_wp2_with fail
  go_ret
  exact ⟨ret_bool he.out.symm, yy⟩
 by_cases l1 : (6 : Int) < (n1 : Int)
 ·
  have he : Hid (formed m = false) := formed_uses (by rw [E1.out]; omega)
  go_wp2_with fail
  go_ret
  exact ⟨ret_bool he.out.symm, yy⟩
 by_cases l2 : (8 : Int) < (n2 : Int)
 ·
  have he : Hid (formed m = false) := formed_vars (by rw [E2.out]; omega)
  go_wp2_with fail
  go_ret
  exact ⟨ret_bool he.out.symm, yy⟩
 by_cases l3 : (8 : Int) < (n3 : Int)
 ·
  have he : Hid (formed m = false) := formed_procs (by rw [E3.out]; omega)
  go_wp2_with fail
  go_ret
  exact ⟨ret_bool he.out.symm, yy⟩
 go_wp2_with fail
 have HX0 : Hid (Blk w1 gx 36 [.slice a0 n0 c0, .slice a1 n1 c1, .slice a2 n2 c2, .slice a3 n3 c3]) := x0
 have HY : Hid (w.grownBy w1 none) := yy
 clear q0 q1 q2 q3 x0 yy
 go_loopw [3] (fun i wr => wr = w1 ∧ ∃ j : Nat, j ≤ n1 ∧ i = .int .i64 j ∧ Hid (∀ (i : Nat) (x : List Int), i < j → m.uses[i]? = some x → nameOk x true = true)) (fun i _ => n1 - (intOf i).toNat)
 case atStart => exact ⟨rfl, 0, Nat.zero_le _, rfl, by show ∀ _ _, _; omega⟩
 case round =>
  obtain ⟨rfl, j, hj, rfl, hyes⟩ := hrel
  have q1 := Blk.cell HX0.out (i := 1) rfl
  by_cases hlt : j < n1
  ·
   obtain ⟨b, o, rfl⟩ := LRow.addr H1.out (by rw [k1]; omega)
   obtain ⟨x, hx⟩ : ∃ x, m.uses[j]? = some x := ⟨m.uses[j]'(by rw [E1.out]; exact hlt), List.getElem?_eq_getElem _⟩
   have hxj : (txts m.uses)[j]? = some [.b x] := by unfold txts; rw [List.getElem?_map, hx]; rfl
   obtain ⟨us, hvs, hcl⟩ := ((LRow.below H1.out (below_grown HY.out)).el hxj).vals
   obtain ⟨y0, _, rfl, ⟨ax, cx, rfl, hbx, _⟩, rfl⟩ := hvs
   have t0 : wr.cell? ⟨b, o + j * 1, none⟩ = some (.slice ax x.length cx) := hcl 0 _ rfl
   have hsx : recLen [.b x] ≤ 1048576 := Nat.le_trans (recLen_le (List.mem_of_getElem? hxj)) hs1
   have HC := specNameOk ax x.length cx x true wr hbx (by simp [recLen, Fl.len] at hsx; omega)
   have HJ : Hid (m.uses[j]? = some x) := hx
   clear hcl hx hxj hsx hbx
   generalize hno : nameOk x true = ok at HC
   have HOK : Hid (nameOk x true = ok) := hno
   clear hno
   generalize x.length = nx at *
   simp only [Nat.mul_one] at t0
   go_wp2_with fail
   refine HC.mono ?_
   rintro e wr ⟨rfl, rfl⟩
   clear HC
   cases ok
   ·
    have he : Hid (formed m = false) := formed_use HJ.out HOK.out
    go_wp2_with fail
    go_ret
    exact ⟨ret_bool he.out.symm, HY.out⟩
   ·
    go_wp2_with fail
    go_roundw
    case rel => exact ⟨trivial, j + 1, by omega, by go_num, (show ∀ (i : Nat) (x : List Int), i < j + 1 → _ from fun i y hi hy => (Nat.lt_or_ge i j).elim (fun h => hyes.out i y h hy) (fun h => by
     obtain rfl : i = j := by omega
     rw [HJ.out] at hy
     cases hy
     exact HOK.out))⟩
    case measure => simp [intOf]; omega
  ·
   have : n1 = j := by omega
   subst this
   have HU : Hid (∀ (i : Nat) (x : List Int), m.uses[i]? = some x → nameOk x true = true) := fun i y hy => hyes.out i y (by have := (List.getElem?_eq_some_iff.1 hy).1; rw [E1.out] at this; exact this) hy
   clear hyes
   go_wp2_with fail
   clear q1
   go_loopw [4] (fun i wr' => wr' = wr ∧ ∃ j : Nat, j ≤ n2 ∧ i = .int .i64 j ∧ Hid (∀ (i : Nat) (x : Va), i < j → m.vars[i]? = some x → vaOk x = true)) (fun i _ => n2 - (intOf i).toNat)
   case atStart => exact ⟨rfl, 0, Nat.zero_le _, rfl, by show ∀ _ _, _; omega⟩
   case round =>
    obtain ⟨rfl, j, hj, rfl, hyes⟩ := hrel
    have q2 := Blk.cell HX0.out (i := 2) rfl
    by_cases hlt : j < n2
    ·
     obtain ⟨b, o, rfl⟩ := LRow.addr H2.out (by rw [k2]; omega)
     obtain ⟨x, hx⟩ : ∃ x, m.vars[j]? = some x := ⟨m.vars[j]'(by rw [E2.out]; exact hlt), List.getElem?_eq_getElem _⟩
     have hxj : (m.vars.map Va.fl)[j]? = some x.fl := by rw [List.getElem?_map, hx]; rfl
     obtain ⟨us, hvs, hcl⟩ := ((LRow.below H2.out (below_grown HY.out)).el hxj).vals
     obtain ⟨y0, _, rfl, ⟨ax, cx, rfl, hbx, _⟩, y1, _, rfl, rfl, rfl⟩ := hvs
     have t0 : wr.cell? ⟨b, o + j * 2, none⟩ = some (.slice ax x.name.length cx) := hcl 0 _ rfl
     have t1 : wr.cell? ⟨b, o + j * 2 + 1, none⟩ = some (.int .i64 x.size) := hcl 1 _ rfl
     have hsx : recLen x.fl ≤ 1048576 := Nat.le_trans (recLen_le (List.mem_of_getElem? hxj)) hs2
     have HC := specNameOk ax x.name.length cx x.name false wr hbx (by simp [Va.fl, recLen, Fl.len] at hsx; omega)
     have HJ : Hid (m.vars[j]? = some x) := hx
     clear hcl hx hxj hsx hbx
     generalize hno : nameOk x.name false = ok at HC
     have HOK : Hid (nameOk x.name false = ok) := hno
     clear hno
     generalize x.name.length = nx at *
     obtain ⟨sz, hsz⟩ : ∃ z, z = x.size := ⟨_, rfl⟩
     rw [← hsz] at t1
     have HSZ : Hid (x.size = sz) := hsz.symm
     clear hsz
     go_wp2_with fail
     refine HC.mono ?_
     rintro e wr ⟨rfl, rfl⟩
     clear HC
     cases ok
     ·
      have he : Hid (formed m = false) := formed_var HJ.out (vaOk_name HOK.out)
      go_wp2_with fail
      go_ret
      exact ⟨ret_bool he.out.symm, HY.out⟩
     by_cases z0 : sz < 0
     ·
      have he : Hid (formed m = false) := formed_var HJ.out (vaOk_size (.inl (by rw [HSZ.out]; exact z0)))
      go_wp2_with fail
      go_ret
      exact ⟨ret_bool he.out.symm, HY.out⟩
     by_cases z1 : 20 < sz
     ·
      have he : Hid (formed m = false) := formed_var HJ.out (vaOk_size (.inr (by rw [HSZ.out]; exact z1)))
      go_wp2_with fail
      go_ret
      exact ⟨ret_bool he.out.symm, HY.out⟩
     have HV : Hid (vaOk x = true) := vaOk_yes HOK.out (by rw [HSZ.out]; omega) (by rw [HSZ.out]; omega)
     go_wp2_with fail
     go_roundw
     case rel => exact ⟨trivial, j + 1, by omega, by go_num, (show ∀ (i : Nat) (x : Va), i < j + 1 → _ from fun i y hi hy => (Nat.lt_or_ge i j).elim (fun h => hyes.out i y h hy) (fun h => by
      obtain rfl : i = j := by omega
      rw [HJ.out] at hy
      cases hy
      exact HV.out))⟩
     case measure => simp [intOf]; omega
    ·
     have : n2 = j := by omega
     subst this
     have HVA : Hid (∀ (i : Nat) (x : Va), m.vars[i]? = some x → vaOk x = true) := fun i y hy => hyes.out i y (by have := (List.getElem?_eq_some_iff.1 hy).1; rw [E2.out] at this; exact this) hy
     clear hyes
     have hL : Lft (wr.alloc (.cells #[.int .i64 250] 3 (0, 0))) wr.heap.size 250 := Blk.new wr 3 [.int .i64 250]
     have hb : Below w.heap.size w (wr.alloc (.cells #[.int .i64 250] 3 (0, 0))) := (below_grown HY.out).alloc HY.out.size _
     have hgx : gx ≠ wr.heap.size := by have := Blk.lt HX0.out; omega
     have x0 := Blk.old HX0.out (o := .cells #[.int .i64 250] 3 (0, 0))
     have hwg : w.heap.size ≤ wr.heap.size := HY.out.size
     go_upto_region 14 with fail
     generalize wr.alloc (.cells #[.int .i64 250] 3 (0, 0)) = w2 at *
     generalize wr.heap.size = g at *
     have HXP : Hid (Blk w2 gx 36 [.slice a0 n0 c0, .slice a1 n1 c1, .slice a2 n2 c2, .slice a3 n3 c3]) := x0
     have HB : Hid (Below w.heap.size w w2) := hb
     have HL : Hid (Lft w2 g (250 - (ndPrs (m.procs.take 0) : Int))) := by show Lft _ _ _; simpa [ndPrs] using hL
     clear HX0 HY x0 hb hL q2
     go_wp2_with fail
     go_loopw [6, 7, 8, 9] (fun i _ _ _ wr => ∃ j : Nat, j ≤ n3 ∧ i = .int .i64 j ∧ Hid (w2.grownBy wr (some g)) ∧ Hid (Lft wr g (250 - (ndPrs (m.procs.take j) : Int))) ∧ Hid ((ndPrs (m.procs.take j) : Int) ≤ 250) ∧ Hid (∀ (i : Nat) (x : Pr), i < j → m.procs[i]? = some x → fitSts x.body 1 (250 - (ndPrs (m.procs.take i) : Int)) = true ∧ hdOk x = true)) (fun i _ _ _ _ => n3 - (intOf i).toNat)
     case atStart => exact ⟨0, Nat.zero_le _, rfl, grown_refl _ _, HL, by show (_ : Int) ≤ _; simp [ndPrs], by show ∀ _ _, _; omega⟩
     case round =>
      obtain ⟨j, hj, rfl, hgr, hLj, hnj, hyes⟩ := hrel
      clear HL
      have q3 := (Blk.grown HXP.out hgr.out hgx).cell (i := 3) rfl
      have hb := below_at HB.out hgr.out hwg
      by_cases hlt : j < n3
      ·
       obtain ⟨b, o, rfl⟩ := LRow.addr H3.out (by rw [k3]; omega)
       obtain ⟨x, hx⟩ : ∃ x, m.procs[j]? = some x := ⟨m.procs[j]'(by rw [E3.out]; exact hlt), List.getElem?_eq_getElem _⟩
       have hxj : (m.procs.map Pr.fl)[j]? = some x.fl := by rw [List.getElem?_map, hx]; rfl
       have hsx : recLen x.fl ≤ 1048576 := Nat.le_trans (recLen_le (List.mem_of_getElem? hxj)) hs3
       have es9 : recLen x.fl = x.name.length + ((x.params.map Pa.fl).length + rowsLen (x.params.map Pa.fl)) + ((txts x.locals).length + rowsLen (txts x.locals)) + ((sts x.body).length + rowsLen (sts x.body)) := by simp [Pr.fl, recLen, Fl.len] <;> omega
       rw [es9] at hsx
       have s0 : x.name.length ≤ 1048576 := by omega
       have s2 : rowsLen (x.params.map Pa.fl) ≤ 1048576 := by omega
       have s3 : rowsLen (txts x.locals) ≤ 1048576 := by omega
       have s4 : rowsLen (sts x.body) ≤ 1048576 := by omega
       clear hsx es9
       obtain ⟨us, hvs, hcl⟩ := (LRow.el H3.out hxj).vals
       replace hcl : ∀ i v, _ → _ := fun i v hv => cell_on (hcl i v hv) hb
       unfold Pr.fl at hvs
       obtain ⟨y0, _, rfl, ⟨p0, d0, rfl, g0, _⟩, y1, _, rfl, rfl, y2, _, rfl, g2', y3, _, rfl, g3', y4, _, rfl, g4', rfl⟩ := hvs
       obtain ⟨p2, d2, rfl, g2⟩ := g2'.list
       obtain ⟨p3, d3, rfl, g3⟩ := g3'.list
       obtain ⟨p4, d4, rfl, g4⟩ := g4'.list
       clear g2' g3' g4'
       have j2 : (x.params.map Pa.fl).length = x.params.length := by simp
       have j3 : (txts x.locals).length = x.locals.length := by simp [txts]
       have j4 : (sts x.body).length = x.body.length := by simp [sts_map]
       have b2 : x.params.length ≤ 9223372036854775807 := by have h7 := g2.cap; have h6 := g2.most; unfold maxLen at h6; omega
       have b3 : x.locals.length ≤ 9223372036854775807 := by have h7 := g3.cap; have h6 := g3.most; unfold maxLen at h6; omega
       rw [j2, j3, j4] at hcl
       generalize x.opn = bo at hcl
       have t0 : wr.cell? ⟨b, o + j * 5, none⟩ = some (.slice p0 x.name.length d0) := hcl 0 _ rfl
       have t1 : wr.cell? ⟨b, o + j * 5 + 1, none⟩ = some (.bool bo) := hcl 1 _ rfl
       have t2 : wr.cell? ⟨b, o + j * 5 + 2, none⟩ = some (.slice p2 x.params.length d2) := hcl 2 _ rfl
       have t3 : wr.cell? ⟨b, o + j * 5 + 3, none⟩ = some (.slice p3 x.locals.length d3) := hcl 3 _ rfl
       have t4 : wr.cell? ⟨b, o + j * 5 + 4, none⟩ = some (.slice p4 x.body.length d4) := hcl 4 _ rfl
       have HJ : Hid (m.procs[j]? = some x) := hx
       clear hcl hx hxj
       obtain ⟨v0, f0⟩ : ∃ z, z = x.name.length := ⟨_, rfl⟩
       obtain ⟨v2, f2⟩ : ∃ z, z = x.params.length := ⟨_, rfl⟩
       obtain ⟨v3, f3⟩ : ∃ z, z = x.locals.length := ⟨_, rfl⟩
       obtain ⟨v4, f4⟩ : ∃ z, z = x.body.length := ⟨_, rfl⟩
       rw [← f0] at t0 s0 g0
       rw [← f2] at t2 j2 b2
       rw [← f3] at t3 j3 b3
       rw [← f4] at t4 j4
       have F2 : Hid (x.params.length = v2) := f2.symm
       have F3 : Hid (x.locals.length = v3) := f3.symm
       have F4 : Hid (x.body.length = v4) := f4.symm
       clear f0 f2 f3 f4
       have hgl := Blk.lt hLj.out
       have yp := grown_alloc wr (.cells #[.slice p0 v0 d0, .bool bo, .slice p2 v2 d2, .slice p3 v3 d3, .slice p4 v4 d4] 62 (0, 0)) (some g)
       have xp := Blk.new wr 62 [.slice p0 v0 d0, .bool bo, .slice p2 v2 d2, .slice p3 v3 d3, .slice p4 v4 d4]
       have hL3 : Lft _ g _ := Blk.old hLj.out (o := .cells #[.slice p0 v0 d0, .bool bo, .slice p2 v2 d2, .slice p3 v3 d3, .slice p4 v4 d4] 62 (0, 0))
       go_upto_region 18 with fail
       generalize wr.alloc (.cells #[.slice p0 v0 d0, .bool bo, .slice p2 v2 d2, .slice p3 v3 d3, .slice p4 v4 d4] 62 (0, 0)) = w3 at *
       obtain ⟨gp, hgp⟩ : ∃ z, z = wr.heap.size := ⟨_, rfl⟩
       rw [← hgp] at xp ⊢
       have hgpg : gp ≠ g := by omega
       clear hgp hgl
       have HG3 : Hid (w2.grownBy w3 (some g)) := grown_trans hgr.out yp
       have hb3 := below_at hb yp hwg
       have HB3 : Hid (Below w.heap.size w w3) := hb3
       have HN := specNameOk p0 v0 d0 x.name false w3 (g0.below hb3) (by omega)
       have HC := spStsT x.body w w3 p4 d4 g (250 - (ndPrs (m.procs.take j) : Int)) 1 g4 hb3 hwg hL3 (by have := hnj.out; omega) (by omega) (by omega) (by omega) s4
       rw [F4.out] at HC
       have HP2 : Hid (LRow w p2 d2 2 (x.params.map Pa.fl)) := g2
       have HP3 : Hid (LRow w p3 d3 1 (txts x.locals)) := g3
       have HXB : Hid (Blk w3 gp 62 [.slice p0 v0 d0, .bool bo, .slice p2 v2 d2, .slice p3 v3 d3, .slice p4 v4 d4]) := xp
       have HNX : Hid (ndPrs (m.procs.take (j + 1)) = ndPrs (m.procs.take j) + ndSts x.body) := ndPrs_next HJ.out
       have r0 := xp.cell (i := 0) rfl
       have r2 := xp.cell (i := 2) rfl
       have r3 := xp.cell (i := 3) rfl
       have r4 := xp.cell (i := 4) rfl
       clear t0 t1 t2 t3 t4 q3 hb hb3 xp yp hL3 g0 g2 g3 g4
       generalize hno : nameOk x.name false = ok at HN
       have HOK : Hid (nameOk x.name false = ok) := hno
       clear hno
       generalize hft : fitSts x.body 1 (250 - (ndPrs (m.procs.take j) : Int)) = ft at HC
       have HFT : Hid (fitSts x.body 1 (250 - (ndPrs (m.procs.take j) : Int)) = ft) := hft
       clear hft
       go_wp2_with fail
       refine HN.mono ?_
       rintro e w3 ⟨rfl, rfl⟩
       clear HN
       cases ok
       ·
        have he : Hid (formed m = false) := formed_head HJ.out (hdOk_name HOK.out)
        go_wp2_with fail
        go_ret
        exact ⟨ret_bool he.out.symm, grown_below HB3.out none⟩
       by_cases y2 : (4 : Int) < (v2 : Int)
       ·
        have he : Hid (formed m = false) := formed_head HJ.out (hdOk_params (by rw [F2.out]; omega))
        go_wp2_with fail
        go_ret
        exact ⟨ret_bool he.out.symm, grown_below HB3.out none⟩
       by_cases y3 : (8 : Int) < (v3 : Int)
       ·
        have he : Hid (formed m = false) := formed_head HJ.out (hdOk_locals (by rw [F3.out]; omega))
        go_wp2_with fail
        go_ret
        exact ⟨ret_bool he.out.symm, grown_below HB3.out none⟩
       go_wp2_with fail
       refine HC.mono ?_
       rintro e w4 ⟨rfl, hg4, hL4⟩
       have HG4 : Hid (w2.grownBy w4 (some g)) := grown_trans HG3.out hg4
       have HB4 : Hid (Below w.heap.size w w4) := below_at HB3.out hg4 hwg
       have HX4 : Hid (Blk w4 gp 62 [.slice p0 v0 d0, .bool bo, .slice p2 v2 d2, .slice p3 v3 d3, .slice p4 v4 d4]) := Blk.grown HXB.out hg4 hgpg
       have HL4 : Hid (ft = true → Lft w4 g (250 - (ndPrs (m.procs.take j) : Int) - (ndSts x.body : Int))) := hL4
       clear HC r0 r2 r3 r4 HXB hg4 hL4
       cases ft
       ·
        have he : Hid (formed m = false) := formed_body HJ.out HFT.out
        go_wp2_with fail
        go_ret
        exact ⟨ret_bool he.out.symm, grown_below HB4.out none⟩
       have hle := fitSts_le HFT.out
       have HL5 : Hid (Lft w4 g (250 - (ndPrs (m.procs.take (j + 1)) : Int))) := by
        have := HL4.out rfl
        rw [show (250 : Int) - (ndPrs (m.procs.take j) : Int) - (ndSts x.body : Int) = 250 - (ndPrs (m.procs.take (j + 1)) : Int) by rw [HNX.out]; omega] at this
        exact this
       go_wp2_with fail
       go_loopw [8] (fun i wr => wr = w4 ∧ ∃ k : Nat, k ≤ v2 ∧ i = .int .i64 k ∧ Hid (∀ (i : Nat) (y : Pa), i < k → x.params[i]? = some y → nameOk y.name false = true)) (fun i _ => v2 - (intOf i).toNat)
       case atStart => exact ⟨rfl, 0, Nat.zero_le _, rfl, by show ∀ _ _, _; omega⟩
       case round =>
        obtain ⟨rfl, k, hk, rfl, hye2⟩ := hrel
        have r2 := Blk.cell HX4.out (i := 2) rfl
        by_cases hl2 : k < v2
        ·
         obtain ⟨b', o', rfl⟩ := LRow.addr HP2.out (by rw [j2]; omega)
         obtain ⟨y, hy⟩ : ∃ y, x.params[k]? = some y := ⟨x.params[k]'(by rw [F2.out]; exact hl2), List.getElem?_eq_getElem _⟩
         have hyj : (x.params.map Pa.fl)[k]? = some y.fl := by rw [List.getElem?_map, hy]; rfl
         obtain ⟨us, hvs, hcl⟩ := ((LRow.below HP2.out HB4.out).el hyj).vals
         obtain ⟨z0, _, rfl, ⟨ax, cx, rfl, hbx, _⟩, z1, _, rfl, rfl, rfl⟩ := hvs
         have t0 : wr.cell? ⟨b', o' + k * 2, none⟩ = some (.slice ax y.name.length cx) := hcl 0 _ rfl
         have hsx : recLen y.fl ≤ 1048576 := Nat.le_trans (recLen_le (List.mem_of_getElem? hyj)) s2
         have HC := specNameOk ax y.name.length cx y.name false wr hbx (by simp [Pa.fl, recLen, Fl.len] at hsx; omega)
         have HK : Hid (x.params[k]? = some y) := hy
         clear hcl hy hyj hsx hbx
         generalize hno : nameOk y.name false = ok at HC
         have HO2 : Hid (nameOk y.name false = ok) := hno
         clear hno
         generalize y.name.length = ny at *
         go_wp2_with fail
         refine HC.mono ?_
         rintro e wr ⟨rfl, rfl⟩
         clear HC
         cases ok
         ·
          have he : Hid (formed m = false) := formed_head HJ.out (hdOk_param HK.out HO2.out)
          go_wp2_with fail
          go_ret
          exact ⟨ret_bool he.out.symm, grown_below HB4.out none⟩
         ·
          go_wp2_with fail
          go_roundw
          case rel => exact ⟨trivial, k + 1, by omega, by go_num, (show ∀ (i : Nat) (y : Pa), i < k + 1 → _ from fun i u hi hu => (Nat.lt_or_ge i k).elim (fun h => hye2.out i u h hu) (fun h => by
           obtain rfl : i = k := by omega
           rw [HK.out] at hu
           cases hu
           exact HO2.out))⟩
          case measure => simp [intOf]; omega
        ·
         have : v2 = k := by omega
         subst this
         have HPA : Hid (∀ (i : Nat) (y : Pa), x.params[i]? = some y → nameOk y.name false = true) := fun i y hy => hye2.out i y (by have := (List.getElem?_eq_some_iff.1 hy).1; rw [F2.out] at this; exact this) hy
         clear hye2
         go_wp2_with fail
         clear r2
         go_loopw [9] (fun i wr' => wr' = wr ∧ ∃ k : Nat, k ≤ v3 ∧ i = .int .i64 k ∧ Hid (∀ (i : Nat) (y : List Int), i < k → x.locals[i]? = some y → nameOk y false = true)) (fun i _ => v3 - (intOf i).toNat)
         case atStart => exact ⟨rfl, 0, Nat.zero_le _, rfl, by show ∀ _ _, _; omega⟩
         case round =>
          obtain ⟨rfl, k, hk, rfl, hye3⟩ := hrel
          have r3 := Blk.cell HX4.out (i := 3) rfl
          by_cases hl3 : k < v3
          ·
           obtain ⟨b', o', rfl⟩ := LRow.addr HP3.out (by rw [j3]; omega)
           obtain ⟨y, hy⟩ : ∃ y, x.locals[k]? = some y := ⟨x.locals[k]'(by rw [F3.out]; exact hl3), List.getElem?_eq_getElem _⟩
           have hyj : (txts x.locals)[k]? = some [.b y] := by unfold txts; rw [List.getElem?_map, hy]; rfl
           obtain ⟨us, hvs, hcl⟩ := ((LRow.below HP3.out HB4.out).el hyj).vals
           obtain ⟨z0, _, rfl, ⟨ax, cx, rfl, hbx, _⟩, rfl⟩ := hvs
           have t0 : wr.cell? ⟨b', o' + k * 1, none⟩ = some (.slice ax y.length cx) := hcl 0 _ rfl
           have hsx : recLen [.b y] ≤ 1048576 := Nat.le_trans (recLen_le (List.mem_of_getElem? hyj)) s3
           have HC := specNameOk ax y.length cx y false wr hbx (by simp [recLen, Fl.len] at hsx; omega)
           have HK : Hid (x.locals[k]? = some y) := hy
           clear hcl hy hyj hsx hbx
           generalize hno : nameOk y false = ok at HC
           have HO2 : Hid (nameOk y false = ok) := hno
           clear hno
           generalize y.length = ny at *
           simp only [Nat.mul_one] at t0
           go_wp2_with fail
           refine HC.mono ?_
           rintro e wr ⟨rfl, rfl⟩
           clear HC
           cases ok
           ·
            have he : Hid (formed m = false) := formed_head HJ.out (hdOk_local HK.out HO2.out)
            go_wp2_with fail
            go_ret
            exact ⟨ret_bool he.out.symm, grown_below HB4.out none⟩
           ·
            go_wp2_with fail
            go_roundw
            case rel => exact ⟨trivial, k + 1, by omega, by go_num, (show ∀ (i : Nat) (y : List Int), i < k + 1 → _ from fun i u hi hu => (Nat.lt_or_ge i k).elim (fun h => hye3.out i u h hu) (fun h => by
             obtain rfl : i = k := by omega
             rw [HK.out] at hu
             cases hu
             exact HO2.out))⟩
            case measure => simp [intOf]; omega
          ·
           have : v3 = k := by omega
           subst this
           have HLO : Hid (∀ (i : Nat) (y : List Int), x.locals[i]? = some y → nameOk y false = true) := fun i y hy => hye3.out i y (by have := (List.getElem?_eq_some_iff.1 hy).1; rw [F3.out] at this; exact this) hy
           clear hye3
           have HHD : Hid (hdOk x = true) := hdOk_yes HOK.out (by rw [F2.out]; omega) (by rw [F3.out]; omega) HPA.out HLO.out
           go_wp2_with fail
           go_roundw
           case rel => exact ⟨j + 1, by omega, by go_num, HG4, HL5, (by show (_ : Int) ≤ _; rw [HNX.out]; omega), (show ∀ (i : Nat) (x : Pr), i < j + 1 → _ from fun i u hi hu => (Nat.lt_or_ge i j).elim (fun h => hyes.out i u h hu) (fun h => by
            obtain rfl : i = j := by omega
            rw [HJ.out] at hu
            cases hu
            exact ⟨HFT.out, HHD.out⟩))⟩
           case measure => simp [intOf]; omega
      ·
       have : n3 = j := by omega
       subst this
       have he : Hid (formed m = true) := formed_yes HNO.out (by rw [E1.out]; omega) (by rw [E2.out]; omega) (by rw [E3.out]; omega) HU.out HVA.out (fun i y hy => hyes.out i y (by have := (List.getElem?_eq_some_iff.1 hy).1; rw [E3.out] at this; exact this) hy)
       go_wp2_with fail
       go_ret
       exact ⟨ret_bool he.out.symm, grown_below hb none⟩

end Go.Proofs.YtopnodadggohiaaGreatDoor

/- What the specification writes of a module. By mkspprint.py. -/
import Derived.Test.YtopnodadggohiaaGreatDoorSpBlk
import Derived.Test.YtopnodadggohiaaGreatDoorPackJ
import Derived.Test.YtopnodadggohiaaGreatDoorModImpl
import Derived.ArgAppend
import Derived.Lib.SlBytesConst
namespace Go.Proofs.YtopnodadggohiaaGreatDoor
open Go.RowKit
set_option linter.unusedVariables false
set_option linter.unusedSimpArgs false
set_option maxRecDepth 100000

theorem Sg.cellR {w0 ws w : World} {n0 base g : Nat} {T : TypeId} {vs : List Value} {B : World → Prop} {L : List Int} {v : Value} (h : Sg w0 ws n0 base (fun x => B x ∧ Blk x g T vs) w L v) {i : Nat} {u : Value} (hu : vs[i]? = some u) : w.cell? ⟨g, i, none⟩ = some u := Blk.cell (show Blk w g T vs from h.b.2) hu

theorem module_row (w : World) : BRow (w.alloc (.cells #[.int .u8 77, .int .u8 79, .int .u8 68, .int .u8 85, .int .u8 76, .int .u8 69, .int .u8 32] 5 (7, 8))) (some ⟨w.heap.size, 0, none⟩) 7 [77, 79, 68, 85, 76, 69, 32] := by
 refine ⟨rfl, by decide, fun _ => ⟨w.heap.size, 0, rfl, fun i hi => ?_⟩⟩
 rw [Nat.zero_add, World.cell?_alloc_mark]
 have : i = 0 ∨ i = 1 ∨ i = 2 ∨ i = 3 ∨ i = 4 ∨ i = 5 ∨ i = 6 := by omega
 rcases this with rfl | rfl | rfl | rfl | rfl | rfl | rfl <;> rfl

/-- A parameter, with the blank ahead. -/
def saP (a : Pa) : List Int := (if a.arr then [32, 64] else []) ++ [32] ++ a.name
theorem pa_sw (a : Pa) : Sw (prPa a) (saP a) := by
 obtain ⟨n, r⟩ := a
 cases r <;> simp [Sw, prPa, saP]
theorem pas_sw (l : List Pa) : Sw (joinI [44, 32] (l.map prPa)) (joinI [32, 44] (l.map saP)) := by
 refine join_sw _ _ (by simp) (fun i t s ht hs => ?_)
 rw [List.getElem?_map] at ht hs
 cases hx : l[i]? with
 | none => rw [hx] at ht; cases ht
 | some x =>
  rw [hx] at ht hs
  simp only [Option.map_some, Option.some.injEq] at ht hs
  subst ht hs
  exact pa_sw x
theorem proc_say (q : Pr) : prProc q = [80, 82, 79, 67, 32] ++ q.name ++ (if q.opn then [32, 42] else []) ++ [32, 40] ++ joinI [32, 44] (q.params.map saP) ++ [32, 41, 32, 59, 10] ++ q.locals.flatMap prLocal ++ [66, 69, 71, 73, 78, 10] ++ prB q.body ++ [69, 78, 68, 32, 59, 10] := by
 have h := pas_sw q.params
 unfold Sw at h
 unfold prProc
 generalize joinI [44, 32] (q.params.map prPa) = jt at *
 generalize joinI [32, 44] (q.params.map saP) = js at *
 cases q.opn
 ·
  have e : [80, 82, 79, 67, 32] ++ (q.name ++ [32]) ++ (if false then [42, 32] else []) ++ ([40, 32] ++ jt ++ [41, 32]) ++ [59, 10] ++ q.locals.flatMap prLocal ++ [66, 69, 71, 73, 78, 10] ++ prB q.body ++ ([69, 78, 68, 32] ++ [59, 10]) = [80, 82, 79, 67, 32] ++ q.name ++ [32, 40] ++ (32 :: jt) ++ [41, 32, 59, 10] ++ q.locals.flatMap prLocal ++ [66, 69, 71, 73, 78, 10] ++ prB q.body ++ [69, 78, 68, 32, 59, 10] := by simp
  rw [show (if (false : Bool) = true then ([42, 32] : List Int) else []) = if false then [42, 32] else [] from rfl, e, h]
  simp
 ·
  have e : [80, 82, 79, 67, 32] ++ (q.name ++ [32]) ++ (if true then [42, 32] else []) ++ ([40, 32] ++ jt ++ [41, 32]) ++ [59, 10] ++ q.locals.flatMap prLocal ++ [66, 69, 71, 73, 78, 10] ++ prB q.body ++ ([69, 78, 68, 32] ++ [59, 10]) = [80, 82, 79, 67, 32] ++ q.name ++ [32, 42] ++ [32, 40] ++ (32 :: jt) ++ [41, 32, 59, 10] ++ q.locals.flatMap prLocal ++ [66, 69, 71, 73, 78, 10] ++ prB q.body ++ [69, 78, 68, 32, 59, 10] := by simp
  rw [show (if (true : Bool) = true then ([42, 32] : List Int) else []) = if true then [42, 32] else [] from rfl, e, h]
  simp

set_option maxHeartbeats 32000000 in
theorem l6printC (m : Mo) (hf : formed m = true) (w : World) (vs : List Value) (h : RdVals w m.fl vs) (hs : recLen m.fl ≤ 1048576) :
  Calls Tryz.prog 61 #[agg vs] w fun e w' => ∃ v, e = .returned v ∧ Own w' w.heap.size v (prM m).length (prM m) ∧ w.grownBy w' none := by
 obtain ⟨hnm, huok, hvok, hpok⟩ := formed_parts hf
 have hbig0 := prM_le m hs hvok (fun x hx => (hpok x hx).2)
 have HF : Hid (prM m = [77, 79, 68, 85, 76, 69, 32] ++ m.name ++ [32, 59, 10] ++ m.uses.flatMap prUse ++ m.vars.flatMap prVar ++ m.procs.flatMap prProc ++ [69, 78, 68, 32, 46, 10]) := by show _ = _; simp [prM, List.append_assoc]
 rw [HF.out] at hbig0
 simp only [List.length_append, List.length_cons, List.length_nil] at hbig0
 have e9 : recLen m.fl = m.name.length + ((txts m.uses).length + rowsLen (txts m.uses)) + ((m.vars.map Va.fl).length + rowsLen (m.vars.map Va.fl)) + ((m.procs.map Pr.fl).length + rowsLen (m.procs.map Pr.fl)) := by simp [Mo.fl, recLen, Fl.len] <;> omega
 rw [e9] at hs
 have hs0 : m.name.length ≤ 1048576 := by omega
 have hs1 : rowsLen (txts m.uses) ≤ 1048576 := by omega
 have hs2 : rowsLen (m.vars.map Va.fl) ≤ 1048576 := by omega
 have hs3 : rowsLen (m.procs.map Pr.fl) ≤ 1048576 := by omega
 clear hs e9
 obtain ⟨y0, _, rfl, ⟨a0, c0, rfl, h0, hc0, _⟩, y1, _, rfl, h1', y2, _, rfl, h2', y3, _, rfl, h3', rfl⟩ := h
 obtain ⟨a1, c1, rfl, h1⟩ := h1'.list
 obtain ⟨a2, c2, rfl, h2⟩ := h2'.list
 obtain ⟨a3, c3, rfl, h3⟩ := h3'.list
 clear h1' h2' h3'
 have k1 : (txts m.uses).length = m.uses.length := by simp [txts]
 have k2 : (m.vars.map Va.fl).length = m.vars.length := by simp
 have k3 : (m.procs.map Pr.fl).length = m.procs.length := by simp
 have z1 : m.uses.length ≤ 9223372036854775807 := by have h5 := h1.cap; have h6 := h1.most; unfold maxLen at h6; omega
 have z2 : m.vars.length ≤ 9223372036854775807 := by have h5 := h2.cap; have h6 := h2.most; unfold maxLen at h6; omega
 have z3 : m.procs.length ≤ 9223372036854775807 := by have h5 := h3.cap; have h6 := h3.most; unfold maxLen at h6; omega
 rw [k1, k2, k3]
 simp only [agg]
 obtain ⟨n0, hn0⟩ : ∃ z, z = m.name.length := ⟨_, rfl⟩
 obtain ⟨n1, hn1⟩ : ∃ z, z = m.uses.length := ⟨_, rfl⟩
 obtain ⟨n2, hn2⟩ : ∃ z, z = m.vars.length := ⟨_, rfl⟩
 obtain ⟨n3, hn3⟩ : ∃ z, z = m.procs.length := ⟨_, rfl⟩
 rw [← hn0] at h0 hc0
 rw [← hn0, ← hn1, ← hn2, ← hn3]
 rw [← hn1] at k1 z1
 rw [← hn2] at k2 z2
 rw [← hn3] at k3 z3
 have hnp : 0 < n0 := by rw [hn0]; exact name_pos hnm
 have E1 : Hid (m.uses.length = n1) := hn1.symm
 have E2 : Hid (m.vars.length = n2) := hn2.symm
 have E3 : Hid (m.procs.length = n3) := hn3.symm
 have hn0' : n0 ≤ 1048576 := by omega
 clear hn0 hn1 hn2 hn3
 have H1 : Hid (LRow w a1 c1 1 (txts m.uses)) := h1
 have H2 : Hid (LRow w a2 c2 2 (m.vars.map Va.fl)) := h2
 have H3 : Hid (LRow w a3 c3 5 (m.procs.map Pr.fl)) := h3
 have HUOK : Hid (∀ x ∈ m.uses, greatOk x = true) := huok
 have HVOK : Hid (∀ x ∈ m.vars, vaOk x = true) := hvok
 have HPRK : Hid (∀ x ∈ m.procs, hdOk x = true ∧ okSts x.body = true) := hpok
 clear h1 h2 h3 huok hvok hpok
 obtain ⟨base, hbase⟩ : ∃ z, z = w.heap.size := ⟨_, rfl⟩
 rw [← hbase]
 have x0 := Blk.new w 36 [.slice a0 n0 c0, .slice a1 n1 c1, .slice a2 n2 c2, .slice a3 n3 c3]
 have hba := (Below.refl w.heap.size w).alloc (Nat.le_refl _) (.cells #[.slice a0 n0 c0, .slice a1 n1 c1, .slice a2 n2 c2, .slice a3 n3 c3] 36 (0, 0))
 have hwa : Wr 0 base w (w.alloc (.cells #[.slice a0 n0 c0, .slice a1 n1 c1, .slice a2 n2 c2, .slice a3 n3 c3] 36 (0, 0))) := Wr.of (grown_alloc w _ none)
 have hba2 : base ≤ (w.alloc (.cells #[.slice a0 n0 c0, .slice a1 n1 c1, .slice a2 n2 c2, .slice a3 n3 c3] 36 (0, 0))).heap.size := by rw [hbase]; simp
 have hb0 : w.heap.size ≤ base := by omega
 have q0 := x0.cell (i := 0) rfl
 go_enter Tryz.func61, Tryz.ntmps61
 go_upto_region 1 with fail
 obtain ⟨gx, hgx⟩ : ∃ z, z = w.heap.size := ⟨_, rfl⟩
 rw [← hgx] at x0 q0 ⊢
 clear hgx hbase
 generalize w.alloc (.cells #[.slice a0 n0 c0, .slice a1 n1 c1, .slice a2 n2 c2, .slice a3 n3 c3] 36 (0, 0)) = w1 at *
 have kc := Lib.run_convert_bytes_const (P := Tryz.prog) w1 22 5 #[.int .u8 77, .int .u8 79, .int .u8 68, .int .u8 85, .int .u8 76, .int .u8 69, .int .u8 32] 7 7 Tryz.underlying22 Tryz.underlying5
 have hga := grown_alloc w1 (.cells #[.int .u8 77, .int .u8 79, .int .u8 68, .int .u8 85, .int .u8 76, .int .u8 69, .int .u8 32] 5 (7, 8)) none
 have hrc := module_row w1
 have x1 := x0.below (below_grown hga) x0.lt
 have q1 := x1.cell (i := 0) rfl
 have hbb := hba.trans ((below_grown hga).mono hba.size)
 have hr0 : BRow _ a0 n0 m.name := h0.below hbb
 have hr9 := hr0.2.1
 have hnl0 : m.name.length = n0 := hr0.1
 obtain ⟨an0, rfl, hcn⟩ := hr0.pos (by simp; omega)
 obtain ⟨ao, hao, hco⟩ := hrc.pos (by simp)
 cases hao
 obtain ⟨i0, hi, hz0, hz1, hz2⟩ := info_parts info5
 clear q0 hrc
 simp only [List.size_toArray, List.length_cons, List.length_nil, Nat.reduceAdd] at kc
 go_wp2_with (at_builtin; refine wpList_append_grows _ rfl _ _ 22 rfl 5 i0 (.int .u8 0) 1 1 Tryz.underlying22 hi hz0 hz1 hz2 rfl (by decide) (some ⟨w1.heap.size, 0, none⟩) 7 7 (([77, 79, 68, 85, 76, 69, 32] : List Int).map (Value.int .u8)) rfl (by simp) rfl (fun b hb => by cases hb; exact hco) an0 n0 c0 (m.name.map (Value.int .u8)) rfl (by simp [hnl0]) hcn (ints_oneCell _ _) (by omega) (by unfold maxLen; omega) (by omega) ?_)
 intro v2 w2 ho2 hg2
 have G2 : Sg w w 0 base (fun x => Blk x gx 36 [.slice (some an0) n0 c0, .slice a1 n1 c1, .slice a2 n2 c2, .slice a3 n3 c3]) w2 ([77, 79, 68, 85, 76, 69, 32] ++ m.name) v2 := by
  have hg3 := grown_trans hga hg2
  have hl : ([77, 79, 68, 85, 76, 69, 32] ++ m.name).length = 7 + n0 := by rw [List.length_append, hnl0]; rfl
  refine ⟨Own.mono (base := (w1.alloc (.cells #[.int .u8 77, .int .u8 79, .int .u8 68, .int .u8 85, .int .u8 76, .int .u8 69, .int .u8 32] 5 (7, 8))).heap.size) ⟨by rw [hl]; simpa using ho2, ?_⟩ (Nat.le_trans hba2 hga.size), x0.below (below_grown hg3) x0.lt, keep_blk (by decide), hwa.trans (Wr.of hg3), Nat.zero_le _, hba.trans ((below_grown hg3).mono hba.size), Nat.le_trans hba2 hg3.size, hb0⟩
  intro x hx
  rcases List.mem_append.1 hx with h | h
  ·
   exact (by decide : ∀ y ∈ ([77, 79, 68, 85, 76, 69, 32] : List Int), 0 ≤ y ∧ y ≤ 255) x h
  ·
   exact hr9 x h
 clear hba hwa x0 x1 q1 hbb hr0 hcn hco ho2 hg2 hga kc
 go_wp2_with (at_builtin; refine Sg.str_list G2 rfl _ _ rfl rfl ⟨#[32, 59, 10]⟩ rfl (by show _ + 3 ≤ _; (try simp only [ll]); omega) ?_)
 intro v3 w3 G3 _
 obtain ⟨PM, hPM⟩ : ∃ t, t = [77, 79, 68, 85, 76, 69, 32] ++ m.name ++ [32, 59, 10] := ⟨_, rfl⟩
 have HPM : Hid (PM = [77, 79, 68, 85, 76, 69, 32] ++ m.name ++ [32, 59, 10]) := hPM
 replace G3 : Sg w w 0 base (fun x => Blk x gx 36 [.slice (some an0) n0 c0, .slice a1 n1 c1, .slice a2 n2 c2, .slice a3 n3 c3]) w3 PM v3 := by rw [hPM]; simpa [show sI ⟨#[32, 59, 10]⟩ = [32, 59, 10] from rfl] using G3
 have hbig : PM.length + (m.uses.flatMap prUse).length + (m.vars.flatMap prVar).length + (m.procs.flatMap prProc).length + 6 ≤ 500000000 := by rw [hPM]; simp only [List.length_append, List.length_cons, List.length_nil]; omega
 clear hPM hbig0 G2
 have HG : Hid (Sg w w 0 base (fun x => Blk x gx 36 [.slice (some an0) n0 c0, .slice a1 n1 c1, .slice a2 n2 c2, .slice a3 n3 c3]) w3 (PM ++ (m.uses.take 0).flatMap prUse) v3) := by
  show Sg _ _ _ _ _ _ _ _
  simpa using G3
 clear G3
 go_wp2_with fail
 go_loopw [3, 4] (fun b i wr => ∃ j : Nat, j ≤ n1 ∧ i = .int .i64 j ∧ Hid (Sg w w 0 base (fun x => Blk x gx 36 [.slice (some an0) n0 c0, .slice a1 n1 c1, .slice a2 n2 c2, .slice a3 n3 c3]) wr (PM ++ (m.uses.take j).flatMap prUse) b)) (fun _ i _ => n1 - (intOf i).toNat)
 case atStart => exact ⟨0, Nat.zero_le _, rfl, HG⟩
 case round =>
  obtain ⟨j, hj, rfl, hGr⟩ := hrel
  have Gr := hGr.out
  clear HG hGr
  have q1 := Gr.cell (i := 1) rfl
  by_cases hlt : j < n1
  ·
   obtain ⟨b, o, rfl⟩ := LRow.addr H1.out (by rw [k1]; omega)
   obtain ⟨x, hx⟩ : ∃ x, m.uses[j]? = some x := ⟨m.uses[j]'(by rw [E1.out]; exact hlt), List.getElem?_eq_getElem _⟩
   have hxj : (txts m.uses)[j]? = some [.b x] := by unfold txts; rw [List.getElem?_map, hx]; rfl
   obtain ⟨us, hvs, hcl⟩ := (LRow.el H1.out hxj).vals
   obtain ⟨y0, _, rfl, ⟨ax, cx, rfl, hbx, _⟩, rfl⟩ := hvs
   have t0 : w.cell? ⟨b, o + j * 1, none⟩ = some (.slice ax x.length cx) := hcl 0 _ rfl
   have hsx : recLen [.b x] ≤ 1048576 := Nat.le_trans (recLen_le (List.mem_of_getElem? hxj)) hs1
   have hnx : x.length ≤ 1048576 := by simp [recLen, Fl.len] at hsx; omega
   have hnp : 0 < x.length := name_pos (HUOK.out x (List.mem_of_getElem? hx))
   have HNX : Hid ((m.uses.take (j + 1)).flatMap prUse = (m.uses.take j).flatMap prUse ++ prUse x) := flat_next hx
   have hft := flat_take prUse m.uses j
   clear hcl hx hxj hsx
   obtain ⟨nx, hnx'⟩ : ∃ z, z = x.length := ⟨_, rfl⟩
   rw [← hnx'] at t0 hnp hbx
   have hnx2 : nx ≤ 1048576 := by omega
   clear hnx'
   simp only [Nat.mul_one] at t0
   have hjn : (j : Int) < (n1 : Int) := by omega
   go_upto_region 5 with fail
   clear q1
   have G73 := Gr.drew
   refine wp_region_held_drew (S := fun wx => wx.cell? ⟨gx, 1, none⟩ = some (.slice (some ⟨b, o, none⟩) n1 c1) ∧ wx.cell? ⟨b, o + j, none⟩ = some (.slice ax nx cx)) (by kernel_rfl) ⟨G73.cell (i := 1) rfl, cell_on t0 G73.bel⟩ (fun hHeld => ?_)
   generalize wr.drew = w73 at *
   clear Gr
   refine ta 0 ?_ hHeld
   refine ta 2 ?_ hHeld
   refine ta 3 ?_ hHeld
   try simp only [nrm]
   refine ta 4 ?_ hHeld
   refine ta 5 ?_ hHeld
   refine ta 6 ?_ hHeld
   try simp only [nrm]
   refine ra 1 fun K hK => ?_
   rw [if_pos (by kernel_rfl)]
   refine G73.str_wp _ _ rfl rfl ⟨#[73, 77, 80, 79, 82, 84, 32]⟩ rfl (by show _ + 7 ≤ _; (try simp only [ll]); omega) ?_
   intro v75 w75 G75 gr75
   replace G75 : Sg w w 0 base _ w75 (PM ++ (m.uses.take j).flatMap prUse ++ [73, 77, 80, 79, 82, 84, 32]) v75 := G75
   refine hK.out _ _ ⟨G75.cell (i := 1) rfl, cell_on t0 G75.bel⟩ (fun hHeld => ?_)
   clear hK K G73
   try simp only [nrm]
   refine ra 7 fun K hK => ?_
   rw [if_pos (by kernel_rfl)]
   refine G75.row_wp _ _ rfl rfl ax nx cx x rfl (G75.row hbx) hnp (by (try simp only [ll]); omega) ?_
   intro v77 w77 G77 gr77
   refine hK.out _ _ ⟨G77.cell (i := 1) rfl, cell_on t0 G77.bel⟩ (fun hHeld => ?_)
   clear hK K G75
   try simp only [nrm]
   refine ra 8 fun K hK => ?_
   rw [if_pos (by kernel_rfl)]
   refine G77.str_wp _ _ rfl rfl ⟨#[32, 59, 10]⟩ rfl (by show _ + 3 ≤ _; (try simp only [ll]); omega) ?_
   intro v79 w79 G79 gr79
   replace G79 : Sg w w 0 base _ w79 (PM ++ (m.uses.take j).flatMap prUse ++ [73, 77, 80, 79, 82, 84, 32] ++ x ++ [32, 59, 10]) v79 := G79
   refine hK.out _ _ ⟨G79.cell (i := 1) rfl, cell_on t0 G79.bel⟩ (fun hHeld => ?_)
   clear hK K G77
   try simp only [nrm]
   refine ta 9 ?_ hHeld
   try simp only [nrm]
   refine wpAnyH_done (by kernel_rfl) ?_ _
   have HG' : Hid (Sg w w 0 base (fun x => Blk x gx 36 [.slice (some an0) n0 c0, .slice (some ⟨b, o, none⟩) n1 c1, .slice a2 n2 c2, .slice a3 n3 c3]) w79 (PM ++ (m.uses.take (j + 1)).flatMap prUse) v79) := by
    have := G79
    show Sg _ _ _ _ _ _ _ _
    rw [HNX.out, prUse]
    simpa [List.append_assoc] using this
   clear G79
   go_wp2_with fail
   go_roundw
   case rel => exact ⟨j + 1, by omega, by go_num, HG'⟩
   case measure => simp [intOf]; omega
  ·
   have : n1 = j := by omega
   subst this
   rw [List.take_of_length_le (by rw [E1.out]; exact Nat.le_refl _)] at Gr
   obtain ⟨T1, hT1⟩ : ∃ t, t = PM ++ m.uses.flatMap prUse := ⟨_, rfl⟩
   have HT1 : Hid (T1 = PM ++ m.uses.flatMap prUse) := hT1
   rw [← hT1] at Gr
   have hbig1 : T1.length + (m.vars.flatMap prVar).length + (m.procs.flatMap prProc).length + 6 ≤ 500000000 := by rw [hT1, List.length_append]; omega
   clear hT1 q1
   have HG : Hid (Sg w w 0 base (fun x => Blk x gx 36 [.slice (some an0) n0 c0, .slice a1 n1 c1, .slice a2 n2 c2, .slice a3 n3 c3]) wr (T1 ++ (m.vars.take 0).flatMap prVar) u3) := by
    show Sg _ _ _ _ _ _ _ _
    simpa using Gr
   have q1 := Gr.cell (i := 1) rfl
   clear Gr
   go_wp2_with fail
   clear q1
   go_loopw [3, 5] (fun b i wr => ∃ j : Nat, j ≤ n2 ∧ i = .int .i64 j ∧ Hid (Sg w w 0 base (fun x => Blk x gx 36 [.slice (some an0) n0 c0, .slice a1 n1 c1, .slice a2 n2 c2, .slice a3 n3 c3]) wr (T1 ++ (m.vars.take j).flatMap prVar) b)) (fun _ i _ => n2 - (intOf i).toNat)
   case atStart => exact ⟨0, Nat.zero_le _, rfl, HG⟩
   case round =>
    obtain ⟨j, hj, rfl, hGr⟩ := hrel
    have Gr := hGr.out
    clear HG hGr
    have q2 := Gr.cell (i := 2) rfl
    by_cases hlt : j < n2
    ·
     obtain ⟨b, o, rfl⟩ := LRow.addr H2.out (by rw [k2]; omega)
     obtain ⟨x, hx⟩ : ∃ x, m.vars[j]? = some x := ⟨m.vars[j]'(by rw [E2.out]; exact hlt), List.getElem?_eq_getElem _⟩
     have hxj : (m.vars.map Va.fl)[j]? = some x.fl := by rw [List.getElem?_map, hx]; rfl
     obtain ⟨us, hvs, hcl⟩ := (LRow.el H2.out hxj).vals
     obtain ⟨y0, _, rfl, ⟨ax, cx, rfl, hbx, _⟩, y1, _, rfl, rfl, rfl⟩ := hvs
     have t0 : w.cell? ⟨b, o + j * 2, none⟩ = some (.slice ax x.name.length cx) := hcl 0 _ rfl
     have t1 : w.cell? ⟨b, o + j * 2 + 1, none⟩ = some (.int .i64 x.size) := hcl 1 _ rfl
     have hsx : recLen x.fl ≤ 1048576 := Nat.le_trans (recLen_le (List.mem_of_getElem? hxj)) hs2
     have hnx : x.name.length ≤ 1048576 := by simp [Va.fl, recLen, Fl.len] at hsx; omega
     have hvo := HVOK.out x (List.mem_of_getElem? hx)
     simp only [vaOk, Bool.and_eq_true] at hvo
     have hnp : 0 < x.name.length := name_pos hvo.1
     have hsz : 0 ≤ x.size ∧ x.size ≤ 20 := by have := hvo.2; simp [inB] at this; exact this
     have HNX : Hid ((m.vars.take (j + 1)).flatMap prVar = (m.vars.take j).flatMap prVar ++ prVar x) := flat_next hx
     have hft := flat_take prVar m.vars j
     clear hcl hx hxj hsx hvo
     obtain ⟨nm, sz⟩ := x
     simp only at *
     obtain ⟨nx, hnx'⟩ : ∃ z, z = nm.length := ⟨_, rfl⟩
     rw [← hnx'] at t0 hnp hbx
     have hnx2 : nx ≤ 1048576 := by omega
     clear hnx'
     have hjn : (j : Int) < (n2 : Int) := by omega
     go_upto_region 9 with fail
     clear q2
     have G80 := Gr.drew
     refine wp_region_held_drew (S := fun wx => wx.cell? ⟨gx, 2, none⟩ = some (.slice (some ⟨b, o, none⟩) n2 c2) ∧ wx.cell? ⟨b, o + j * 2, none⟩ = some (.slice ax nx cx) ∧ wx.cell? ⟨b, o + j * 2 + 1, none⟩ = some (.int .i64 sz)) (by kernel_rfl) ⟨G80.cell (i := 2) rfl, cell_on t0 G80.bel, cell_on t1 G80.bel⟩ (fun hHeld => ?_)
     generalize wr.drew = w80 at *
     clear Gr
     refine ta 0 ?_ hHeld
     refine ta 2 ?_ hHeld
     refine ta 3 ?_ hHeld
     try simp only [nrm]
     refine ta 4 ?_ hHeld
     refine ta 5 ?_ hHeld
     refine ta 6 ?_ hHeld
     try simp only [nrm]
     refine ta 7 ?_ hHeld
     try simp only [nrm]
     refine ra 1 fun K hK => ?_
     rw [if_pos (by kernel_rfl)]
     refine G80.str_wp _ _ rfl rfl ⟨#[86, 65, 82, 32]⟩ rfl (by show _ + 4 ≤ _; (try simp only [ll]); omega) ?_
     intro v82 w82 G82 gr82
     replace G82 : Sg w w 0 base _ w82 (T1 ++ (m.vars.take j).flatMap prVar ++ [86, 65, 82, 32]) v82 := G82
     refine hK.out _ _ ⟨G82.cell (i := 2) rfl, cell_on t0 G82.bel, cell_on t1 G82.bel⟩ (fun hHeld => ?_)
     clear hK K G80
     try simp only [nrm]
     refine ra 8 fun K hK => ?_
     rw [if_pos (by kernel_rfl)]
     refine G82.row_wp _ _ rfl rfl ax nx cx nm rfl (G82.row hbx) hnp (by (try simp only [ll]); omega) ?_
     intro v84 w84 G84 gr84
     refine hK.out _ _ ⟨G84.cell (i := 2) rfl, cell_on t0 G84.bel, cell_on t1 G84.bel⟩ (fun hHeld => ?_)
     clear hK K G82
     try simp only [nrm]
     refine ta 9 ?_ hHeld
     try simp only [nrm]
     refine wpAnyH_done (by kernel_rfl) ?_ _
     have q2 := G84.cell (i := 2) rfl
     have r1 := cell_on t1 G84.bel
     by_cases hz : 0 < sz
     ·
      go_upto_region 11 with fail
      clear q2 r1
      have G85 := G84.drew
      refine wp_region_held_drew (S := fun wx => wx.cell? ⟨gx, 2, none⟩ = some (.slice (some ⟨b, o, none⟩) n2 c2) ∧ wx.cell? ⟨b, o + j * 2, none⟩ = some (.slice ax nx cx) ∧ wx.cell? ⟨b, o + j * 2 + 1, none⟩ = some (.int .i64 sz)) (by kernel_rfl) ⟨G85.cell (i := 2) rfl, cell_on t0 G85.bel, cell_on t1 G85.bel⟩ (fun hHeld => ?_)
      generalize w84.drew = w85 at *
      clear G84
      refine ta 0 ?_ hHeld
      refine ta 2 ?_ hHeld
      refine ta 3 ?_ hHeld
      try simp only [nrm]
      refine ta 4 ?_ hHeld
      refine ta 5 ?_ hHeld
      refine ta 6 ?_ hHeld
      try simp only [nrm]
      refine ta 7 ?_ hHeld
      try simp only [nrm]
      refine ra 1 fun K hK => ?_
      rw [if_pos (by kernel_rfl)]
      refine G85.str_wp _ _ rfl rfl ⟨#[32, 91, 32]⟩ rfl (by show _ + 3 ≤ _; (try simp only [ll]); omega) ?_
      intro v87 w87 G87 gr87
      replace G87 : Sg w w 0 base _ w87 (T1 ++ (m.vars.take j).flatMap prVar ++ [86, 65, 82, 32] ++ nm ++ [32, 91, 32]) v87 := G87
      refine hK.out _ _ ⟨G87.cell (i := 2) rfl, cell_on t0 G87.bel, cell_on t1 G87.bel⟩ (fun hHeld => ?_)
      clear hK K G85
      try simp only [nrm]
      refine ra 8 fun K hK => ?_
      go_simp
      (with_reducible refine (digC sz (by omega) (by omega) w87).mono ?_)
      rintro e w89 ⟨vd, rfl, hod, hgd⟩
      obtain ⟨nd, hnd⟩ : ∃ z, z = (numI sz).length := ⟨_, rfl⟩
      rw [← hnd] at hod
      have hnd1 : nd ≤ 21 := by rw [hnd]; exact num_len (by omega) (by omega)
      have hnd0 : 0 < nd := by rw [hnd]; exact num_pos _
      have HND : Hid ((numI sz).length = nd) := hnd.symm
      clear hnd
      obtain ⟨ad, cd, rfl, hM⟩ := hod.made (below_grown hgd)
      have G89 := G87.grown hgd
      have Rd := hM.row
      clear hM hod hgd
      go_wp2_with fail
      refine hK.out _ _ ⟨G89.cell (i := 2) rfl, cell_on t0 G89.bel, cell_on t1 G89.bel⟩ (fun hHeld => ?_)
      clear hK K G87
      try simp only [nrm]
      have hndl : (numI sz).length ≤ 21 := num_len (by omega) (by omega)
      refine ra 9 fun K hK => ?_
      rw [if_pos (by kernel_rfl)]
      refine G89.row_wp _ _ rfl rfl ad nd cd (numI sz) rfl Rd hnd0 (by (try simp only [ll]); omega) ?_
      intro v91 w91 G91 gr91
      refine hK.out _ _ ⟨G91.cell (i := 2) rfl, cell_on t0 G91.bel, cell_on t1 G91.bel⟩ (fun hHeld => ?_)
      clear hK K G89
      try simp only [nrm]
      refine ra 10 fun K hK => ?_
      rw [if_pos (by kernel_rfl)]
      refine G91.str_wp _ _ rfl rfl ⟨#[32, 93]⟩ rfl (by show _ + 2 ≤ _; (try simp only [ll]); omega) ?_
      intro v93 w93 G93 gr93
      replace G93 : Sg w w 0 base _ w93 (T1 ++ (m.vars.take j).flatMap prVar ++ [86, 65, 82, 32] ++ nm ++ [32, 91, 32] ++ (numI sz) ++ [32, 93]) v93 := G93
      refine hK.out _ _ ⟨G93.cell (i := 2) rfl, cell_on t0 G93.bel, cell_on t1 G93.bel⟩ (fun hHeld => ?_)
      clear hK K G91
      try simp only [nrm]
      refine ta 11 ?_ hHeld
      try simp only [nrm]
      refine wpAnyH_done (by kernel_rfl) ?_ _
      go_wp2_with (at_builtin; refine Sg.str_list G93 rfl _ _ rfl rfl ⟨#[32, 59, 10]⟩ rfl (by show _ + 3 ≤ _; (try simp only [ll]); omega) ?_)
      intro v_94 w94 G94 _
      replace G94 := G94.cast (M := T1 ++ (m.vars.take j).flatMap prVar ++ [86, 65, 82, 32] ++ nm ++ [32, 91, 32] ++ (numI sz) ++ [32, 93] ++ [32, 59, 10]) (by simp [show sI ⟨#[32, 59, 10]⟩ = [32, 59, 10] from rfl])
      clear G93
      have HG' : Hid (Sg w w 0 base (fun x => Blk x gx 36 [.slice (some an0) n0 c0, .slice a1 n1 c1, .slice (some ⟨b, o, none⟩) n2 c2, .slice a3 n3 c3]) w94 (T1 ++ (m.vars.take (j + 1)).flatMap prVar) v_94) := by
       have := G94
       show Sg _ _ _ _ _ _ _ _
       rw [HNX.out, prVar, if_pos (show 0 < (Va.mk nm sz).size by show 0 < sz; omega)]
       simpa [List.append_assoc] using this
      clear G94
      go_wp2_with fail
      go_roundw
      case rel => exact ⟨j + 1, by omega, by go_num, HG'⟩
      case measure => simp [intOf]; omega
     ·
      go_wp2_with (at_builtin; refine Sg.str_list G84 rfl _ _ rfl rfl ⟨#[32, 59, 10]⟩ rfl (by show _ + 3 ≤ _; (try simp only [ll]); omega) ?_)
      intro v_95 w95 G95 _
      replace G95 := G95.cast (M := T1 ++ (m.vars.take j).flatMap prVar ++ [86, 65, 82, 32] ++ nm ++ [32, 59, 10]) (by simp [show sI ⟨#[32, 59, 10]⟩ = [32, 59, 10] from rfl])
      clear G84
      have HG' : Hid (Sg w w 0 base (fun x => Blk x gx 36 [.slice (some an0) n0 c0, .slice a1 n1 c1, .slice (some ⟨b, o, none⟩) n2 c2, .slice a3 n3 c3]) w95 (T1 ++ (m.vars.take (j + 1)).flatMap prVar) v_95) := by
       have := G95
       show Sg _ _ _ _ _ _ _ _
       rw [HNX.out, prVar, if_neg (show ¬ 0 < (Va.mk nm sz).size by show ¬ 0 < sz; omega)]
       simpa [List.append_assoc] using this
      clear G95
      go_wp2_with fail
      go_roundw
      case rel => exact ⟨j + 1, by omega, by go_num, HG'⟩
      case measure => simp [intOf]; omega
    ·
     have : n2 = j := by omega
     subst this
     rw [List.take_of_length_le (by rw [E2.out]; exact Nat.le_refl _)] at Gr
     obtain ⟨T2, hT2⟩ : ∃ t, t = T1 ++ m.vars.flatMap prVar := ⟨_, rfl⟩
     have HT2 : Hid (T2 = T1 ++ m.vars.flatMap prVar) := hT2
     rw [← hT2] at Gr
     have hbig2 : T2.length + (m.procs.flatMap prProc).length + 6 ≤ 500000000 := by rw [hT2, List.length_append]; omega
     clear hT2
     have HG : Hid (Sg w w 0 base (fun x => Blk x gx 36 [.slice (some an0) n0 c0, .slice a1 n1 c1, .slice a2 n2 c2, .slice a3 n3 c3]) wr (T2 ++ (m.procs.take 0).flatMap prProc) u3) := by
      show Sg _ _ _ _ _ _ _ _
      simpa using Gr
     clear Gr
     go_wp2_with fail
     clear q2
     go_loopw [3, 6, 7, 8, 9] (fun b i _ _ _ wr => ∃ j : Nat, j ≤ n3 ∧ i = .int .i64 j ∧ Hid (Sg w w 0 base (fun x => Blk x gx 36 [.slice (some an0) n0 c0, .slice a1 n1 c1, .slice a2 n2 c2, .slice a3 n3 c3]) wr (T2 ++ (m.procs.take j).flatMap prProc) b)) (fun _ i _ _ _ _ => n3 - (intOf i).toNat)
     case atStart => exact ⟨0, Nat.zero_le _, rfl, HG⟩
     case round =>
      obtain ⟨j, hj, rfl, hGr⟩ := hrel
      have Gr := hGr.out
      clear HG hGr
      have q3 := Gr.cell (i := 3) rfl
      by_cases hlt : j < n3
      ·
       obtain ⟨b, o, rfl⟩ := LRow.addr H3.out (by rw [k3]; omega)
       obtain ⟨x, hx⟩ : ∃ x, m.procs[j]? = some x := ⟨m.procs[j]'(by rw [E3.out]; exact hlt), List.getElem?_eq_getElem _⟩
       have hxj : (m.procs.map Pr.fl)[j]? = some x.fl := by rw [List.getElem?_map, hx]; rfl
       obtain ⟨us, hvs, hcl⟩ := (LRow.el H3.out hxj).vals
       have hsx : recLen x.fl ≤ 1048576 := Nat.le_trans (recLen_le (List.mem_of_getElem? hxj)) hs3
       have es9 : recLen x.fl = x.name.length + ((x.params.map Pa.fl).length + rowsLen (x.params.map Pa.fl)) + ((txts x.locals).length + rowsLen (txts x.locals)) + ((sts x.body).length + rowsLen (sts x.body)) := by simp [Pr.fl, recLen, Fl.len] <;> omega
       rw [es9] at hsx
       have s0 : x.name.length ≤ 1048576 := by omega
       have s2 : rowsLen (x.params.map Pa.fl) ≤ 1048576 := by omega
       have s3 : rowsLen (txts x.locals) ≤ 1048576 := by omega
       have s4 : rowsLen (sts x.body) ≤ 1048576 := by omega
       clear hsx es9
       replace hcl : ∀ i v, _ → _ := fun i v hv => cell_on (hcl i v hv) Gr.bel
       have hpo := HPRK.out x (List.mem_of_getElem? hx)
       have hpo1 := hpo.1
       simp only [hdOk, Bool.and_eq_true, List.all_eq_true] at hpo1
       have hnp : 0 < x.name.length := name_pos hpo1.1.1.1.1
       have HPOK : Hid (∀ y ∈ x.params, paOk y = true) := hpo1.1.1.2
       have HLOK : Hid (∀ y ∈ x.locals, smallOk y = true) := hpo1.2
       have HBOK : Hid (okSts x.body = true) := hpo.2
       have HNX : Hid ((m.procs.take (j + 1)).flatMap prProc = (m.procs.take j).flatMap prProc ++ prProc x) := flat_next hx
       have hft := flat_take prProc m.procs (j + 1)
       rw [HNX.out, List.length_append] at hft
       have hpl : (prProc x).length = 5 + x.name.length + (if x.opn then 2 else 0) + (joinI [32, 44] (x.params.map saP)).length + 7 + (x.locals.flatMap prLocal).length + 6 + (prB x.body).length + 6 := by rw [proc_say]; cases x.opn <;> simp only [List.length_append, List.length_cons, List.length_nil, if_true, if_false, Bool.false_eq_true] <;> omega
       unfold Pr.fl at hvs
       obtain ⟨y0, _, rfl, ⟨p0, d0, rfl, g0, _⟩, y1, _, rfl, rfl, y2, _, rfl, g2', y3, _, rfl, g3', y4, _, rfl, g4', rfl⟩ := hvs
       obtain ⟨p2, d2, rfl, g2⟩ := g2'.list
       obtain ⟨p3, d3, rfl, g3⟩ := g3'.list
       obtain ⟨p4, d4, rfl, g4⟩ := g4'.list
       clear g2' g3' g4' hpo hpo1
       have j2 : (x.params.map Pa.fl).length = x.params.length := by simp
       have j3 : (txts x.locals).length = x.locals.length := by simp [txts]
       have j4 : (sts x.body).length = x.body.length := by simp [sts_map]
       have b2 : x.params.length ≤ 9223372036854775807 := by have h7 := g2.cap; have h6 := g2.most; unfold maxLen at h6; omega
       have b3 : x.locals.length ≤ 9223372036854775807 := by have h7 := g3.cap; have h6 := g3.most; unfold maxLen at h6; omega
       rw [j2, j3, j4] at hcl
       have HPS := proc_say x
       obtain ⟨bo, hbo⟩ : ∃ z, z = x.opn := ⟨_, rfl⟩
       rw [← hbo] at hcl hpl HPS
       have HPS' : Hid (prProc x = [80, 82, 79, 67, 32] ++ x.name ++ (if bo then [32, 42] else []) ++ [32, 40] ++ joinI [32, 44] (x.params.map saP) ++ [32, 41, 32, 59, 10] ++ x.locals.flatMap prLocal ++ [66, 69, 71, 73, 78, 10] ++ prB x.body ++ [69, 78, 68, 32, 59, 10]) := HPS
       clear hbo HPS
       have t0 : wr.cell? ⟨b, o + j * 5, none⟩ = some (.slice p0 x.name.length d0) := hcl 0 _ rfl
       have t1 : wr.cell? ⟨b, o + j * 5 + 1, none⟩ = some (.bool bo) := hcl 1 _ rfl
       have t2 : wr.cell? ⟨b, o + j * 5 + 2, none⟩ = some (.slice p2 x.params.length d2) := hcl 2 _ rfl
       have t3 : wr.cell? ⟨b, o + j * 5 + 3, none⟩ = some (.slice p3 x.locals.length d3) := hcl 3 _ rfl
       have t4 : wr.cell? ⟨b, o + j * 5 + 4, none⟩ = some (.slice p4 x.body.length d4) := hcl 4 _ rfl
       clear hcl hx hxj
       obtain ⟨v0, f0⟩ : ∃ z, z = x.name.length := ⟨_, rfl⟩
       obtain ⟨v2, f2⟩ : ∃ z, z = x.params.length := ⟨_, rfl⟩
       obtain ⟨v3, f3⟩ : ∃ z, z = x.locals.length := ⟨_, rfl⟩
       obtain ⟨v4, f4⟩ : ∃ z, z = x.body.length := ⟨_, rfl⟩
       rw [← f0] at t0 s0 g0 hnp
       rw [← f2] at t2 j2 b2
       rw [← f3] at t3 j3 b3
       rw [← f4] at t4 j4
       have F0 : x.name.length ≤ 1048576 := by omega
       have F2 : Hid (x.params.length = v2) := f2.symm
       have F3 : Hid (x.locals.length = v3) := f3.symm
       have F4 : Hid (x.body.length = v4) := f4.symm
       have HP2 : Hid (LRow w p2 d2 2 (x.params.map Pa.fl)) := g2
       have HP3 : Hid (LRow w p3 d3 1 (txts x.locals)) := g3
       have HP4 : Hid (LRow w p4 d4 6 (sts x.body)) := g4
       clear f0 f2 f3 f4 g2 g3 g4
       have xp := Blk.new wr 62 [.slice p0 v0 d0, .bool bo, .slice p2 v2 d2, .slice p3 v3 d3, .slice p4 v4 d4]
       have Gz := (Gr.alloc (.cells #[.slice p0 v0 d0, .bool bo, .slice p2 v2 d2, .slice p3 v3 d3, .slice p4 v4 d4] 62 (0, 0))).more (C := fun x => Blk x wr.heap.size 62 [.slice p0 v0 d0, .bool bo, .slice p2 v2 d2, .slice p3 v3 d3, .slice p4 v4 d4]) xp (keep_blk (by decide))
       clear xp Gr
       have hjn : (j : Int) < (n3 : Int) := by omega
       go_upto_region 17 with fail
       generalize wr.alloc (.cells #[.slice p0 v0 d0, .bool bo, .slice p2 v2 d2, .slice p3 v3 d3, .slice p4 v4 d4] 62 (0, 0)) = w3 at *
       generalize wr.heap.size = gp at *
       clear t0 t1 t2 t3 t4 q3
       have G96 := Gz.drew
       refine wp_region_held_drew (S := fun wx => wx.cell? ⟨gp, 0, none⟩ = some (.slice p0 v0 d0)) (by kernel_rfl) (G96.cellR (i := 0) rfl) (fun hHeld => ?_)
       generalize w3.drew = w96 at *
       clear Gz
       refine ta 0 ?_ hHeld
       refine ta 2 ?_ hHeld
       refine ta 3 ?_ hHeld
       try simp only [nrm]
       refine ra 1 fun K hK => ?_
       rw [if_pos (by kernel_rfl)]
       refine G96.str_wp _ _ rfl rfl ⟨#[80, 82, 79, 67, 32]⟩ rfl (by show _ + 5 ≤ _; (try simp only [ll]); omega) ?_
       intro v98 w98 G98 gr98
       replace G98 : Sg w w 0 base _ w98 (T2 ++ (m.procs.take j).flatMap prProc ++ [80, 82, 79, 67, 32]) v98 := G98
       refine hK.out _ _ (G98.cellR (i := 0) rfl) (fun hHeld => ?_)
       clear hK K G96
       try simp only [nrm]
       refine ra 4 fun K hK => ?_
       rw [if_pos (by kernel_rfl)]
       refine G98.row_wp _ _ rfl rfl p0 v0 d0 x.name rfl (G98.row g0) hnp (by (try simp only [ll]); omega) ?_
       intro v100 w100 G100 gr100
       refine hK.out _ _ (G100.cellR (i := 0) rfl) (fun hHeld => ?_)
       clear hK K G98
       try simp only [nrm]
       refine ta 5 ?_ hHeld
       try simp only [nrm]
       refine wpAnyH_done (by kernel_rfl) ?_ _
       have r1 := G100.cellR (i := 1) rfl
       cases bo
       ·
        simp only [if_true, if_false, Bool.false_eq_true] at hpl HPS'
        go_wp2_with (at_builtin; refine Sg.str_list G100 rfl _ _ rfl rfl ⟨#[32, 40]⟩ rfl (by show _ + 2 ≤ _; (try simp only [ll]); omega) ?_)
        intro v_101 w101 G101 _
        replace G101 := G101.cast (M := T2 ++ (m.procs.take j).flatMap prProc ++ [80, 82, 79, 67, 32] ++ x.name ++ [32, 40]) (by simp [show sI ⟨#[32, 40]⟩ = [32, 40] from rfl])
        clear G100
        clear r1
        obtain ⟨TP, hTP⟩ : ∃ t, t = T2 ++ (m.procs.take j).flatMap prProc ++ [80, 82, 79, 67, 32] ++ x.name ++ [32, 40] := ⟨_, rfl⟩
        have HTP : Hid (TP = T2 ++ (m.procs.take j).flatMap prProc ++ [80, 82, 79, 67, 32] ++ x.name ++ [32, 40]) := hTP
        rw [← hTP] at G101
        have hTPl : TP.length + (joinI [32, 44] (x.params.map saP)).length + 5 + (x.locals.flatMap prLocal).length + 6 + (prB x.body).length + 6 ≤ 500000000 := by rw [hTP]; (try simp only [ll]); omega
        clear hTP
        have HG : Hid (Sg w w 0 base (fun x => Blk x gx 36 [.slice (some an0) n0 c0, .slice a1 n1 c1, .slice a2 n2 c2, .slice (some ⟨b, o, none⟩) n3 c3] ∧ Blk x gp 62 [.slice p0 v0 d0, .bool false, .slice p2 v2 d2, .slice p3 v3 d3, .slice p4 v4 d4]) w101 (TP ++ joinI [32, 44] ((x.params.map saP).take 0)) v_101) := by
         have := G101
         show Sg _ _ _ _ _ _ _ _
         simpa [joinI] using this
        clear G101
        go_wp2_with fail
        go_loopw [3, 8] (fun bb i wr => ∃ k : Nat, k ≤ v2 ∧ i = .int .i64 k ∧ Hid (Sg w w 0 base (fun x => Blk x gx 36 [.slice (some an0) n0 c0, .slice a1 n1 c1, .slice a2 n2 c2, .slice (some ⟨b, o, none⟩) n3 c3] ∧ Blk x gp 62 [.slice p0 v0 d0, .bool false, .slice p2 v2 d2, .slice p3 v3 d3, .slice p4 v4 d4]) wr (TP ++ joinI [32, 44] ((x.params.map saP).take k)) bb)) (fun _ i _ => v2 - (intOf i).toNat)
        case atStart => exact ⟨0, Nat.zero_le _, rfl, HG⟩
        case round =>
         obtain ⟨k, hk, rfl, hGp⟩ := hrel
         have Gp := hGp.out
         clear HG hGp
         have r2 := Gp.cellR (i := 2) rfl
         by_cases hl2 : k < v2
         ·
          obtain ⟨b', o', rfl⟩ := LRow.addr HP2.out (by rw [j2]; omega)
          obtain ⟨y, hy⟩ : ∃ y, x.params[k]? = some y := ⟨x.params[k]'(by rw [F2.out]; exact hl2), List.getElem?_eq_getElem _⟩
          have hyj : (x.params.map Pa.fl)[k]? = some y.fl := by rw [List.getElem?_map, hy]; rfl
          obtain ⟨us, hvs, hcl⟩ := (LRow.el HP2.out hyj).vals
          obtain ⟨z0, _, rfl, ⟨ax, cx, rfl, hbx, _⟩, z1, _, rfl, rfl, rfl⟩ := hvs
          have t0 : w.cell? ⟨b', o' + k * 2, none⟩ = some (.slice ax y.name.length cx) := hcl 0 _ rfl
          have t1 : w.cell? ⟨b', o' + k * 2 + 1, none⟩ = some (.bool y.arr) := hcl 1 _ rfl
          have hsx : recLen y.fl ≤ 1048576 := Nat.le_trans (recLen_le (List.mem_of_getElem? hyj)) s2
          have hnx : y.name.length ≤ 1048576 := by simp [Pa.fl, recLen, Fl.len] at hsx; omega
          have hnp : 0 < y.name.length := name_pos (HPOK.out y (List.mem_of_getElem? hy))
          have hyt : (x.params.map saP)[k]? = some (saP y) := by rw [List.getElem?_map, hy]; rfl
          have HJ : Hid (joinI [32, 44] ((x.params.map saP).take (k + 1)) = if k = 0 then saP y else joinI [32, 44] ((x.params.map saP).take k) ++ [32, 44] ++ saP y) := joinI_next hyt
          have hjl : (joinI [32, 44] ((x.params.map saP).take k)).length ≤ (joinI [32, 44] (x.params.map saP)).length := joinI_take _ _ _ (by rw [List.length_map, F2.out]; omega)
          clear hcl hy hyj hsx hyt
          obtain ⟨nm, ar⟩ := y
          simp only at *
          obtain ⟨nx, hnx'⟩ : ∃ z, z = nm.length := ⟨_, rfl⟩
          rw [← hnx'] at t0 hnp hbx
          have hnx2 : nx ≤ 1048576 := by omega
          clear hnx'
          have hkn : (k : Int) < (v2 : Int) := by omega
          by_cases hk0 : k = 0
          ·
           subst hk0
           simp only [Nat.zero_mul, Nat.add_zero] at t0 t1
           cases ar
           ·
            have r2 := Gp.cellR (i := 2) rfl
            have r1 := cell_on t1 Gp.bel
            go_upto_region 28 with fail
            clear r2 r1
            have G102 := Gp.drew
            refine wp_region_held_drew (S := fun wx => wx.cell? ⟨gp, 2, none⟩ = some (.slice (some ⟨b', o', none⟩) v2 d2) ∧ wx.cell? ⟨b', o', none⟩ = some (.slice ax nx cx)) (by kernel_rfl) ⟨G102.cellR (i := 2) rfl, cell_on t0 G102.bel⟩ (fun hHeld => ?_)
            generalize wr.drew = w102 at *
            clear Gp
            refine ta 0 ?_ hHeld
            refine ta 3 ?_ hHeld
            refine ta 4 ?_ hHeld
            try simp only [nrm]
            refine ta 5 ?_ hHeld
            refine ta 6 ?_ hHeld
            refine ta 7 ?_ hHeld
            try simp only [nrm]
            refine ta 8 ?_ hHeld
            try simp only [nrm]
            refine ra 1 fun K hK => ?_
            go_simp
            have R104 : (w102.alloc (.cells #[.int .u8 32] 5)).heap[w102.heap.size]? = some (Obj.cells #[.int .u8 32] 5 (0, 0)) := heap_alloc_new w102 _
            have F104 := G102.free
            have G104 := G102.alloc (.cells #[.int .u8 32] 5)
            refine hK.out _ _ ⟨G104.cellR (i := 2) rfl, cell_on t0 G104.bel⟩ (fun hHeld => ?_)
            clear hK K G102
            try simp only [nrm]
            generalize w102.alloc (.cells #[.int .u8 32] 5) = w104 at *
            generalize w102.heap.size = g104 at *
            refine ra 2 fun K hK => ?_
            rw [if_pos (by kernel_rfl)]
            refine G104.row_wp _ _ rfl rfl (some ⟨g104, 0, none⟩) 1 1 [32] rfl (one_blk (by omega) (by omega) R104) (by omega) (by (try simp only [ll]); omega) ?_
            intro v106 w106 G106 gr106
            refine hK.out _ _ ⟨G106.cellR (i := 2) rfl, cell_on t0 G106.bel⟩ (fun hHeld => ?_)
            clear hK K G104
            try simp only [nrm]
            refine ra 9 fun K hK => ?_
            rw [if_pos (by kernel_rfl)]
            refine G106.row_wp _ _ rfl rfl ax nx cx nm rfl (G106.row hbx) hnp (by (try simp only [ll]); omega) ?_
            intro v108 w108 G108 gr108
            refine hK.out _ _ ⟨G108.cellR (i := 2) rfl, cell_on t0 G108.bel⟩ (fun hHeld => ?_)
            clear hK K G106
            try simp only [nrm]
            refine ta 10 ?_ hHeld
            try simp only [nrm]
            refine wpAnyH_done (by kernel_rfl) ?_ _
            have HG' : Hid (Sg w w 0 base (fun x => Blk x gx 36 [.slice (some an0) n0 c0, .slice a1 n1 c1, .slice a2 n2 c2, .slice (some ⟨b, o, none⟩) n3 c3] ∧ Blk x gp 62 [.slice p0 v0 d0, .bool false, .slice (some ⟨b', o', none⟩) v2 d2, .slice p3 v3 d3, .slice p4 v4 d4]) w108 (TP ++ joinI [32, 44] ((x.params.map saP).take (0 + 1))) v108) := by
             have := G108
             show Sg _ _ _ _ _ _ _ _
             rw [HJ.out]
             simpa [saP, joinI, List.append_assoc] using this
            clear G108
            go_wp2_with fail
            go_roundw
            case rel => exact ⟨1, by omega, rfl, HG'⟩
            case measure => simp [intOf]; omega
           ·
            have r2 := Gp.cellR (i := 2) rfl
            have r1 := cell_on t1 Gp.bel
            go_wp2_with (at_builtin; refine Sg.str_list Gp rfl _ _ rfl rfl ⟨#[32, 64]⟩ rfl (by show _ + 2 ≤ _; (try simp only [ll]); omega) ?_)
            intro v_109 w109 G109 _
            replace G109 := G109.cast (M := TP ++ joinI [32, 44] ((x.params.map saP).take 0) ++ [32, 64]) (by simp [show sI ⟨#[32, 64]⟩ = [32, 64] from rfl])
            clear Gp
            go_upto_region 28 with fail
            clear r2 r1
            have G110 := G109.drew
            refine wp_region_held_drew (S := fun wx => wx.cell? ⟨gp, 2, none⟩ = some (.slice (some ⟨b', o', none⟩) v2 d2) ∧ wx.cell? ⟨b', o', none⟩ = some (.slice ax nx cx)) (by kernel_rfl) ⟨G110.cellR (i := 2) rfl, cell_on t0 G110.bel⟩ (fun hHeld => ?_)
            generalize w109.drew = w110 at *
            clear G109
            refine ta 0 ?_ hHeld
            refine ta 3 ?_ hHeld
            refine ta 4 ?_ hHeld
            try simp only [nrm]
            refine ta 5 ?_ hHeld
            refine ta 6 ?_ hHeld
            refine ta 7 ?_ hHeld
            try simp only [nrm]
            refine ta 8 ?_ hHeld
            try simp only [nrm]
            refine ra 1 fun K hK => ?_
            go_simp
            have R112 : (w110.alloc (.cells #[.int .u8 32] 5)).heap[w110.heap.size]? = some (Obj.cells #[.int .u8 32] 5 (0, 0)) := heap_alloc_new w110 _
            have F112 := G110.free
            have G112 := G110.alloc (.cells #[.int .u8 32] 5)
            refine hK.out _ _ ⟨G112.cellR (i := 2) rfl, cell_on t0 G112.bel⟩ (fun hHeld => ?_)
            clear hK K G110
            try simp only [nrm]
            generalize w110.alloc (.cells #[.int .u8 32] 5) = w112 at *
            generalize w110.heap.size = g112 at *
            refine ra 2 fun K hK => ?_
            rw [if_pos (by kernel_rfl)]
            refine G112.row_wp _ _ rfl rfl (some ⟨g112, 0, none⟩) 1 1 [32] rfl (one_blk (by omega) (by omega) R112) (by omega) (by (try simp only [ll]); omega) ?_
            intro v114 w114 G114 gr114
            refine hK.out _ _ ⟨G114.cellR (i := 2) rfl, cell_on t0 G114.bel⟩ (fun hHeld => ?_)
            clear hK K G112
            try simp only [nrm]
            refine ra 9 fun K hK => ?_
            rw [if_pos (by kernel_rfl)]
            refine G114.row_wp _ _ rfl rfl ax nx cx nm rfl (G114.row hbx) hnp (by (try simp only [ll]); omega) ?_
            intro v116 w116 G116 gr116
            refine hK.out _ _ ⟨G116.cellR (i := 2) rfl, cell_on t0 G116.bel⟩ (fun hHeld => ?_)
            clear hK K G114
            try simp only [nrm]
            refine ta 10 ?_ hHeld
            try simp only [nrm]
            refine wpAnyH_done (by kernel_rfl) ?_ _
            have HG' : Hid (Sg w w 0 base (fun x => Blk x gx 36 [.slice (some an0) n0 c0, .slice a1 n1 c1, .slice a2 n2 c2, .slice (some ⟨b, o, none⟩) n3 c3] ∧ Blk x gp 62 [.slice p0 v0 d0, .bool false, .slice (some ⟨b', o', none⟩) v2 d2, .slice p3 v3 d3, .slice p4 v4 d4]) w116 (TP ++ joinI [32, 44] ((x.params.map saP).take (0 + 1))) v116) := by
             have := G116
             show Sg _ _ _ _ _ _ _ _
             rw [HJ.out]
             simpa [saP, joinI, List.append_assoc] using this
            clear G116
            go_wp2_with fail
            go_roundw
            case rel => exact ⟨1, by omega, rfl, HG'⟩
            case measure => simp [intOf]; omega
          ·
           have hkp : (0 : Int) < (k : Int) := by omega
           go_wp2_with (at_builtin; refine Sg.str_list Gp rfl _ _ rfl rfl ⟨#[32, 44]⟩ rfl (by show _ + 2 ≤ _; (try simp only [ll]); omega) ?_)
           intro v_117 w117 G117 _
           replace G117 := G117.cast (M := TP ++ joinI [32, 44] ((x.params.map saP).take k) ++ [32, 44]) (by simp [show sI ⟨#[32, 44]⟩ = [32, 44] from rfl])
           clear Gp
           cases ar
           ·
            have r2 := G117.cellR (i := 2) rfl
            have r1 := cell_on t1 G117.bel
            go_upto_region 28 with fail
            clear r2 r1
            have G118 := G117.drew
            refine wp_region_held_drew (S := fun wx => wx.cell? ⟨gp, 2, none⟩ = some (.slice (some ⟨b', o', none⟩) v2 d2) ∧ wx.cell? ⟨b', o' + k * 2, none⟩ = some (.slice ax nx cx)) (by kernel_rfl) ⟨G118.cellR (i := 2) rfl, cell_on t0 G118.bel⟩ (fun hHeld => ?_)
            generalize w117.drew = w118 at *
            clear G117
            refine ta 0 ?_ hHeld
            refine ta 3 ?_ hHeld
            refine ta 4 ?_ hHeld
            try simp only [nrm]
            refine ta 5 ?_ hHeld
            refine ta 6 ?_ hHeld
            refine ta 7 ?_ hHeld
            try simp only [nrm]
            refine ta 8 ?_ hHeld
            try simp only [nrm]
            refine ra 1 fun K hK => ?_
            go_simp
            have R120 : (w118.alloc (.cells #[.int .u8 32] 5)).heap[w118.heap.size]? = some (Obj.cells #[.int .u8 32] 5 (0, 0)) := heap_alloc_new w118 _
            have F120 := G118.free
            have G120 := G118.alloc (.cells #[.int .u8 32] 5)
            refine hK.out _ _ ⟨G120.cellR (i := 2) rfl, cell_on t0 G120.bel⟩ (fun hHeld => ?_)
            clear hK K G118
            try simp only [nrm]
            generalize w118.alloc (.cells #[.int .u8 32] 5) = w120 at *
            generalize w118.heap.size = g120 at *
            refine ra 2 fun K hK => ?_
            rw [if_pos (by kernel_rfl)]
            refine G120.row_wp _ _ rfl rfl (some ⟨g120, 0, none⟩) 1 1 [32] rfl (one_blk (by omega) (by omega) R120) (by omega) (by (try simp only [ll]); omega) ?_
            intro v122 w122 G122 gr122
            refine hK.out _ _ ⟨G122.cellR (i := 2) rfl, cell_on t0 G122.bel⟩ (fun hHeld => ?_)
            clear hK K G120
            try simp only [nrm]
            refine ra 9 fun K hK => ?_
            rw [if_pos (by kernel_rfl)]
            refine G122.row_wp _ _ rfl rfl ax nx cx nm rfl (G122.row hbx) hnp (by (try simp only [ll]); omega) ?_
            intro v124 w124 G124 gr124
            refine hK.out _ _ ⟨G124.cellR (i := 2) rfl, cell_on t0 G124.bel⟩ (fun hHeld => ?_)
            clear hK K G122
            try simp only [nrm]
            refine ta 10 ?_ hHeld
            try simp only [nrm]
            refine wpAnyH_done (by kernel_rfl) ?_ _
            have HG' : Hid (Sg w w 0 base (fun x => Blk x gx 36 [.slice (some an0) n0 c0, .slice a1 n1 c1, .slice a2 n2 c2, .slice (some ⟨b, o, none⟩) n3 c3] ∧ Blk x gp 62 [.slice p0 v0 d0, .bool false, .slice (some ⟨b', o', none⟩) v2 d2, .slice p3 v3 d3, .slice p4 v4 d4]) w124 (TP ++ joinI [32, 44] ((x.params.map saP).take (k + 1))) v124) := by
             have := G124
             show Sg _ _ _ _ _ _ _ _
             rw [HJ.out, if_neg hk0]
             simpa [saP, joinI, List.append_assoc] using this
            clear G124
            go_wp2_with fail
            go_roundw
            case rel => exact ⟨k + 1, by omega, by go_num, HG'⟩
            case measure => simp [intOf]; omega
           ·
            have r2 := G117.cellR (i := 2) rfl
            have r1 := cell_on t1 G117.bel
            go_wp2_with (at_builtin; refine Sg.str_list G117 rfl _ _ rfl rfl ⟨#[32, 64]⟩ rfl (by show _ + 2 ≤ _; (try simp only [ll]); omega) ?_)
            intro v_125 w125 G125 _
            replace G125 := G125.cast (M := TP ++ joinI [32, 44] ((x.params.map saP).take k) ++ [32, 44] ++ [32, 64]) (by simp [show sI ⟨#[32, 64]⟩ = [32, 64] from rfl])
            clear G117
            go_upto_region 28 with fail
            clear r2 r1
            have G126 := G125.drew
            refine wp_region_held_drew (S := fun wx => wx.cell? ⟨gp, 2, none⟩ = some (.slice (some ⟨b', o', none⟩) v2 d2) ∧ wx.cell? ⟨b', o' + k * 2, none⟩ = some (.slice ax nx cx)) (by kernel_rfl) ⟨G126.cellR (i := 2) rfl, cell_on t0 G126.bel⟩ (fun hHeld => ?_)
            generalize w125.drew = w126 at *
            clear G125
            refine ta 0 ?_ hHeld
            refine ta 3 ?_ hHeld
            refine ta 4 ?_ hHeld
            try simp only [nrm]
            refine ta 5 ?_ hHeld
            refine ta 6 ?_ hHeld
            refine ta 7 ?_ hHeld
            try simp only [nrm]
            refine ta 8 ?_ hHeld
            try simp only [nrm]
            refine ra 1 fun K hK => ?_
            go_simp
            have R128 : (w126.alloc (.cells #[.int .u8 32] 5)).heap[w126.heap.size]? = some (Obj.cells #[.int .u8 32] 5 (0, 0)) := heap_alloc_new w126 _
            have F128 := G126.free
            have G128 := G126.alloc (.cells #[.int .u8 32] 5)
            refine hK.out _ _ ⟨G128.cellR (i := 2) rfl, cell_on t0 G128.bel⟩ (fun hHeld => ?_)
            clear hK K G126
            try simp only [nrm]
            generalize w126.alloc (.cells #[.int .u8 32] 5) = w128 at *
            generalize w126.heap.size = g128 at *
            refine ra 2 fun K hK => ?_
            rw [if_pos (by kernel_rfl)]
            refine G128.row_wp _ _ rfl rfl (some ⟨g128, 0, none⟩) 1 1 [32] rfl (one_blk (by omega) (by omega) R128) (by omega) (by (try simp only [ll]); omega) ?_
            intro v130 w130 G130 gr130
            refine hK.out _ _ ⟨G130.cellR (i := 2) rfl, cell_on t0 G130.bel⟩ (fun hHeld => ?_)
            clear hK K G128
            try simp only [nrm]
            refine ra 9 fun K hK => ?_
            rw [if_pos (by kernel_rfl)]
            refine G130.row_wp _ _ rfl rfl ax nx cx nm rfl (G130.row hbx) hnp (by (try simp only [ll]); omega) ?_
            intro v132 w132 G132 gr132
            refine hK.out _ _ ⟨G132.cellR (i := 2) rfl, cell_on t0 G132.bel⟩ (fun hHeld => ?_)
            clear hK K G130
            try simp only [nrm]
            refine ta 10 ?_ hHeld
            try simp only [nrm]
            refine wpAnyH_done (by kernel_rfl) ?_ _
            have HG' : Hid (Sg w w 0 base (fun x => Blk x gx 36 [.slice (some an0) n0 c0, .slice a1 n1 c1, .slice a2 n2 c2, .slice (some ⟨b, o, none⟩) n3 c3] ∧ Blk x gp 62 [.slice p0 v0 d0, .bool false, .slice (some ⟨b', o', none⟩) v2 d2, .slice p3 v3 d3, .slice p4 v4 d4]) w132 (TP ++ joinI [32, 44] ((x.params.map saP).take (k + 1))) v132) := by
             have := G132
             show Sg _ _ _ _ _ _ _ _
             rw [HJ.out, if_neg hk0]
             simpa [saP, joinI, List.append_assoc] using this
            clear G132
            go_wp2_with fail
            go_roundw
            case rel => exact ⟨k + 1, by omega, by go_num, HG'⟩
            case measure => simp [intOf]; omega
         ·
          have : v2 = k := by omega
          subst this
          rw [List.take_of_length_le (by rw [List.length_map, F2.out]; exact Nat.le_refl _)] at Gp
          go_wp2_with (at_builtin; refine Sg.str_list Gp rfl _ _ rfl rfl ⟨#[32, 41, 32, 59, 10]⟩ rfl (by show _ + 5 ≤ _; (try simp only [ll]); omega) ?_)
          intro v_133 w133 G133 _
          replace G133 := G133.cast (M := TP ++ joinI [32, 44] (x.params.map saP) ++ [32, 41, 32, 59, 10]) (by simp [show sI ⟨#[32, 41, 32, 59, 10]⟩ = [32, 41, 32, 59, 10] from rfl])
          clear Gp
          clear r2
          obtain ⟨TQ, hTQ⟩ : ∃ t, t = TP ++ joinI [32, 44] (x.params.map saP) ++ [32, 41, 32, 59, 10] := ⟨_, rfl⟩
          have HTQ : Hid (TQ = TP ++ joinI [32, 44] (x.params.map saP) ++ [32, 41, 32, 59, 10]) := hTQ
          rw [← hTQ] at G133
          have hTQl : TQ.length + (x.locals.flatMap prLocal).length + (prB x.body).length ≤ 500000000 := by rw [hTQ]; (try simp only [ll]); omega
          clear hTQ
          have HG : Hid (Sg w w 0 base (fun x => Blk x gx 36 [.slice (some an0) n0 c0, .slice a1 n1 c1, .slice a2 n2 c2, .slice (some ⟨b, o, none⟩) n3 c3] ∧ Blk x gp 62 [.slice p0 v0 d0, .bool false, .slice p2 v2 d2, .slice p3 v3 d3, .slice p4 v4 d4]) w133 (TQ ++ (x.locals.take 0).flatMap prLocal) v_133) := by
           have := G133
           show Sg _ _ _ _ _ _ _ _
           simpa using this
          clear G133
          go_wp2_with fail
          go_loopw [3, 9] (fun bb i wr => ∃ k : Nat, k ≤ v3 ∧ i = .int .i64 k ∧ Hid (Sg w w 0 base (fun x => Blk x gx 36 [.slice (some an0) n0 c0, .slice a1 n1 c1, .slice a2 n2 c2, .slice (some ⟨b, o, none⟩) n3 c3] ∧ Blk x gp 62 [.slice p0 v0 d0, .bool false, .slice p2 v2 d2, .slice p3 v3 d3, .slice p4 v4 d4]) wr (TQ ++ (x.locals.take k).flatMap prLocal) bb)) (fun _ i _ => v3 - (intOf i).toNat)
          case atStart => exact ⟨0, Nat.zero_le _, rfl, HG⟩
          case round =>
           obtain ⟨k, hk, rfl, hGq⟩ := hrel
           have Gq := hGq.out
           clear HG hGq
           have r3 := Gq.cellR (i := 3) rfl
           by_cases hl3 : k < v3
           ·
            obtain ⟨b', o', rfl⟩ := LRow.addr HP3.out (by rw [j3]; omega)
            obtain ⟨y, hy⟩ : ∃ y, x.locals[k]? = some y := ⟨x.locals[k]'(by rw [F3.out]; exact hl3), List.getElem?_eq_getElem _⟩
            have hyj : (txts x.locals)[k]? = some [.b y] := by unfold txts; rw [List.getElem?_map, hy]; rfl
            obtain ⟨us, hvs, hcl⟩ := (LRow.el HP3.out hyj).vals
            obtain ⟨z0, _, rfl, ⟨ax, cx, rfl, hbx, _⟩, rfl⟩ := hvs
            have t0 : w.cell? ⟨b', o' + k * 1, none⟩ = some (.slice ax y.length cx) := hcl 0 _ rfl
            have hsx : recLen [.b y] ≤ 1048576 := Nat.le_trans (recLen_le (List.mem_of_getElem? hyj)) s3
            have hnx : y.length ≤ 1048576 := by simp [recLen, Fl.len] at hsx; omega
            have hnp : 0 < y.length := name_pos (HLOK.out y (List.mem_of_getElem? hy))
            have HNX2 : Hid ((x.locals.take (k + 1)).flatMap prLocal = (x.locals.take k).flatMap prLocal ++ prLocal y) := flat_next hy
            have hf2 := flat_take prLocal x.locals k
            clear hcl hy hyj hsx
            obtain ⟨nx, hnx'⟩ : ∃ z, z = y.length := ⟨_, rfl⟩
            rw [← hnx'] at t0 hnp hbx
            have hnx2 : nx ≤ 1048576 := by omega
            clear hnx'
            simp only [Nat.mul_one] at t0
            have hkn : (k : Int) < (v3 : Int) := by omega
            go_upto_region 33 with fail
            clear r3
            have G134 := Gq.drew
            refine wp_region_held_drew (S := fun wx => wx.cell? ⟨gp, 3, none⟩ = some (.slice (some ⟨b', o', none⟩) v3 d3) ∧ wx.cell? ⟨b', o' + k, none⟩ = some (.slice ax nx cx)) (by kernel_rfl) ⟨G134.cellR (i := 3) rfl, cell_on t0 G134.bel⟩ (fun hHeld => ?_)
            generalize wr.drew = w134 at *
            clear Gq
            refine ta 0 ?_ hHeld
            refine ta 2 ?_ hHeld
            refine ta 3 ?_ hHeld
            try simp only [nrm]
            refine ta 4 ?_ hHeld
            refine ta 5 ?_ hHeld
            refine ta 6 ?_ hHeld
            try simp only [nrm]
            refine ra 1 fun K hK => ?_
            rw [if_pos (by kernel_rfl)]
            refine G134.str_wp _ _ rfl rfl ⟨#[86, 65, 82, 32]⟩ rfl (by show _ + 4 ≤ _; (try simp only [ll]); omega) ?_
            intro v136 w136 G136 gr136
            replace G136 : Sg w w 0 base _ w136 (TQ ++ (x.locals.take k).flatMap prLocal ++ [86, 65, 82, 32]) v136 := G136
            refine hK.out _ _ ⟨G136.cellR (i := 3) rfl, cell_on t0 G136.bel⟩ (fun hHeld => ?_)
            clear hK K G134
            try simp only [nrm]
            refine ra 7 fun K hK => ?_
            rw [if_pos (by kernel_rfl)]
            refine G136.row_wp _ _ rfl rfl ax nx cx y rfl (G136.row hbx) hnp (by (try simp only [ll]); omega) ?_
            intro v138 w138 G138 gr138
            refine hK.out _ _ ⟨G138.cellR (i := 3) rfl, cell_on t0 G138.bel⟩ (fun hHeld => ?_)
            clear hK K G136
            try simp only [nrm]
            refine ra 8 fun K hK => ?_
            rw [if_pos (by kernel_rfl)]
            refine G138.str_wp _ _ rfl rfl ⟨#[32, 59, 10]⟩ rfl (by show _ + 3 ≤ _; (try simp only [ll]); omega) ?_
            intro v140 w140 G140 gr140
            replace G140 : Sg w w 0 base _ w140 (TQ ++ (x.locals.take k).flatMap prLocal ++ [86, 65, 82, 32] ++ y ++ [32, 59, 10]) v140 := G140
            refine hK.out _ _ ⟨G140.cellR (i := 3) rfl, cell_on t0 G140.bel⟩ (fun hHeld => ?_)
            clear hK K G138
            try simp only [nrm]
            refine ta 9 ?_ hHeld
            try simp only [nrm]
            refine wpAnyH_done (by kernel_rfl) ?_ _
            have HG' : Hid (Sg w w 0 base (fun x => Blk x gx 36 [.slice (some an0) n0 c0, .slice a1 n1 c1, .slice a2 n2 c2, .slice (some ⟨b, o, none⟩) n3 c3] ∧ Blk x gp 62 [.slice p0 v0 d0, .bool false, .slice p2 v2 d2, .slice (some ⟨b', o', none⟩) v3 d3, .slice p4 v4 d4]) w140 (TQ ++ (x.locals.take (k + 1)).flatMap prLocal) v140) := by
             have := G140
             show Sg _ _ _ _ _ _ _ _
             rw [HNX2.out, prLocal]
             simpa [List.append_assoc] using this
            clear G140
            go_wp2_with fail
            go_roundw
            case rel => exact ⟨k + 1, by omega, by go_num, HG'⟩
            case measure => simp [intOf]; omega
           ·
            have : v3 = k := by omega
            subst this
            rw [List.take_of_length_le (by rw [F3.out]; exact Nat.le_refl _)] at Gq
            go_upto_region 34 with fail
            clear r3
            have G141 := Gq.drew
            refine wp_region_held_drew (S := fun wx => wx.cell? ⟨gp, 4, none⟩ = some (.slice p4 v4 d4)) (by kernel_rfl) (G141.cellR (i := 4) rfl) (fun hHeld => ?_)
            generalize wr.drew = w141 at *
            clear Gq
            refine ta 0 ?_ hHeld
            refine ta 2 ?_ hHeld
            refine ta 3 ?_ hHeld
            try simp only [nrm]
            refine ra 1 fun K hK => ?_
            rw [if_pos (by kernel_rfl)]
            refine G141.str_wp _ _ rfl rfl ⟨#[66, 69, 71, 73, 78, 10]⟩ rfl (by show _ + 6 ≤ _; (try simp only [ll]); omega) ?_
            intro v143 w143 G143 gr143
            replace G143 : Sg w w 0 base _ w143 (TQ ++ x.locals.flatMap prLocal ++ [66, 69, 71, 73, 78, 10]) v143 := G143
            refine hK.out _ _ (G143.cellR (i := 4) rfl) (fun hHeld => ?_)
            clear hK K G141
            try simp only [nrm]
            refine ra 4 fun K hK => ?_
            go_simp
            have HC := sayB x.body w w143 _ _ base (TQ ++ x.locals.flatMap prLocal ++ [66, 69, 71, 73, 78, 10]) v143 HP4.out G143.bel G143.h0 G143.le G143.own HBOK.out (by (try simp only [ll]); omega) s4
            rw [F4.out] at HC
            refine HC.mono ?_
            rintro e w144 ⟨v_144, rfl, ho144, hw144⟩
            have G144 := G143.step hw144 ho144
            clear HC ho144 hw144
            go_wp2_with fail
            refine hK.out _ _ (G144.cellR (i := 4) rfl) (fun hHeld => ?_)
            clear hK K G143
            try simp only [nrm]
            refine ra 5 fun K hK => ?_
            rw [if_pos (by kernel_rfl)]
            refine G144.str_wp _ _ rfl rfl ⟨#[69, 78, 68, 32, 59, 10]⟩ rfl (by show _ + 6 ≤ _; (try simp only [ll]); omega) ?_
            intro v147 w147 G147 gr147
            replace G147 : Sg w w 0 base _ w147 (TQ ++ x.locals.flatMap prLocal ++ [66, 69, 71, 73, 78, 10] ++ prB x.body ++ [69, 78, 68, 32, 59, 10]) v147 := G147
            refine hK.out _ _ (G147.cellR (i := 4) rfl) (fun hHeld => ?_)
            clear hK K G144
            try simp only [nrm]
            refine ta 6 ?_ hHeld
            try simp only [nrm]
            refine wpAnyH_done (by kernel_rfl) ?_ _
            have HG' : Hid (Sg w w 0 base (fun x => Blk x gx 36 [.slice (some an0) n0 c0, .slice a1 n1 c1, .slice a2 n2 c2, .slice (some ⟨b, o, none⟩) n3 c3]) w147 (T2 ++ (m.procs.take (j + 1)).flatMap prProc) v147) := by
             have := G147.less (keep_blk (by decide))
             show Sg _ _ _ _ _ _ _ _
             rw [HNX.out, HPS'.out]
             rw [HTQ.out, HTP.out] at this
             simpa [List.append_assoc] using this
            clear G147
            go_wp2_with fail
            go_roundw
            case rel => exact ⟨j + 1, by omega, by go_num, HG'⟩
            case measure => simp [intOf]; omega
       ·
        simp only [if_true, if_false, Bool.false_eq_true] at hpl HPS'
        go_wp2_with (at_builtin; refine Sg.str_list G100 rfl _ _ rfl rfl ⟨#[32, 42]⟩ rfl (by show _ + 2 ≤ _; (try simp only [ll]); omega) ?_)
        intro v_148 w148 G148 _
        replace G148 := G148.cast (M := T2 ++ (m.procs.take j).flatMap prProc ++ [80, 82, 79, 67, 32] ++ x.name ++ [32, 42]) (by simp [show sI ⟨#[32, 42]⟩ = [32, 42] from rfl])
        clear G100
        go_wp2_with (at_builtin; refine Sg.str_list G148 rfl _ _ rfl rfl ⟨#[32, 40]⟩ rfl (by show _ + 2 ≤ _; (try simp only [ll]); omega) ?_)
        intro v_149 w149 G149 _
        replace G149 := G149.cast (M := T2 ++ (m.procs.take j).flatMap prProc ++ [80, 82, 79, 67, 32] ++ x.name ++ [32, 42] ++ [32, 40]) (by simp [show sI ⟨#[32, 40]⟩ = [32, 40] from rfl])
        clear G148
        clear r1
        obtain ⟨TP, hTP⟩ : ∃ t, t = T2 ++ (m.procs.take j).flatMap prProc ++ [80, 82, 79, 67, 32] ++ x.name ++ [32, 42] ++ [32, 40] := ⟨_, rfl⟩
        have HTP : Hid (TP = T2 ++ (m.procs.take j).flatMap prProc ++ [80, 82, 79, 67, 32] ++ x.name ++ [32, 42] ++ [32, 40]) := hTP
        rw [← hTP] at G149
        have hTPl : TP.length + (joinI [32, 44] (x.params.map saP)).length + 5 + (x.locals.flatMap prLocal).length + 6 + (prB x.body).length + 6 ≤ 500000000 := by rw [hTP]; (try simp only [ll]); omega
        clear hTP
        have HG : Hid (Sg w w 0 base (fun x => Blk x gx 36 [.slice (some an0) n0 c0, .slice a1 n1 c1, .slice a2 n2 c2, .slice (some ⟨b, o, none⟩) n3 c3] ∧ Blk x gp 62 [.slice p0 v0 d0, .bool true, .slice p2 v2 d2, .slice p3 v3 d3, .slice p4 v4 d4]) w149 (TP ++ joinI [32, 44] ((x.params.map saP).take 0)) v_149) := by
         have := G149
         show Sg _ _ _ _ _ _ _ _
         simpa [joinI] using this
        clear G149
        go_wp2_with fail
        go_loopw [3, 8] (fun bb i wr => ∃ k : Nat, k ≤ v2 ∧ i = .int .i64 k ∧ Hid (Sg w w 0 base (fun x => Blk x gx 36 [.slice (some an0) n0 c0, .slice a1 n1 c1, .slice a2 n2 c2, .slice (some ⟨b, o, none⟩) n3 c3] ∧ Blk x gp 62 [.slice p0 v0 d0, .bool true, .slice p2 v2 d2, .slice p3 v3 d3, .slice p4 v4 d4]) wr (TP ++ joinI [32, 44] ((x.params.map saP).take k)) bb)) (fun _ i _ => v2 - (intOf i).toNat)
        case atStart => exact ⟨0, Nat.zero_le _, rfl, HG⟩
        case round =>
         obtain ⟨k, hk, rfl, hGp⟩ := hrel
         have Gp := hGp.out
         clear HG hGp
         have r2 := Gp.cellR (i := 2) rfl
         by_cases hl2 : k < v2
         ·
          obtain ⟨b', o', rfl⟩ := LRow.addr HP2.out (by rw [j2]; omega)
          obtain ⟨y, hy⟩ : ∃ y, x.params[k]? = some y := ⟨x.params[k]'(by rw [F2.out]; exact hl2), List.getElem?_eq_getElem _⟩
          have hyj : (x.params.map Pa.fl)[k]? = some y.fl := by rw [List.getElem?_map, hy]; rfl
          obtain ⟨us, hvs, hcl⟩ := (LRow.el HP2.out hyj).vals
          obtain ⟨z0, _, rfl, ⟨ax, cx, rfl, hbx, _⟩, z1, _, rfl, rfl, rfl⟩ := hvs
          have t0 : w.cell? ⟨b', o' + k * 2, none⟩ = some (.slice ax y.name.length cx) := hcl 0 _ rfl
          have t1 : w.cell? ⟨b', o' + k * 2 + 1, none⟩ = some (.bool y.arr) := hcl 1 _ rfl
          have hsx : recLen y.fl ≤ 1048576 := Nat.le_trans (recLen_le (List.mem_of_getElem? hyj)) s2
          have hnx : y.name.length ≤ 1048576 := by simp [Pa.fl, recLen, Fl.len] at hsx; omega
          have hnp : 0 < y.name.length := name_pos (HPOK.out y (List.mem_of_getElem? hy))
          have hyt : (x.params.map saP)[k]? = some (saP y) := by rw [List.getElem?_map, hy]; rfl
          have HJ : Hid (joinI [32, 44] ((x.params.map saP).take (k + 1)) = if k = 0 then saP y else joinI [32, 44] ((x.params.map saP).take k) ++ [32, 44] ++ saP y) := joinI_next hyt
          have hjl : (joinI [32, 44] ((x.params.map saP).take k)).length ≤ (joinI [32, 44] (x.params.map saP)).length := joinI_take _ _ _ (by rw [List.length_map, F2.out]; omega)
          clear hcl hy hyj hsx hyt
          obtain ⟨nm, ar⟩ := y
          simp only at *
          obtain ⟨nx, hnx'⟩ : ∃ z, z = nm.length := ⟨_, rfl⟩
          rw [← hnx'] at t0 hnp hbx
          have hnx2 : nx ≤ 1048576 := by omega
          clear hnx'
          have hkn : (k : Int) < (v2 : Int) := by omega
          by_cases hk0 : k = 0
          ·
           subst hk0
           simp only [Nat.zero_mul, Nat.add_zero] at t0 t1
           cases ar
           ·
            have r2 := Gp.cellR (i := 2) rfl
            have r1 := cell_on t1 Gp.bel
            go_upto_region 28 with fail
            clear r2 r1
            have G150 := Gp.drew
            refine wp_region_held_drew (S := fun wx => wx.cell? ⟨gp, 2, none⟩ = some (.slice (some ⟨b', o', none⟩) v2 d2) ∧ wx.cell? ⟨b', o', none⟩ = some (.slice ax nx cx)) (by kernel_rfl) ⟨G150.cellR (i := 2) rfl, cell_on t0 G150.bel⟩ (fun hHeld => ?_)
            generalize wr.drew = w150 at *
            clear Gp
            refine ta 0 ?_ hHeld
            refine ta 3 ?_ hHeld
            refine ta 4 ?_ hHeld
            try simp only [nrm]
            refine ta 5 ?_ hHeld
            refine ta 6 ?_ hHeld
            refine ta 7 ?_ hHeld
            try simp only [nrm]
            refine ta 8 ?_ hHeld
            try simp only [nrm]
            refine ra 1 fun K hK => ?_
            go_simp
            have R152 : (w150.alloc (.cells #[.int .u8 32] 5)).heap[w150.heap.size]? = some (Obj.cells #[.int .u8 32] 5 (0, 0)) := heap_alloc_new w150 _
            have F152 := G150.free
            have G152 := G150.alloc (.cells #[.int .u8 32] 5)
            refine hK.out _ _ ⟨G152.cellR (i := 2) rfl, cell_on t0 G152.bel⟩ (fun hHeld => ?_)
            clear hK K G150
            try simp only [nrm]
            generalize w150.alloc (.cells #[.int .u8 32] 5) = w152 at *
            generalize w150.heap.size = g152 at *
            refine ra 2 fun K hK => ?_
            rw [if_pos (by kernel_rfl)]
            refine G152.row_wp _ _ rfl rfl (some ⟨g152, 0, none⟩) 1 1 [32] rfl (one_blk (by omega) (by omega) R152) (by omega) (by (try simp only [ll]); omega) ?_
            intro v154 w154 G154 gr154
            refine hK.out _ _ ⟨G154.cellR (i := 2) rfl, cell_on t0 G154.bel⟩ (fun hHeld => ?_)
            clear hK K G152
            try simp only [nrm]
            refine ra 9 fun K hK => ?_
            rw [if_pos (by kernel_rfl)]
            refine G154.row_wp _ _ rfl rfl ax nx cx nm rfl (G154.row hbx) hnp (by (try simp only [ll]); omega) ?_
            intro v156 w156 G156 gr156
            refine hK.out _ _ ⟨G156.cellR (i := 2) rfl, cell_on t0 G156.bel⟩ (fun hHeld => ?_)
            clear hK K G154
            try simp only [nrm]
            refine ta 10 ?_ hHeld
            try simp only [nrm]
            refine wpAnyH_done (by kernel_rfl) ?_ _
            have HG' : Hid (Sg w w 0 base (fun x => Blk x gx 36 [.slice (some an0) n0 c0, .slice a1 n1 c1, .slice a2 n2 c2, .slice (some ⟨b, o, none⟩) n3 c3] ∧ Blk x gp 62 [.slice p0 v0 d0, .bool true, .slice (some ⟨b', o', none⟩) v2 d2, .slice p3 v3 d3, .slice p4 v4 d4]) w156 (TP ++ joinI [32, 44] ((x.params.map saP).take (0 + 1))) v156) := by
             have := G156
             show Sg _ _ _ _ _ _ _ _
             rw [HJ.out]
             simpa [saP, joinI, List.append_assoc] using this
            clear G156
            go_wp2_with fail
            go_roundw
            case rel => exact ⟨1, by omega, rfl, HG'⟩
            case measure => simp [intOf]; omega
           ·
            have r2 := Gp.cellR (i := 2) rfl
            have r1 := cell_on t1 Gp.bel
            go_wp2_with (at_builtin; refine Sg.str_list Gp rfl _ _ rfl rfl ⟨#[32, 64]⟩ rfl (by show _ + 2 ≤ _; (try simp only [ll]); omega) ?_)
            intro v_157 w157 G157 _
            replace G157 := G157.cast (M := TP ++ joinI [32, 44] ((x.params.map saP).take 0) ++ [32, 64]) (by simp [show sI ⟨#[32, 64]⟩ = [32, 64] from rfl])
            clear Gp
            go_upto_region 28 with fail
            clear r2 r1
            have G158 := G157.drew
            refine wp_region_held_drew (S := fun wx => wx.cell? ⟨gp, 2, none⟩ = some (.slice (some ⟨b', o', none⟩) v2 d2) ∧ wx.cell? ⟨b', o', none⟩ = some (.slice ax nx cx)) (by kernel_rfl) ⟨G158.cellR (i := 2) rfl, cell_on t0 G158.bel⟩ (fun hHeld => ?_)
            generalize w157.drew = w158 at *
            clear G157
            refine ta 0 ?_ hHeld
            refine ta 3 ?_ hHeld
            refine ta 4 ?_ hHeld
            try simp only [nrm]
            refine ta 5 ?_ hHeld
            refine ta 6 ?_ hHeld
            refine ta 7 ?_ hHeld
            try simp only [nrm]
            refine ta 8 ?_ hHeld
            try simp only [nrm]
            refine ra 1 fun K hK => ?_
            go_simp
            have R160 : (w158.alloc (.cells #[.int .u8 32] 5)).heap[w158.heap.size]? = some (Obj.cells #[.int .u8 32] 5 (0, 0)) := heap_alloc_new w158 _
            have F160 := G158.free
            have G160 := G158.alloc (.cells #[.int .u8 32] 5)
            refine hK.out _ _ ⟨G160.cellR (i := 2) rfl, cell_on t0 G160.bel⟩ (fun hHeld => ?_)
            clear hK K G158
            try simp only [nrm]
            generalize w158.alloc (.cells #[.int .u8 32] 5) = w160 at *
            generalize w158.heap.size = g160 at *
            refine ra 2 fun K hK => ?_
            rw [if_pos (by kernel_rfl)]
            refine G160.row_wp _ _ rfl rfl (some ⟨g160, 0, none⟩) 1 1 [32] rfl (one_blk (by omega) (by omega) R160) (by omega) (by (try simp only [ll]); omega) ?_
            intro v162 w162 G162 gr162
            refine hK.out _ _ ⟨G162.cellR (i := 2) rfl, cell_on t0 G162.bel⟩ (fun hHeld => ?_)
            clear hK K G160
            try simp only [nrm]
            refine ra 9 fun K hK => ?_
            rw [if_pos (by kernel_rfl)]
            refine G162.row_wp _ _ rfl rfl ax nx cx nm rfl (G162.row hbx) hnp (by (try simp only [ll]); omega) ?_
            intro v164 w164 G164 gr164
            refine hK.out _ _ ⟨G164.cellR (i := 2) rfl, cell_on t0 G164.bel⟩ (fun hHeld => ?_)
            clear hK K G162
            try simp only [nrm]
            refine ta 10 ?_ hHeld
            try simp only [nrm]
            refine wpAnyH_done (by kernel_rfl) ?_ _
            have HG' : Hid (Sg w w 0 base (fun x => Blk x gx 36 [.slice (some an0) n0 c0, .slice a1 n1 c1, .slice a2 n2 c2, .slice (some ⟨b, o, none⟩) n3 c3] ∧ Blk x gp 62 [.slice p0 v0 d0, .bool true, .slice (some ⟨b', o', none⟩) v2 d2, .slice p3 v3 d3, .slice p4 v4 d4]) w164 (TP ++ joinI [32, 44] ((x.params.map saP).take (0 + 1))) v164) := by
             have := G164
             show Sg _ _ _ _ _ _ _ _
             rw [HJ.out]
             simpa [saP, joinI, List.append_assoc] using this
            clear G164
            go_wp2_with fail
            go_roundw
            case rel => exact ⟨1, by omega, rfl, HG'⟩
            case measure => simp [intOf]; omega
          ·
           have hkp : (0 : Int) < (k : Int) := by omega
           go_wp2_with (at_builtin; refine Sg.str_list Gp rfl _ _ rfl rfl ⟨#[32, 44]⟩ rfl (by show _ + 2 ≤ _; (try simp only [ll]); omega) ?_)
           intro v_165 w165 G165 _
           replace G165 := G165.cast (M := TP ++ joinI [32, 44] ((x.params.map saP).take k) ++ [32, 44]) (by simp [show sI ⟨#[32, 44]⟩ = [32, 44] from rfl])
           clear Gp
           cases ar
           ·
            have r2 := G165.cellR (i := 2) rfl
            have r1 := cell_on t1 G165.bel
            go_upto_region 28 with fail
            clear r2 r1
            have G166 := G165.drew
            refine wp_region_held_drew (S := fun wx => wx.cell? ⟨gp, 2, none⟩ = some (.slice (some ⟨b', o', none⟩) v2 d2) ∧ wx.cell? ⟨b', o' + k * 2, none⟩ = some (.slice ax nx cx)) (by kernel_rfl) ⟨G166.cellR (i := 2) rfl, cell_on t0 G166.bel⟩ (fun hHeld => ?_)
            generalize w165.drew = w166 at *
            clear G165
            refine ta 0 ?_ hHeld
            refine ta 3 ?_ hHeld
            refine ta 4 ?_ hHeld
            try simp only [nrm]
            refine ta 5 ?_ hHeld
            refine ta 6 ?_ hHeld
            refine ta 7 ?_ hHeld
            try simp only [nrm]
            refine ta 8 ?_ hHeld
            try simp only [nrm]
            refine ra 1 fun K hK => ?_
            go_simp
            have R168 : (w166.alloc (.cells #[.int .u8 32] 5)).heap[w166.heap.size]? = some (Obj.cells #[.int .u8 32] 5 (0, 0)) := heap_alloc_new w166 _
            have F168 := G166.free
            have G168 := G166.alloc (.cells #[.int .u8 32] 5)
            refine hK.out _ _ ⟨G168.cellR (i := 2) rfl, cell_on t0 G168.bel⟩ (fun hHeld => ?_)
            clear hK K G166
            try simp only [nrm]
            generalize w166.alloc (.cells #[.int .u8 32] 5) = w168 at *
            generalize w166.heap.size = g168 at *
            refine ra 2 fun K hK => ?_
            rw [if_pos (by kernel_rfl)]
            refine G168.row_wp _ _ rfl rfl (some ⟨g168, 0, none⟩) 1 1 [32] rfl (one_blk (by omega) (by omega) R168) (by omega) (by (try simp only [ll]); omega) ?_
            intro v170 w170 G170 gr170
            refine hK.out _ _ ⟨G170.cellR (i := 2) rfl, cell_on t0 G170.bel⟩ (fun hHeld => ?_)
            clear hK K G168
            try simp only [nrm]
            refine ra 9 fun K hK => ?_
            rw [if_pos (by kernel_rfl)]
            refine G170.row_wp _ _ rfl rfl ax nx cx nm rfl (G170.row hbx) hnp (by (try simp only [ll]); omega) ?_
            intro v172 w172 G172 gr172
            refine hK.out _ _ ⟨G172.cellR (i := 2) rfl, cell_on t0 G172.bel⟩ (fun hHeld => ?_)
            clear hK K G170
            try simp only [nrm]
            refine ta 10 ?_ hHeld
            try simp only [nrm]
            refine wpAnyH_done (by kernel_rfl) ?_ _
            have HG' : Hid (Sg w w 0 base (fun x => Blk x gx 36 [.slice (some an0) n0 c0, .slice a1 n1 c1, .slice a2 n2 c2, .slice (some ⟨b, o, none⟩) n3 c3] ∧ Blk x gp 62 [.slice p0 v0 d0, .bool true, .slice (some ⟨b', o', none⟩) v2 d2, .slice p3 v3 d3, .slice p4 v4 d4]) w172 (TP ++ joinI [32, 44] ((x.params.map saP).take (k + 1))) v172) := by
             have := G172
             show Sg _ _ _ _ _ _ _ _
             rw [HJ.out, if_neg hk0]
             simpa [saP, joinI, List.append_assoc] using this
            clear G172
            go_wp2_with fail
            go_roundw
            case rel => exact ⟨k + 1, by omega, by go_num, HG'⟩
            case measure => simp [intOf]; omega
           ·
            have r2 := G165.cellR (i := 2) rfl
            have r1 := cell_on t1 G165.bel
            go_wp2_with (at_builtin; refine Sg.str_list G165 rfl _ _ rfl rfl ⟨#[32, 64]⟩ rfl (by show _ + 2 ≤ _; (try simp only [ll]); omega) ?_)
            intro v_173 w173 G173 _
            replace G173 := G173.cast (M := TP ++ joinI [32, 44] ((x.params.map saP).take k) ++ [32, 44] ++ [32, 64]) (by simp [show sI ⟨#[32, 64]⟩ = [32, 64] from rfl])
            clear G165
            go_upto_region 28 with fail
            clear r2 r1
            have G174 := G173.drew
            refine wp_region_held_drew (S := fun wx => wx.cell? ⟨gp, 2, none⟩ = some (.slice (some ⟨b', o', none⟩) v2 d2) ∧ wx.cell? ⟨b', o' + k * 2, none⟩ = some (.slice ax nx cx)) (by kernel_rfl) ⟨G174.cellR (i := 2) rfl, cell_on t0 G174.bel⟩ (fun hHeld => ?_)
            generalize w173.drew = w174 at *
            clear G173
            refine ta 0 ?_ hHeld
            refine ta 3 ?_ hHeld
            refine ta 4 ?_ hHeld
            try simp only [nrm]
            refine ta 5 ?_ hHeld
            refine ta 6 ?_ hHeld
            refine ta 7 ?_ hHeld
            try simp only [nrm]
            refine ta 8 ?_ hHeld
            try simp only [nrm]
            refine ra 1 fun K hK => ?_
            go_simp
            have R176 : (w174.alloc (.cells #[.int .u8 32] 5)).heap[w174.heap.size]? = some (Obj.cells #[.int .u8 32] 5 (0, 0)) := heap_alloc_new w174 _
            have F176 := G174.free
            have G176 := G174.alloc (.cells #[.int .u8 32] 5)
            refine hK.out _ _ ⟨G176.cellR (i := 2) rfl, cell_on t0 G176.bel⟩ (fun hHeld => ?_)
            clear hK K G174
            try simp only [nrm]
            generalize w174.alloc (.cells #[.int .u8 32] 5) = w176 at *
            generalize w174.heap.size = g176 at *
            refine ra 2 fun K hK => ?_
            rw [if_pos (by kernel_rfl)]
            refine G176.row_wp _ _ rfl rfl (some ⟨g176, 0, none⟩) 1 1 [32] rfl (one_blk (by omega) (by omega) R176) (by omega) (by (try simp only [ll]); omega) ?_
            intro v178 w178 G178 gr178
            refine hK.out _ _ ⟨G178.cellR (i := 2) rfl, cell_on t0 G178.bel⟩ (fun hHeld => ?_)
            clear hK K G176
            try simp only [nrm]
            refine ra 9 fun K hK => ?_
            rw [if_pos (by kernel_rfl)]
            refine G178.row_wp _ _ rfl rfl ax nx cx nm rfl (G178.row hbx) hnp (by (try simp only [ll]); omega) ?_
            intro v180 w180 G180 gr180
            refine hK.out _ _ ⟨G180.cellR (i := 2) rfl, cell_on t0 G180.bel⟩ (fun hHeld => ?_)
            clear hK K G178
            try simp only [nrm]
            refine ta 10 ?_ hHeld
            try simp only [nrm]
            refine wpAnyH_done (by kernel_rfl) ?_ _
            have HG' : Hid (Sg w w 0 base (fun x => Blk x gx 36 [.slice (some an0) n0 c0, .slice a1 n1 c1, .slice a2 n2 c2, .slice (some ⟨b, o, none⟩) n3 c3] ∧ Blk x gp 62 [.slice p0 v0 d0, .bool true, .slice (some ⟨b', o', none⟩) v2 d2, .slice p3 v3 d3, .slice p4 v4 d4]) w180 (TP ++ joinI [32, 44] ((x.params.map saP).take (k + 1))) v180) := by
             have := G180
             show Sg _ _ _ _ _ _ _ _
             rw [HJ.out, if_neg hk0]
             simpa [saP, joinI, List.append_assoc] using this
            clear G180
            go_wp2_with fail
            go_roundw
            case rel => exact ⟨k + 1, by omega, by go_num, HG'⟩
            case measure => simp [intOf]; omega
         ·
          have : v2 = k := by omega
          subst this
          rw [List.take_of_length_le (by rw [List.length_map, F2.out]; exact Nat.le_refl _)] at Gp
          go_wp2_with (at_builtin; refine Sg.str_list Gp rfl _ _ rfl rfl ⟨#[32, 41, 32, 59, 10]⟩ rfl (by show _ + 5 ≤ _; (try simp only [ll]); omega) ?_)
          intro v_181 w181 G181 _
          replace G181 := G181.cast (M := TP ++ joinI [32, 44] (x.params.map saP) ++ [32, 41, 32, 59, 10]) (by simp [show sI ⟨#[32, 41, 32, 59, 10]⟩ = [32, 41, 32, 59, 10] from rfl])
          clear Gp
          clear r2
          obtain ⟨TQ, hTQ⟩ : ∃ t, t = TP ++ joinI [32, 44] (x.params.map saP) ++ [32, 41, 32, 59, 10] := ⟨_, rfl⟩
          have HTQ : Hid (TQ = TP ++ joinI [32, 44] (x.params.map saP) ++ [32, 41, 32, 59, 10]) := hTQ
          rw [← hTQ] at G181
          have hTQl : TQ.length + (x.locals.flatMap prLocal).length + (prB x.body).length ≤ 500000000 := by rw [hTQ]; (try simp only [ll]); omega
          clear hTQ
          have HG : Hid (Sg w w 0 base (fun x => Blk x gx 36 [.slice (some an0) n0 c0, .slice a1 n1 c1, .slice a2 n2 c2, .slice (some ⟨b, o, none⟩) n3 c3] ∧ Blk x gp 62 [.slice p0 v0 d0, .bool true, .slice p2 v2 d2, .slice p3 v3 d3, .slice p4 v4 d4]) w181 (TQ ++ (x.locals.take 0).flatMap prLocal) v_181) := by
           have := G181
           show Sg _ _ _ _ _ _ _ _
           simpa using this
          clear G181
          go_wp2_with fail
          go_loopw [3, 9] (fun bb i wr => ∃ k : Nat, k ≤ v3 ∧ i = .int .i64 k ∧ Hid (Sg w w 0 base (fun x => Blk x gx 36 [.slice (some an0) n0 c0, .slice a1 n1 c1, .slice a2 n2 c2, .slice (some ⟨b, o, none⟩) n3 c3] ∧ Blk x gp 62 [.slice p0 v0 d0, .bool true, .slice p2 v2 d2, .slice p3 v3 d3, .slice p4 v4 d4]) wr (TQ ++ (x.locals.take k).flatMap prLocal) bb)) (fun _ i _ => v3 - (intOf i).toNat)
          case atStart => exact ⟨0, Nat.zero_le _, rfl, HG⟩
          case round =>
           obtain ⟨k, hk, rfl, hGq⟩ := hrel
           have Gq := hGq.out
           clear HG hGq
           have r3 := Gq.cellR (i := 3) rfl
           by_cases hl3 : k < v3
           ·
            obtain ⟨b', o', rfl⟩ := LRow.addr HP3.out (by rw [j3]; omega)
            obtain ⟨y, hy⟩ : ∃ y, x.locals[k]? = some y := ⟨x.locals[k]'(by rw [F3.out]; exact hl3), List.getElem?_eq_getElem _⟩
            have hyj : (txts x.locals)[k]? = some [.b y] := by unfold txts; rw [List.getElem?_map, hy]; rfl
            obtain ⟨us, hvs, hcl⟩ := (LRow.el HP3.out hyj).vals
            obtain ⟨z0, _, rfl, ⟨ax, cx, rfl, hbx, _⟩, rfl⟩ := hvs
            have t0 : w.cell? ⟨b', o' + k * 1, none⟩ = some (.slice ax y.length cx) := hcl 0 _ rfl
            have hsx : recLen [.b y] ≤ 1048576 := Nat.le_trans (recLen_le (List.mem_of_getElem? hyj)) s3
            have hnx : y.length ≤ 1048576 := by simp [recLen, Fl.len] at hsx; omega
            have hnp : 0 < y.length := name_pos (HLOK.out y (List.mem_of_getElem? hy))
            have HNX2 : Hid ((x.locals.take (k + 1)).flatMap prLocal = (x.locals.take k).flatMap prLocal ++ prLocal y) := flat_next hy
            have hf2 := flat_take prLocal x.locals k
            clear hcl hy hyj hsx
            obtain ⟨nx, hnx'⟩ : ∃ z, z = y.length := ⟨_, rfl⟩
            rw [← hnx'] at t0 hnp hbx
            have hnx2 : nx ≤ 1048576 := by omega
            clear hnx'
            simp only [Nat.mul_one] at t0
            have hkn : (k : Int) < (v3 : Int) := by omega
            go_upto_region 33 with fail
            clear r3
            have G182 := Gq.drew
            refine wp_region_held_drew (S := fun wx => wx.cell? ⟨gp, 3, none⟩ = some (.slice (some ⟨b', o', none⟩) v3 d3) ∧ wx.cell? ⟨b', o' + k, none⟩ = some (.slice ax nx cx)) (by kernel_rfl) ⟨G182.cellR (i := 3) rfl, cell_on t0 G182.bel⟩ (fun hHeld => ?_)
            generalize wr.drew = w182 at *
            clear Gq
            refine ta 0 ?_ hHeld
            refine ta 2 ?_ hHeld
            refine ta 3 ?_ hHeld
            try simp only [nrm]
            refine ta 4 ?_ hHeld
            refine ta 5 ?_ hHeld
            refine ta 6 ?_ hHeld
            try simp only [nrm]
            refine ra 1 fun K hK => ?_
            rw [if_pos (by kernel_rfl)]
            refine G182.str_wp _ _ rfl rfl ⟨#[86, 65, 82, 32]⟩ rfl (by show _ + 4 ≤ _; (try simp only [ll]); omega) ?_
            intro v184 w184 G184 gr184
            replace G184 : Sg w w 0 base _ w184 (TQ ++ (x.locals.take k).flatMap prLocal ++ [86, 65, 82, 32]) v184 := G184
            refine hK.out _ _ ⟨G184.cellR (i := 3) rfl, cell_on t0 G184.bel⟩ (fun hHeld => ?_)
            clear hK K G182
            try simp only [nrm]
            refine ra 7 fun K hK => ?_
            rw [if_pos (by kernel_rfl)]
            refine G184.row_wp _ _ rfl rfl ax nx cx y rfl (G184.row hbx) hnp (by (try simp only [ll]); omega) ?_
            intro v186 w186 G186 gr186
            refine hK.out _ _ ⟨G186.cellR (i := 3) rfl, cell_on t0 G186.bel⟩ (fun hHeld => ?_)
            clear hK K G184
            try simp only [nrm]
            refine ra 8 fun K hK => ?_
            rw [if_pos (by kernel_rfl)]
            refine G186.str_wp _ _ rfl rfl ⟨#[32, 59, 10]⟩ rfl (by show _ + 3 ≤ _; (try simp only [ll]); omega) ?_
            intro v188 w188 G188 gr188
            replace G188 : Sg w w 0 base _ w188 (TQ ++ (x.locals.take k).flatMap prLocal ++ [86, 65, 82, 32] ++ y ++ [32, 59, 10]) v188 := G188
            refine hK.out _ _ ⟨G188.cellR (i := 3) rfl, cell_on t0 G188.bel⟩ (fun hHeld => ?_)
            clear hK K G186
            try simp only [nrm]
            refine ta 9 ?_ hHeld
            try simp only [nrm]
            refine wpAnyH_done (by kernel_rfl) ?_ _
            have HG' : Hid (Sg w w 0 base (fun x => Blk x gx 36 [.slice (some an0) n0 c0, .slice a1 n1 c1, .slice a2 n2 c2, .slice (some ⟨b, o, none⟩) n3 c3] ∧ Blk x gp 62 [.slice p0 v0 d0, .bool true, .slice p2 v2 d2, .slice (some ⟨b', o', none⟩) v3 d3, .slice p4 v4 d4]) w188 (TQ ++ (x.locals.take (k + 1)).flatMap prLocal) v188) := by
             have := G188
             show Sg _ _ _ _ _ _ _ _
             rw [HNX2.out, prLocal]
             simpa [List.append_assoc] using this
            clear G188
            go_wp2_with fail
            go_roundw
            case rel => exact ⟨k + 1, by omega, by go_num, HG'⟩
            case measure => simp [intOf]; omega
           ·
            have : v3 = k := by omega
            subst this
            rw [List.take_of_length_le (by rw [F3.out]; exact Nat.le_refl _)] at Gq
            go_upto_region 34 with fail
            clear r3
            have G189 := Gq.drew
            refine wp_region_held_drew (S := fun wx => wx.cell? ⟨gp, 4, none⟩ = some (.slice p4 v4 d4)) (by kernel_rfl) (G189.cellR (i := 4) rfl) (fun hHeld => ?_)
            generalize wr.drew = w189 at *
            clear Gq
            refine ta 0 ?_ hHeld
            refine ta 2 ?_ hHeld
            refine ta 3 ?_ hHeld
            try simp only [nrm]
            refine ra 1 fun K hK => ?_
            rw [if_pos (by kernel_rfl)]
            refine G189.str_wp _ _ rfl rfl ⟨#[66, 69, 71, 73, 78, 10]⟩ rfl (by show _ + 6 ≤ _; (try simp only [ll]); omega) ?_
            intro v191 w191 G191 gr191
            replace G191 : Sg w w 0 base _ w191 (TQ ++ x.locals.flatMap prLocal ++ [66, 69, 71, 73, 78, 10]) v191 := G191
            refine hK.out _ _ (G191.cellR (i := 4) rfl) (fun hHeld => ?_)
            clear hK K G189
            try simp only [nrm]
            refine ra 4 fun K hK => ?_
            go_simp
            have HC := sayB x.body w w191 _ _ base (TQ ++ x.locals.flatMap prLocal ++ [66, 69, 71, 73, 78, 10]) v191 HP4.out G191.bel G191.h0 G191.le G191.own HBOK.out (by (try simp only [ll]); omega) s4
            rw [F4.out] at HC
            refine HC.mono ?_
            rintro e w192 ⟨v_192, rfl, ho192, hw192⟩
            have G192 := G191.step hw192 ho192
            clear HC ho192 hw192
            go_wp2_with fail
            refine hK.out _ _ (G192.cellR (i := 4) rfl) (fun hHeld => ?_)
            clear hK K G191
            try simp only [nrm]
            refine ra 5 fun K hK => ?_
            rw [if_pos (by kernel_rfl)]
            refine G192.str_wp _ _ rfl rfl ⟨#[69, 78, 68, 32, 59, 10]⟩ rfl (by show _ + 6 ≤ _; (try simp only [ll]); omega) ?_
            intro v195 w195 G195 gr195
            replace G195 : Sg w w 0 base _ w195 (TQ ++ x.locals.flatMap prLocal ++ [66, 69, 71, 73, 78, 10] ++ prB x.body ++ [69, 78, 68, 32, 59, 10]) v195 := G195
            refine hK.out _ _ (G195.cellR (i := 4) rfl) (fun hHeld => ?_)
            clear hK K G192
            try simp only [nrm]
            refine ta 6 ?_ hHeld
            try simp only [nrm]
            refine wpAnyH_done (by kernel_rfl) ?_ _
            have HG' : Hid (Sg w w 0 base (fun x => Blk x gx 36 [.slice (some an0) n0 c0, .slice a1 n1 c1, .slice a2 n2 c2, .slice (some ⟨b, o, none⟩) n3 c3]) w195 (T2 ++ (m.procs.take (j + 1)).flatMap prProc) v195) := by
             have := G195.less (keep_blk (by decide))
             show Sg _ _ _ _ _ _ _ _
             rw [HNX.out, HPS'.out]
             rw [HTQ.out, HTP.out] at this
             simpa [List.append_assoc] using this
            clear G195
            go_wp2_with fail
            go_roundw
            case rel => exact ⟨j + 1, by omega, by go_num, HG'⟩
            case measure => simp [intOf]; omega
      ·
       have : n3 = j := by omega
       subst this
       rw [List.take_of_length_le (by rw [E3.out]; exact Nat.le_refl _)] at Gr
       go_wp2_with (at_builtin; refine Sg.str_list Gr rfl _ _ rfl rfl ⟨#[69, 78, 68, 32, 46, 10]⟩ rfl (by show _ + 6 ≤ _; (try simp only [ll]); omega) ?_)
       intro v9 w9 G9 _
       replace G9 : Sg w w 0 base (fun x => Blk x gx 36 [.slice (some an0) n0 c0, .slice a1 n1 c1, .slice a2 n2 c2, .slice a3 n3 c3]) w9 (prM m) v9 := by
        rw [HF.out]
        rw [HT2.out, HT1.out, HPM.out] at G9
        simpa [show sI ⟨#[69, 78, 68, 32, 46, 10]⟩ = [69, 78, 68, 32, 46, 10] from rfl, List.append_assoc] using G9
       go_wp2_with fail
       go_ret
       exact ⟨_, rfl, G9.own, grown_below (by have := G9.bel; exact this) none⟩

end Go.Proofs.YtopnodadggohiaaGreatDoor

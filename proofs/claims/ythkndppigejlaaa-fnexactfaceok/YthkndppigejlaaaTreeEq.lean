/- Contracts of the laws' own helpers that compare modules: where both read alike, they say so. By mktreeeq.py. -/
import Derived.Test.YthkndppigejlaaaTreeTo2
namespace Go.Proofs.Ythkndppigejlaaa
open Go.RowKit
set_option linter.unusedVariables false
set_option linter.unusedSimpArgs false
set_option maxRecDepth 100000

def EqV (w : World) (F : Nat) (v u : Value) : Prop :=
  ∀ w1 : World, Below w.heap.size w w1 → Calls Try.prog F #[v, u] w1 fun e w' => e = .returned (.bool true) ∧ Below w1.heap.size w1 w'
def EqF (F : Nat) (f : Fl) : Prop := ∀ (w : World) (v u : Value), f.Rd w v → f.Rd w u → EqV w F v u
def EqR (F : Nat) (r : List Fl) : Prop := ∀ (w : World) (vs us : List Value), RdVals w r vs → RdVals w r us → EqV w F (.agg vs.toArray) (.agg us.toArray)

theorem two_blks (w : World) (t : TypeId) (A B : List Value) :
    Blk ((w.alloc (.cells A.toArray t (0, 0))).alloc (.cells B.toArray t (0, 0))) w.heap.size t A ∧ Blk ((w.alloc (.cells A.toArray t (0, 0))).alloc (.cells B.toArray t (0, 0))) (w.heap.size + 1) t B ∧ Below w.heap.size w ((w.alloc (.cells A.toArray t (0, 0))).alloc (.cells B.toArray t (0, 0))) := by
  have h := Blk.new (w.alloc (.cells A.toArray t (0, 0))) t B
  rw [show (w.alloc (.cells A.toArray t (0, 0))).heap.size = w.heap.size + 1 by simp] at h
  exact ⟨(Blk.new w t A).old, h, ((Below.refl _ _).alloc (Nat.le_refl _) _).alloc (by simp) _⟩

set_option maxHeartbeats 4000000 in
theorem eqFaceProc0 (a0 b0 : Option Addr) (n0 c0 d0 : Nat) (a1 b1 : Option Addr) (n1 c1 d1 : Nat) (w : World)
    (H0 : EqV w 19 (.slice a0 n0 c0) (.slice b0 n0 d0)) (H1 : EqV w 39 (.slice a1 n1 c1) (.slice b1 n1 d1)) :
    Calls Try.prog 32 #[.agg #[.slice a0 n0 c0, .slice a1 n1 c1], .agg #[.slice b0 n0 d0, .slice b1 n1 d1]] w fun e w' => e = .returned (.bool true) ∧ Below w.heap.size w w' := by
  obtain ⟨x, y, hb⟩ := two_blks w 39 [.slice a0 n0 c0, .slice a1 n1 c1] [.slice b0 n0 d0, .slice b1 n1 d1]
  go_enter Try.func32, Try.ntmps32
  go_upto_region 1 with fail
  simp only [List.toArray] at x y hb
  generalize (w.alloc (.cells #[.slice a0 n0 c0, .slice a1 n1 c1] 39 (0, 0))).alloc (.cells #[.slice b0 n0 d0, .slice b1 n1 d1] 39 (0, 0)) = w0 at *
  have q0 := x.cell (i := 0) rfl
  have r0 := y.cell (i := 0) rfl
  have q1 := x.cell (i := 1) rfl
  have r1 := y.cell (i := 1) rfl
  go_wp2_with fail
  refine (H0 w0 hb).mono ?_
  rintro e w1 ⟨rfl, hb1⟩
  clear q0 r0 q1 r1
  replace x := x.below hb1 x.lt
  replace y := y.below hb1 y.lt
  replace hb : Below w.heap.size w w1 := hb.trans (hb1.mono hb.size)
  clear hb1 H0
  have q0 := x.cell (i := 0) rfl
  have r0 := y.cell (i := 0) rfl
  have q1 := x.cell (i := 1) rfl
  have r1 := y.cell (i := 1) rfl
  go_wp2_with fail
  refine (H1 w1 hb).mono ?_
  rintro e w2 ⟨rfl, hb2⟩
  clear q0 r0 q1 r1
  replace x := x.below hb2 x.lt
  replace y := y.below hb2 y.lt
  replace hb : Below w.heap.size w w2 := hb.trans (hb2.mono hb.size)
  clear hb2 H1
  have q0 := x.cell (i := 0) rfl
  have r0 := y.cell (i := 0) rfl
  have q1 := x.cell (i := 1) rfl
  have r1 := y.cell (i := 1) rfl
  go_wp2_with fail
  go_ret
  exact ⟨rfl, hb⟩

set_option maxHeartbeats 4000000 in
theorem eqFace0 (a0 b0 : Option Addr) (n0 c0 d0 : Nat) (a1 b1 : Option Addr) (n1 c1 d1 : Nat) (w : World)
    (H0 : EqV w 19 (.slice a0 n0 c0) (.slice b0 n0 d0)) (H1 : EqV w 20 (.slice a1 n1 c1) (.slice b1 n1 d1)) :
    Calls Try.prog 8 #[.agg #[.slice a0 n0 c0, .slice a1 n1 c1], .agg #[.slice b0 n0 d0, .slice b1 n1 d1]] w fun e w' => e = .returned (.bool true) ∧ Below w.heap.size w w' := by
  obtain ⟨x, y, hb⟩ := two_blks w 30 [.slice a0 n0 c0, .slice a1 n1 c1] [.slice b0 n0 d0, .slice b1 n1 d1]
  go_enter Try.func8, Try.ntmps8
  go_upto_region 1 with fail
  simp only [List.toArray] at x y hb
  generalize (w.alloc (.cells #[.slice a0 n0 c0, .slice a1 n1 c1] 30 (0, 0))).alloc (.cells #[.slice b0 n0 d0, .slice b1 n1 d1] 30 (0, 0)) = w0 at *
  have q0 := x.cell (i := 0) rfl
  have r0 := y.cell (i := 0) rfl
  have q1 := x.cell (i := 1) rfl
  have r1 := y.cell (i := 1) rfl
  go_wp2_with fail
  refine (H0 w0 hb).mono ?_
  rintro e w1 ⟨rfl, hb1⟩
  clear q0 r0 q1 r1
  replace x := x.below hb1 x.lt
  replace y := y.below hb1 y.lt
  replace hb : Below w.heap.size w w1 := hb.trans (hb1.mono hb.size)
  clear hb1 H0
  have q0 := x.cell (i := 0) rfl
  have r0 := y.cell (i := 0) rfl
  have q1 := x.cell (i := 1) rfl
  have r1 := y.cell (i := 1) rfl
  go_wp2_with fail
  refine (H1 w1 hb).mono ?_
  rintro e w2 ⟨rfl, hb2⟩
  clear q0 r0 q1 r1
  replace x := x.below hb2 x.lt
  replace y := y.below hb2 y.lt
  replace hb : Below w.heap.size w w2 := hb.trans (hb2.mono hb.size)
  clear hb2 H1
  have q0 := x.cell (i := 0) rfl
  have r0 := y.cell (i := 0) rfl
  have q1 := x.cell (i := 1) rfl
  have r1 := y.cell (i := 1) rfl
  go_wp2_with fail
  go_ret
  exact ⟨rfl, hb⟩

set_option maxHeartbeats 8000000 in
theorem eqFaceProcSF (l : List Fp) (H : ∀ x ∈ l, EqR 32 (Fp.fl x)) : EqF 20 (.l 2 (l.map Fp.fl)) := by
  intro w0 v u hv hu w hb0
  obtain ⟨a, c, rfl, hl1⟩ := (hv.below hb0).list
  obtain ⟨a2, c2, rfl, hl2⟩ := (hu.below hb0).list
  clear hv hu hb0
  have hm : (l.map Fp.fl).length = l.length := by simp [exs_map, sts_map, txts]
  have hat : ∀ j, j < l.length → ∃ x ∈ l, (l.map Fp.fl)[j]? = some (Fp.fl x) := by
    intro j hj
    exact ⟨l[j], List.getElem_mem hj, by simp [exs_map, sts_map, txts, hj]⟩
  generalize hrs : l.map Fp.fl = rs at hl1 hl2 hm hat ⊢
  clear hrs
  rw [← hm] at hat
  generalize hn : rs.length = n at hl1 hl2 hat ⊢
  clear hm
  have hcn : n ≤ 9223372036854775807 := by have h1 := hl1.cap; have h2 := hl1.most; unfold maxLen at h2; omega
  rcases Nat.eq_zero_or_pos n with h0 | hpos
  · subst h0
    clear hl1 hl2 hat H hn
    go_enter Try.func20, Try.ntmps20
    go_wp2_with fail
    refine wp_loop_rounds 1 ?_
    rw [rounds_succ]
    go_wp2_with fail
    go_ret
    exact ⟨rfl, Below.refl _ _⟩
  · obtain ⟨k1, o1, rfl⟩ := hl1.addr (by rw [hn]; exact hpos)
    obtain ⟨k2, o2, rfl⟩ := hl2.addr (by rw [hn]; exact hpos)
    have HL1 : Hid (LRow w (some ⟨k1, o1, none⟩) c 2 rs) := hl1
    have HL2 : Hid (LRow w (some ⟨k2, o2, none⟩) c2 2 rs) := hl2
    have HA : Hid (∀ j, j < n → ∃ x ∈ l, rs[j]? = some (Fp.fl x)) := hat
    have HH : Hid (∀ x ∈ l, EqR 32 (Fp.fl x)) := H
    clear hl1 hl2 hat H hn
    go_enter Try.func20, Try.ntmps20
    go_wp2_with fail
    go_loopw [5] (fun i wr => ∃ j : Nat, j ≤ n ∧ i = .int .i64 j ∧ Below w.heap.size w wr) (fun i _ => n - (intOf i).toNat)
    case atStart => exact ⟨0, Nat.zero_le _, rfl, Below.refl _ _⟩
    case round =>
      obtain ⟨j, hj, rfl, hbr⟩ := hrel
      by_cases hlt : j < n
      · obtain ⟨x, hx, hxj⟩ := HA.out j hlt
        obtain ⟨vs, hvs, hcl⟩ := ((show LRow w (some ⟨k1, o1, none⟩) c 2 rs from HL1.out).below hbr |>.el hxj).vals
        obtain ⟨us, hus, hcl2⟩ := ((show LRow w (some ⟨k2, o2, none⟩) c2 2 rs from HL2.out).below hbr |>.el hxj).vals
        skip
        skip
        have HC := HH.out x hx wr vs us hvs hus wr.drew ((Below.refl _ wr).drew)
        clear hxj
        obtain ⟨x0, x1⟩ := x
        obtain ⟨ya0, _, rfl, ⟨a0, c0, rfl, da0⟩, ya1, _, rfl, ⟨a1, c1, rfl, da1⟩, rfl⟩ := hvs
        obtain ⟨yb0, _, rfl, ⟨b0, d0, rfl, db0⟩, yb1, _, rfl, ⟨b1, d1, rfl, db1⟩, rfl⟩ := hus
        skip
        have p0 : wr.cell? ⟨k1, o1 + j * 2, none⟩ = some (.slice a0 x0.length c0) := by exact hcl 0 _ rfl
        have q0 : wr.cell? ⟨k2, o2 + j * 2, none⟩ = some (.slice b0 x0.length d0) := by exact hcl2 0 _ rfl
        have p1 : wr.cell? ⟨k1, o1 + j * 2 + 1, none⟩ = some (.slice a1 x1.length c1) := by exact hcl 1 _ rfl
        have q1 : wr.cell? ⟨k2, o2 + j * 2 + 1, none⟩ = some (.slice b1 x1.length d1) := by exact hcl2 1 _ rfl
        clear hcl hcl2 hx da0 db0 da1 db1
        have HS0 : (wr.drew.cell? ⟨k1, o1 + j * 2, none⟩ = some (.slice a0 x0.length c0) ∧ wr.drew.cell? ⟨k1, o1 + j * 2 + 1, none⟩ = some (.slice a1 x1.length c1) ∧ wr.drew.cell? ⟨k2, o2 + j * 2, none⟩ = some (.slice b0 x0.length d0) ∧ wr.drew.cell? ⟨k2, o2 + j * 2 + 1, none⟩ = some (.slice b1 x1.length d1)) := ⟨p0, p1, q0, q1⟩
        have hbs : ∀ {wl : World}, Below wr.drew.heap.size wr.drew wl → (wl.cell? ⟨k1, o1 + j * 2, none⟩ = some (.slice a0 x0.length c0) ∧ wl.cell? ⟨k1, o1 + j * 2 + 1, none⟩ = some (.slice a1 x1.length c1) ∧ wl.cell? ⟨k2, o2 + j * 2, none⟩ = some (.slice b0 x0.length d0) ∧ wl.cell? ⟨k2, o2 + j * 2 + 1, none⟩ = some (.slice b1 x1.length d1)) := by
          intro wl hb
          have e1 : ∀ j, wl.cell? ⟨k1, j, none⟩ = wr.drew.cell? ⟨k1, j, none⟩ := fun j => hb.cell (show k1 < wr.heap.size from World.block_lt_of_cell? wr _ p0)
          have e2 : ∀ j, wl.cell? ⟨k2, j, none⟩ = wr.drew.cell? ⟨k2, j, none⟩ := fun j => hb.cell (show k2 < wr.heap.size from World.block_lt_of_cell? wr _ q0)
          simp only [e1, e2]
          exact HS0
        go_wp2_with fail
        go_region_held3 (fun wx => (wx.cell? ⟨k1, o1 + j * 2, none⟩ = some (.slice a0 x0.length c0) ∧ wx.cell? ⟨k1, o1 + j * 2 + 1, none⟩ = some (.slice a1 x1.length c1) ∧ wx.cell? ⟨k2, o2 + j * 2, none⟩ = some (.slice b0 x0.length d0) ∧ wx.cell? ⟨k2, o2 + j * 2 + 1, none⟩ = some (.slice b1 x1.length d1))) (first | exact HS0 | exact HSl) (first
          | (go_at_call 32; (with_reducible refine HC.mono ?_); rintro e wl ⟨rfl, hbl⟩; have HSl := hbs hbl))
        have hbw : Below w.heap.size w wl := hbr.drew.trans (hbl.mono hbr.size)
        clear HS0 hbs HC p0 q0 p1 q1
        go_wp2_with fail
        go_roundw
        case rel => exact ⟨j + 1, by omega, by go_num, hbw⟩
        case measure => simp [intOf]; omega
      · go_wp2_with fail
        go_ret
        exact ⟨rfl, hbr⟩

theorem eqByteF (l : List Int) (hl : l.length ≤ 1048576) : EqF 19 (.b l) := by
  rintro w v u hv hu w1 hb
  obtain ⟨a, c, rfl, hr, _⟩ := hv.below hb
  obtain ⟨a2, c2, rfl, hr2, _⟩ := hu.below hb
  exact eqT _ _ _ l _ _ _ _ hr hr2 (by omega)

theorem eqIntF (l : List Int) (hl : l.length ≤ 1048576) : EqF 39 (.i l) := by
  rintro w v u hv hu w1 hb
  obtain ⟨a, c, rfl, hr, _⟩ := hv.below hb
  obtain ⟨a2, c2, rfl, hr2, _⟩ := hu.below hb
  refine (eqI _ _ _ l _ _ _ l _ hr hr2 (by omega)).mono ?_
  rintro e w' ⟨rfl, d, rfl⟩
  exact ⟨by rw [decide_eq_true rfl], below_drewN (Below.refl _ _) d⟩

theorem EqV.on {w w1 : World} {F : Nat} {v u : Value} (h : EqV w F v u) (hb : Below w.heap.size w w1) : EqV w1 F v u :=
  fun w2 hb2 => h w2 (hb.trans (hb2.mono hb.size))

theorem eqFaceProcR (x0 : List Int) (x1 : List Int) (S0 : EqF 19 (.b x0)) (S1 : EqF 39 (.i x1)) : EqR 32 (Fp.mk x0 x1).fl := by
  intro w vs us hv hu w1 hb
  unfold Fp.fl at hv hu
  obtain ⟨yh0, _, rfl, h0, yh1, _, rfl, h1, rfl⟩ := hv
  obtain ⟨yk0, _, rfl, k0, yk1, _, rfl, k1, rfl⟩ := hu
  have g0 := (S0 w _ _ h0 k0).on hb
  have g1 := (S1 w _ _ h1 k1).on hb
  obtain ⟨a0, c0, rfl, _⟩ := h0
  obtain ⟨b0, d0, rfl, _⟩ := k0
  obtain ⟨a1, c1, rfl, _⟩ := h1
  obtain ⟨b1, d1, rfl, _⟩ := k1
  exact eqFaceProc0 a0 b0 _ c0 d0 a1 b1 _ c1 d1 w1 g0 g1

theorem eqFaceR (x0 : List Int) (x1 : List Fp) (S0 : EqF 19 (.b x0)) (S1 : EqF 20 (.l 2 (x1.map Fp.fl))) : EqR 8 (Fa.mk x0 x1).fl := by
  intro w vs us hv hu w1 hb
  unfold Fa.fl at hv hu
  obtain ⟨yh0, _, rfl, h0, yh1, _, rfl, h1, rfl⟩ := hv
  obtain ⟨yk0, _, rfl, k0, yk1, _, rfl, k1, rfl⟩ := hu
  have g0 := (S0 w _ _ h0 k0).on hb
  have g1 := (S1 w _ _ h1 k1).on hb
  obtain ⟨a0, c0, rfl, _⟩ := h0
  obtain ⟨b0, d0, rfl, _⟩ := k0
  obtain ⟨a1, c1, rfl, _⟩ := h1
  obtain ⟨b1, d1, rfl, _⟩ := k1
  exact eqFace0 a0 b0 _ c0 d0 a1 b1 _ c1 d1 w1 g0 g1

theorem eqFa (f : Fa) (h : recLen f.fl ≤ 1048576) : EqR 8 f.fl := by
  have e : recLen f.fl = f.name.length + ((f.procs.map Fp.fl).length + rowsLen (f.procs.map Fp.fl)) := by simp [Fa.fl, recLen, Fl.len]
  rw [e] at h
  refine eqFaceR f.name f.procs (eqByteF _ (by omega)) (eqFaceProcSF _ fun q hq => ?_)
  have := rec_le (f := Fp.fl) hq
  simp only [Fp.fl, recLen, Fl.len] at this
  exact eqFaceProcR q.name q.kinds (eqByteF _ (by omega)) (eqIntF _ (by omega))


end Go.Proofs.Ythkndppigejlaaa

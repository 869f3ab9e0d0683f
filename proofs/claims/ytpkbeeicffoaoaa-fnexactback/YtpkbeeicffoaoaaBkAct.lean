/- The action of an event, and of an end, by the program. -/
import Derived.Test.YtpkbeeicffoaoaaBkSpec
import Derived.Test.YtpkbeeicffoaoaaTk
namespace Go.Proofs.Ytpkbeeicffoaoaa
open Go.RowKit
set_option linter.unusedVariables false
set_option linter.unusedSimpArgs false
set_option maxRecDepth 100000

def Ac.enc (c : Value) (r : Ac) : Value := .agg #[.int .i64 r.kind, .int .i64 r.to, .int .i64 r.proc, c, .int .i64 r.n]
/-- What an action comes in: its arguments in a block of their own. -/
def AcFin (o : Option Ac) (w : World) (e : Ending) (w' : World) : Prop :=
  Below w.heap.size w w' ∧ ∃ (a : Option Addr) (n m : Nat) (r : Ac) (b : Bool), e = .returned (.tuple #[r.enc (.slice a n m), .bool b]) ∧ Pc w' 89 2 w.heap.size w'.heap.size (.slice a n m) r.args.length (flatG r.args) ∧ o = if b then some r else none

theorem five_set {w : World} {g : Nat} {T : TypeId} {a b c d e : Value} (x : Blk w g T [a, b, c, d, e]) (a' b' c' d' e' : Value) : Blk (((((w.setCell ⟨g, 0, none⟩ a').setCell ⟨g, 1, none⟩ b').setCell ⟨g, 2, none⟩ c').setCell ⟨g, 3, none⟩ d').setCell ⟨g, 4, none⟩ e') g T [a', b', c', d', e'] := by
  have := ((((x.set (i := 0) a').set (i := 1) b').set (i := 2) c').set (i := 3) d').set (i := 4) e'
  simpa using this

theorem acFin (w : World) (ov : Option Ac) : ∀ (w2 : World) (a : Option Addr) (n m : Nat) (r : Ac) (b : Bool), Below w.heap.size w w2 → Blk w2 (w.heap.size + 1) 53 [.int .i64 0, .int .i64 0, .int .i64 0, .slice none 0 0, .int .i64 0] → Pc w2 89 2 w.heap.size w2.heap.size (.slice a n m) r.args.length (flatG r.args) → (ov = if b then some r else none) →
      ∃ w3, w3 = ((((w2.setCell ⟨w.heap.size + 1, 0, none⟩ (.int .i64 r.kind)).setCell ⟨w.heap.size + 1, 1, none⟩ (.int .i64 r.to)).setCell ⟨w.heap.size + 1, 2, none⟩ (.int .i64 r.proc)).setCell ⟨w.heap.size + 1, 3, none⟩ (.slice a n m)).setCell ⟨w.heap.size + 1, 4, none⟩ (.int .i64 r.n) ∧ (w3.cell? ⟨w.heap.size + 1, 0, none⟩ = some (.int .i64 r.kind) ∧ w3.cell? ⟨w.heap.size + 1, 1, none⟩ = some (.int .i64 r.to) ∧ w3.cell? ⟨w.heap.size + 1, 2, none⟩ = some (.int .i64 r.proc) ∧ w3.cell? ⟨w.heap.size + 1, 3, none⟩ = some (.slice a n m) ∧ w3.cell? ⟨w.heap.size + 1, 4, none⟩ = some (.int .i64 r.n)) ∧ AcFin ov w (.returned (.tuple #[r.enc (.slice a n m), .bool b])) w3 := by
  intro w2 a n m r b hb x hp ho
  have x3 := five_set x (.int .i64 r.kind) (.int .i64 r.to) (.int .i64 r.proc) (.slice a n m) (.int .i64 r.n)
  have hb3 : Below w.heap.size w (((((w2.setCell ⟨w.heap.size + 1, 0, none⟩ (.int .i64 r.kind)).setCell ⟨w.heap.size + 1, 1, none⟩ (.int .i64 r.to)).setCell ⟨w.heap.size + 1, 2, none⟩ (.int .i64 r.proc)).setCell ⟨w.heap.size + 1, 3, none⟩ (.slice a n m)).setCell ⟨w.heap.size + 1, 4, none⟩ (.int .i64 r.n)) := ((((hb.setCell (Nat.le_succ _) _).setCell (Nat.le_succ _) _).setCell (Nat.le_succ _) _).setCell (Nat.le_succ _) _).setCell (Nat.le_succ _) _
  have hs : (((((w2.setCell ⟨w.heap.size + 1, 0, none⟩ (.int .i64 r.kind)).setCell ⟨w.heap.size + 1, 1, none⟩ (.int .i64 r.to)).setCell ⟨w.heap.size + 1, 2, none⟩ (.int .i64 r.proc)).setCell ⟨w.heap.size + 1, 3, none⟩ (.slice a n m)).setCell ⟨w.heap.size + 1, 4, none⟩ (.int .i64 r.n)).heap.size = w2.heap.size := by simp
  have st : ∀ (W : World) (vs : List Value) (i : Nat) (v : Value), Blk W (w.heap.size + 1) 53 vs → Pc W 89 2 w.heap.size w2.heap.size (.slice a n m) r.args.length (flatG r.args) → Pc (W.setCell ⟨w.heap.size + 1, i, none⟩ v) 89 2 w.heap.size w2.heap.size (.slice a n m) r.args.length (flatG r.args) := by
    intro W vs i v hx hp
    refine hp.stays fun g _ _ hc => heap_setCell_other W ⟨w.heap.size + 1, i, none⟩ g v fun e9 => ?_
    have e' : g = w.heap.size + 1 := e9
    subst e'
    exact absurd (blk_typ hx hc) (by decide)
  refine ⟨_, rfl, ⟨x3.cell (i := 0) rfl, x3.cell (i := 1) rfl, x3.cell (i := 2) rfl, x3.cell (i := 3) rfl, x3.cell (i := 4) rfl⟩, hb3, a, n, m, r, b, rfl, ?_, ho⟩
  rw [hs]
  have x1 := x.set (i := 0) (.int .i64 r.kind)
  have x2 := x1.set (i := 1) (.int .i64 r.to)
  have x3' := x2.set (i := 2) (.int .i64 r.proc)
  have x4 := x3'.set (i := 3) (.slice a n m)
  exact st _ _ _ _ x4 (st _ _ _ _ x3' (st _ _ _ _ x2 (st _ _ _ _ x1 (st _ _ _ _ x hp))))

set_option maxHeartbeats 4000000 in
theorem actionC (e : Ev) (ag : Option Addr) (ng cg : Nat) (w : World) (hL : LRow w ag cg 2 (e.args.map Ag.fl)) (hng : e.args.length = ng) (hn9 : ng ≤ 1048576) :
    Calls Try.prog 40 #[.agg #[.int .i64 e.kind, .int .i64 e.fr, .int .i64 e.to, .int .i64 e.proc, .slice ag ng cg, .int .i64 e.n]] w (AcFin (evA e) w) := by
  have xE := (Blk.new w 50 [.int .i64 e.kind, .int .i64 e.fr, .int .i64 e.to, .int .i64 e.proc, .slice ag ng cg, .int .i64 e.n]).old (o := .cells #[.int .i64 0, .int .i64 0, .int .i64 0, .slice none 0 0, .int .i64 0] 53 (0, 0))
  have xA := Blk.new (w.alloc (.cells #[.int .i64 e.kind, .int .i64 e.fr, .int .i64 e.to, .int .i64 e.proc, .slice ag ng cg, .int .i64 e.n] 50 (0, 0))) 53 [.int .i64 0, .int .i64 0, .int .i64 0, .slice none 0 0, .int .i64 0]
  have y0 : Below w.heap.size w ((w.alloc (.cells #[.int .i64 e.kind, .int .i64 e.fr, .int .i64 e.to, .int .i64 e.proc, .slice ag ng cg, .int .i64 e.n] 50 (0, 0))).alloc (.cells #[.int .i64 0, .int .i64 0, .int .i64 0, .slice none 0 0, .int .i64 0] 53 (0, 0))) := ((Below.refl _ _).alloc (Nat.le_refl _) _).alloc (by simp) _
  simp only [List.toArray] at xE xA
  rw [World.size_alloc] at xA
  have HLG := hL.below y0
  have HNG : Hid (e.args.length = ng) := hng
  have HEV : Hid (evA e = if e.kind = 0 then some ⟨0, e.to, e.proc, e.args, e.n⟩ else if e.kind = 1 then some ⟨1, 0, 0, [], e.n⟩ else if e.kind = 2 then some ⟨2, 0, 0, [], e.n⟩ else if e.kind = 3 then some ⟨3, 0, 0, [], 0⟩ else none) := rfl
  generalize evA e = ov at *
  generalize e.kind = kd at *
  generalize e.fr = fr at *
  generalize e.to = tt at *
  generalize e.proc = pp at *
  generalize e.n = nn at *
  clear hL hng
  go_enter Try.func40, Try.ntmps40
  go_upto_region 1 with fail
  generalize (w.alloc (.cells #[.int .i64 kd, .int .i64 fr, .int .i64 tt, .int .i64 pp, .slice ag ng cg, .int .i64 nn] 50 (0, 0))).alloc (.cells #[.int .i64 0, .int .i64 0, .int .i64 0, .slice none 0 0, .int .i64 0] 53 (0, 0)) = w1 at *
  have r0 := xE.cell (i := 0) rfl
  have FIN : Hid _ := acFin w ov
  have r5 := xE.cell (i := 5) rfl
  by_cases hk0 : kd = 0
  · subst hk0
    have hov : ov = some ⟨0, tt, pp, e.args, nn⟩ := by rw [HEV.out]; rfl
    have HOV : Hid _ := hov
    clear hov HEV
    go_wp2_with fail
    have r2 := xE.cell (i := 2) rfl
    have r3 := xE.cell (i := 3) rfl
    have r4 := xE.cell (i := 4) rfl
    have hS0 : (w1.drew.cell? ⟨w.heap.size, 2, none⟩ = some (.int .i64 tt) ∧ w1.drew.cell? ⟨w.heap.size, 3, none⟩ = some (.int .i64 pp) ∧ w1.drew.cell? ⟨w.heap.size, 4, none⟩ = some (.slice ag ng cg) ∧ w1.drew.cell? ⟨w.heap.size, 5, none⟩ = some (.int .i64 nn)) := ⟨r2, r3, r4, r5⟩
    have yd : Below w.heap.size w w1.drew := y0.drew
    have xA' : Blk w1.drew (w.heap.size + 1) 53 [.int .i64 0, .int .i64 0, .int .i64 0, .slice none 0 0, .int .i64 0] := xA
    have xE' : Blk w1.drew w.heap.size 50 [.int .i64 0, .int .i64 fr, .int .i64 tt, .int .i64 pp, .slice ag ng cg, .int .i64 nn] := xE
    have HLG2 : LRow w1.drew ag cg 2 (e.args.map Ag.fl) := HLG.below (Below.refl _ _).drew
    refine wp_region_held_drew (S := fun wl => wl.cell? ⟨w.heap.size, 2, none⟩ = some (.int .i64 tt) ∧ wl.cell? ⟨w.heap.size, 3, none⟩ = some (.int .i64 pp) ∧ wl.cell? ⟨w.heap.size, 4, none⟩ = some (.slice ag ng cg) ∧ wl.cell? ⟨w.heap.size, 5, none⟩ = some (.int .i64 nn)) (by kernel_rfl) hS0 (fun hHeld => ?_)
    refine tk (i := 0) (v := ?v501) rfl (by kernel_rfl) (.inl ⟨by rfl, ?y501⟩) hHeld (fun _ _ _ h => h) ?_
    case y501 => intro w hSw; (try dsimp only at hSw); go_simp; first | done | rfl
    refine tk (i := 1) (v := ?v502) rfl (by kernel_rfl) (.inl ⟨by rfl, ?y502⟩) hHeld (fun _ _ _ h => h) ?_
    case y502 => intro w hSw; (try dsimp only at hSw); go_simp; first | done | rfl
    refine tk (i := 2) (v := ?v503) rfl (by kernel_rfl) (.inl ⟨by rfl, ?y503⟩) hHeld (fun _ _ _ h => h) ?_
    case y503 => intro w hSw; (try dsimp only at hSw); go_simp; first | done | rfl
    try simp only [nrm]
    refine tk (i := 3) (v := ?v504) rfl (by kernel_rfl) (.inl ⟨by rfl, ?y504⟩) hHeld (fun _ _ _ h => h) ?_
    case y504 => intro w hSw; (try dsimp only at hSw); go_simp; first | done | rfl
    refine tk (i := 4) (v := ?v505) rfl (by kernel_rfl) (.inl ⟨by rfl, ?y505⟩) hHeld (fun _ _ _ h => h) ?_
    case y505 => intro w hSw; (try dsimp only at hSw); go_simp; first | done | rfl
    refine tk (i := 5) (v := ?v506) rfl (by kernel_rfl) (.inl ⟨by rfl, ?y506⟩) hHeld (fun _ _ _ h => h) ?_
    case y506 => intro w hSw; (try dsimp only at hSw); go_simp; first | done | rfl
    try simp only [nrm]
    refine tk (i := 7) (v := ?v507) rfl (by kernel_rfl) (.inl ⟨by rfl, ?y507⟩) hHeld (fun _ _ _ h => h) ?_
    case y507 => intro w hSw; (try dsimp only at hSw); go_simp; first | done | rfl
    refine tk (i := 8) (v := ?v508) rfl (by kernel_rfl) (.inl ⟨by rfl, ?y508⟩) hHeld (fun _ _ _ h => h) ?_
    case y508 => intro w hSw; (try dsimp only at hSw); go_simp; first | done | rfl
    try simp only [nrm]
    have oe : w1.drew.ownsRow w1.drew.heap.size 89 2 (.slice none 0 0) 0 (flatG []) := World.ownsRow_nil _ _ _ _
    refine ra 6 (fun K hK => ?_)
    rw [if_pos (by kernel_rfl)]
    refine wp_appendAg _ _ rfl w1.drew.heap.size _ 0 [] rfl oe ag ng cg e.args rfl HNG.out HLG2 (by omega) (Nat.le_refl _) ?_
    intro va wa oa hga
    try rw [Nat.zero_add] at oa
    try rw [List.nil_append] at oa
    have ba : Below w1.drew.heap.size w1.drew wa := below_grown hga
    obtain ⟨aa, ca, rfl, _, _, _, _⟩ := owns_shape oa
    have xAa := xA'.below ba xA'.lt
    have xEa := xE'.below ba xE'.lt
    have hSa : (wa.cell? ⟨w.heap.size, 2, none⟩ = some (.int .i64 tt) ∧ wa.cell? ⟨w.heap.size, 3, none⟩ = some (.int .i64 pp) ∧ wa.cell? ⟨w.heap.size, 4, none⟩ = some (.slice ag ng cg) ∧ wa.cell? ⟨w.heap.size, 5, none⟩ = some (.int .i64 nn)) := ⟨xEa.cell (i := 2) rfl, xEa.cell (i := 3) rfl, xEa.cell (i := 4) rfl, xEa.cell (i := 5) rfl⟩
    refine hK.out _ _ (hSa) (fun hHeld => ?_)
    clear hK K
    try simp only [nrm]
    refine tk (i := 9) (v := ?v509) rfl (by kernel_rfl) (.inl ⟨by rfl, ?y509⟩) hHeld (fun _ _ _ h => h) ?_
    case y509 => intro w hSw; (try dsimp only at hSw); go_simp; first | done | rfl
    try simp only [nrm]
    obtain ⟨w3, hw3, ⟨q0, q1, q2, q3, q4⟩, hfin⟩ := FIN.out wa aa ng ca ⟨0, tt, pp, e.args, nn⟩ true (yd.trans (ba.mono yd.size)) xAa (by show Pc _ _ _ _ _ _ e.args.length _; rw [HNG.out]; exact ⟨owns_mono oa yd.size, fun k hk => (oa.lt k hk).2⟩) (by rw [HOV.out]; rfl)
    have HF : Hid _ := hfin
    have e0 := xAa.cell (i := 0) rfl
    have e1 := xAa.cell (i := 1) rfl
    have e2 := xAa.cell (i := 2) rfl
    have e3 := xAa.cell (i := 3) rfl
    have e4 := xAa.cell (i := 4) rfl
    have f0 := xAa.free 0
    have f1 := xAa.free 1
    have f2 := xAa.free 2
    have f3 := xAa.free 3
    have f4 := xAa.free 4
    have hS3 : (w3.cell? ⟨w.heap.size, 2, none⟩ = some (.int .i64 tt) ∧ w3.cell? ⟨w.heap.size, 3, none⟩ = some (.int .i64 pp) ∧ w3.cell? ⟨w.heap.size, 4, none⟩ = some (.slice ag ng cg) ∧ w3.cell? ⟨w.heap.size, 5, none⟩ = some (.int .i64 nn)) := by
      have hne : w.heap.size ≠ w.heap.size + 1 := by omega
      have x3 : Blk w3 w.heap.size 50 [.int .i64 0, .int .i64 fr, .int .i64 tt, .int .i64 pp, .slice ag ng cg, .int .i64 nn] := by rw [hw3]; exact ((((xEa.other hne).other hne).other hne).other hne).other hne
      exact ⟨x3.cell (i := 2) rfl, x3.cell (i := 3) rfl, x3.cell (i := 4) rfl, x3.cell (i := 5) rfl⟩
    refine ra 10 (fun K hK => ?_)
    rw [if_pos (by kernel_rfl)]
    go_simp
    rw [← hw3]
    refine hK.out _ _ (hS3) (fun hHeld => ?_)
    clear hK K
    try simp only [nrm]
    refine tk (i := 11) (v := ?v510) rfl (by kernel_rfl) (.inl ⟨by rfl, ?y510⟩) hHeld (fun _ _ _ h => h) ?_
    case y510 => intro w hSw; (try dsimp only at hSw); go_simp; first | done | rfl
    try simp only [nrm]
    refine wpAnyH_done (by kernel_rfl) ?_ _
    clear hHeld hS0 hS3 hSa HLG HLG2 oe oa hga ba xAa xEa xA xE xA' xE' yd y0 e0 e1 e2 e3 e4 f0 f1 f2 f3 f4 hw3 r0 r2 r3 r4 r5 FIN hfin
    go_wp2_with fail
    refine bodyPost_ret (v := .tuple #[.agg #[.int .i64 0, .int .i64 tt, .int .i64 pp, .slice aa ng ca, .int .i64 nn], .bool true]) (by simp only [results, Try.results40]; simp [go_sem, q0, q1, q2, q3, q4]) rfl HF.out
  · have e0 := xA.cell (i := 0) rfl
    have e1 := xA.cell (i := 1) rfl
    have e2 := xA.cell (i := 2) rfl
    have e3 := xA.cell (i := 3) rfl
    have e4 := xA.cell (i := 4) rfl
    have f0 := xA.free 0
    have f1 := xA.free 1
    have f2 := xA.free 2
    have f3 := xA.free 3
    have f4 := xA.free 4
    have k0 : (kd == 0) = false := by simpa using hk0
    by_cases hk1 : kd = 1
    · have k1 : (kd == 1) = true := by simpa using hk1
      obtain ⟨w3, hw3, ⟨q0, q1, q2, q3, q4⟩, hfin⟩ := FIN.out w1 none 0 0 ⟨1, 0, 0, [], nn⟩ true y0 xA (Pc.nil _ _ _ _ _) (by rw [HEV.out, if_neg hk0, if_pos hk1]; rfl)
      have HF : Hid _ := hfin
      clear FIN hfin HLG HEV hk0 hk1 xA xE y0
      go_wp2_with fail
      rw [← hw3]
      refine bodyPost_ret (v := .tuple #[.agg #[.int .i64 1, .int .i64 0, .int .i64 0, .slice none 0 0, .int .i64 nn], .bool true]) (by simp only [results, Try.results40]; simp [go_sem, q0, q1, q2, q3, q4]) rfl HF.out
    · have k1 : (kd == 1) = false := by simpa using hk1
      by_cases hk2 : kd = 2
      · have k2 : (kd == 2) = true := by simpa using hk2
        obtain ⟨w3, hw3, ⟨q0, q1, q2, q3, q4⟩, hfin⟩ := FIN.out w1 none 0 0 ⟨2, 0, 0, [], nn⟩ true y0 xA (Pc.nil _ _ _ _ _) (by rw [HEV.out, if_neg hk0, if_neg hk1, if_pos hk2]; rfl)
        have HF : Hid _ := hfin
        clear FIN hfin HLG HEV hk0 hk1 hk2 xA xE y0
        go_wp2_with fail
        rw [← hw3]
        refine bodyPost_ret (v := .tuple #[.agg #[.int .i64 2, .int .i64 0, .int .i64 0, .slice none 0 0, .int .i64 nn], .bool true]) (by simp only [results, Try.results40]; simp [go_sem, q0, q1, q2, q3, q4]) rfl HF.out
      · have k2 : (kd == 2) = false := by simpa using hk2
        by_cases hk3 : kd = 3
        · have k3 : (kd == 3) = true := by simpa using hk3
          obtain ⟨w3, hw3, ⟨q0, q1, q2, q3, q4⟩, hfin⟩ := FIN.out w1 none 0 0 ⟨3, 0, 0, [], 0⟩ true y0 xA (Pc.nil _ _ _ _ _) (by rw [HEV.out, if_neg hk0, if_neg hk1, if_neg hk2, if_pos hk3]; rfl)
          have HF : Hid _ := hfin
          clear FIN hfin HLG HEV hk0 hk1 hk2 hk3 xA xE y0
          go_wp2_with fail
          rw [← hw3]
          refine bodyPost_ret (v := .tuple #[.agg #[.int .i64 3, .int .i64 0, .int .i64 0, .slice none 0 0, .int .i64 0], .bool true]) (by simp only [results, Try.results40]; simp [go_sem, q0, q1, q2, q3, q4]) rfl HF.out
        · have k3 : (kd == 3) = false := by simpa using hk3
          obtain ⟨w3, hw3, ⟨q0, q1, q2, q3, q4⟩, hfin⟩ := FIN.out w1 none 0 0 ⟨0, 0, 0, [], 0⟩ false y0 xA (Pc.nil _ _ _ _ _) (by rw [HEV.out, if_neg hk0, if_neg hk1, if_neg hk2, if_neg hk3]; rfl)
          have HF : Hid _ := hfin
          clear FIN hfin HLG HEV hk0 hk1 hk2 hk3 xA xE y0
          go_wp2_with fail
          rw [← hw3]
          refine bodyPost_ret (v := .tuple #[.agg #[.int .i64 0, .int .i64 0, .int .i64 0, .slice none 0 0, .int .i64 0], .bool false]) (by simp only [results, Try.results40]; simp [go_sem, q0, q1, q2, q3, q4]) rfl HF.out

def lastO (x : Rs) (l : List Bool) : Option Ac := if x.fin = 2 ∧ wildAt l x.who = true then some ⟨4, 0, 0, [], x.code⟩ else if x.fin = 1 ∧ wildAt l ((l.length : Int) - 1) = true then some ⟨1, 0, 0, [], 0⟩ else none
theorem lastA_eq (x : Rs) (l : List Bool) : lastA x l = (lastO x l).toList := by
  unfold lastA lastO
  split
  · rfl
  · split <;> rfl

set_option maxHeartbeats 4000000 in
theorem lastC (x : Rs) (l : List Bool) (vs : List Value) (a : Option Addr) (n c : Nat) (w : World) (h : RdVals w x.fl vs) (hL : LRow w a c 1 (tfs l)) (hn : l.length = n) (h1 : 1 ≤ n) (h9 : n ≤ 8) :
    Calls Try.prog 41 #[.agg vs.toArray, .slice a n c] w (AcFin (lastO x l) w) := by
  obtain ⟨a6, c6, a7, n7, c7, a8, n8, c8, a9, n9, c9, a10, n10, c10, rfl, _⟩ := rsShape h
  generalize x.ev.length = n6 at *
  have xR := (Blk.new w 35 [.int .i64 x.fin, .int .i64 x.code, .int .i64 x.who, .int .i64 x.mod, .int .i64 x.low, .int .i64 x.steps, .slice a6 n6 c6, .slice a7 n7 c7, .slice a8 n8 c8, .slice a9 n9 c9, .slice a10 n10 c10]).old (o := .cells #[.int .i64 0, .int .i64 0, .int .i64 0, .slice none 0 0, .int .i64 0] 53 (0, 0))
  have xA := Blk.new (w.alloc (.cells #[.int .i64 x.fin, .int .i64 x.code, .int .i64 x.who, .int .i64 x.mod, .int .i64 x.low, .int .i64 x.steps, .slice a6 n6 c6, .slice a7 n7 c7, .slice a8 n8 c8, .slice a9 n9 c9, .slice a10 n10 c10] 35 (0, 0))) 53 [.int .i64 0, .int .i64 0, .int .i64 0, .slice none 0 0, .int .i64 0]
  have y0 : Below w.heap.size w ((w.alloc (.cells #[.int .i64 x.fin, .int .i64 x.code, .int .i64 x.who, .int .i64 x.mod, .int .i64 x.low, .int .i64 x.steps, .slice a6 n6 c6, .slice a7 n7 c7, .slice a8 n8 c8, .slice a9 n9 c9, .slice a10 n10 c10] 35 (0, 0))).alloc (.cells #[.int .i64 0, .int .i64 0, .int .i64 0, .slice none 0 0, .int .i64 0] 53 (0, 0))) := ((Below.refl _ _).alloc (Nat.le_refl _) _).alloc (by simp) _
  simp only [List.toArray] at xR xA
  rw [World.size_alloc] at xA
  have HLW := hL.below y0
  have HNN : Hid (l.length = n) := hn
  have HOV : Hid (lastO x l = if x.fin = 2 ∧ wildAt l x.who = true then some ⟨4, 0, 0, [], x.code⟩ else if x.fin = 1 ∧ wildAt l ((n : Int) - 1) = true then some ⟨1, 0, 0, [], 0⟩ else none) := by show _ = _; unfold lastO; rw [hn]
  generalize lastO x l = ov at *
  clear hL hn h
  have hwrap : IntKind.i64.wrap ((n : Int) - 1) = (n : Int) - 1 := by rw [IntKind.wrap_i64]; omega
  go_enter Try.func41, Try.ntmps41
  go_upto_region 1 with fail
  generalize (w.alloc (.cells #[.int .i64 x.fin, .int .i64 x.code, .int .i64 x.who, .int .i64 x.mod, .int .i64 x.low, .int .i64 x.steps, .slice a6 n6 c6, .slice a7 n7 c7, .slice a8 n8 c8, .slice a9 n9 c9, .slice a10 n10 c10] 35 (0, 0))).alloc (.cells #[.int .i64 0, .int .i64 0, .int .i64 0, .slice none 0 0, .int .i64 0] 53 (0, 0)) = w1 at *
  have p0 := xR.cell (i := 0) rfl
  have p1 := xR.cell (i := 1) rfl
  have p2 := xR.cell (i := 2) rfl
  have e0 := xA.cell (i := 0) rfl
  have e1 := xA.cell (i := 1) rfl
  have e2 := xA.cell (i := 2) rfl
  have e3 := xA.cell (i := 3) rfl
  have e4 := xA.cell (i := 4) rfl
  have f0 := xA.free 0
  have f1 := xA.free 1
  have f2 := xA.free 2
  have f3 := xA.free 3
  have f4 := xA.free 4
  have HWW := isAmongC l a n c x.who w1 HLW HNN.out (by omega)
  by_cases hf2 : x.fin = 2
  · have g2 : (x.fin == 2) = true := by simpa using hf2
    have g1 : (x.fin == 1) = false := by simp; omega
    cases hww : wildAt l x.who
    · rw [hww] at HWW
      obtain ⟨w3, hw3, ⟨q0, q1, q2, q3, q4⟩, hfin⟩ := acFin w ov w1 none 0 0 ⟨0, 0, 0, [], 0⟩ false y0 xA (Pc.nil _ _ _ _ _) (by rw [HOV.out, if_neg (by rw [hww]; simp), if_neg (by omega)]; rfl)
      have HF : Hid _ := hfin
      clear hfin HLW HOV xA xR y0 hf2 hww
      go_wp2_with fail
      refine HWW.mono ?_
      rintro e w1 ⟨rfl, rfl⟩
      go_wp2_with fail
      rw [← hw3]
      refine bodyPost_ret (v := .tuple #[.agg #[.int .i64 0, .int .i64 0, .int .i64 0, .slice none 0 0, .int .i64 0], .bool false]) (by simp only [results, Try.results41]; simp [go_sem, q0, q1, q2, q3, q4]) rfl HF.out
    · rw [hww] at HWW
      obtain ⟨w3, hw3, ⟨q0, q1, q2, q3, q4⟩, hfin⟩ := acFin w ov w1 none 0 0 ⟨4, 0, 0, [], x.code⟩ true y0 xA (Pc.nil _ _ _ _ _) (by rw [HOV.out, if_pos ⟨hf2, hww⟩]; rfl)
      have HF : Hid _ := hfin
      clear hfin HLW HOV xA xR y0 hf2 hww
      go_wp2_with fail
      refine HWW.mono ?_
      rintro e w1 ⟨rfl, rfl⟩
      go_wp2_with fail
      rw [← hw3]
      refine bodyPost_ret (v := .tuple #[.agg #[.int .i64 4, .int .i64 0, .int .i64 0, .slice none 0 0, .int .i64 x.code], .bool true]) (by simp only [results, Try.results41]; simp [go_sem, q0, q1, q2, q3, q4]) rfl HF.out
  · have g2 : (x.fin == 2) = false := by simpa using hf2
    by_cases hf1 : x.fin = 1
    · have g1 : (x.fin == 1) = true := by simpa using hf1
      obtain ⟨bw, ow, rfl, kw, hkw, hcw⟩ := wild_cell HLW HNN.out (i := (n : Int) - 1) (by omega) (by omega)
      obtain rfl : kw = n - 1 := by omega
      have htn : ((n : Int) - 1).toNat = n - 1 := by omega
      have hg0 : (0 : Int) ≤ (n : Int) - 1 := by omega
      have hgn : (n : Int) - 1 < (n : Int) := by omega
      clear hkw HWW
      cases hww : wildAt l ((n : Int) - 1)
      · rw [hww] at hcw
        obtain ⟨w3, hw3, ⟨q0, q1, q2, q3, q4⟩, hfin⟩ := acFin w ov w1 none 0 0 ⟨0, 0, 0, [], 0⟩ false y0 xA (Pc.nil _ _ _ _ _) (by rw [HOV.out, if_neg (by omega), if_neg (by rw [hww]; simp)]; rfl)
        have HF : Hid _ := hfin
        clear hfin HLW HOV xA xR y0 hf2 hww hf1
        go_wp2_with fail
        rw [← hw3]
        refine bodyPost_ret (v := .tuple #[.agg #[.int .i64 0, .int .i64 0, .int .i64 0, .slice none 0 0, .int .i64 0], .bool false]) (by simp only [results, Try.results41]; simp [go_sem, q0, q1, q2, q3, q4]) rfl HF.out
      · rw [hww] at hcw
        obtain ⟨w3, hw3, ⟨q0, q1, q2, q3, q4⟩, hfin⟩ := acFin w ov w1 none 0 0 ⟨1, 0, 0, [], 0⟩ true y0 xA (Pc.nil _ _ _ _ _) (by rw [HOV.out, if_neg (by omega), if_pos ⟨hf1, hww⟩]; rfl)
        have HF : Hid _ := hfin
        clear hfin HLW HOV xA xR y0 hf2 hww hf1
        go_wp2_with fail
        rw [← hw3]
        refine bodyPost_ret (v := .tuple #[.agg #[.int .i64 1, .int .i64 0, .int .i64 0, .slice none 0 0, .int .i64 0], .bool true]) (by simp only [results, Try.results41]; simp [go_sem, q0, q1, q2, q3, q4]) rfl HF.out
    · have g1 : (x.fin == 1) = false := by simpa using hf1
      obtain ⟨w3, hw3, ⟨q0, q1, q2, q3, q4⟩, hfin⟩ := acFin w ov w1 none 0 0 ⟨0, 0, 0, [], 0⟩ false y0 xA (Pc.nil _ _ _ _ _) (by rw [HOV.out, if_neg (by omega), if_neg (by omega)]; rfl)
      have HF : Hid _ := hfin
      clear hfin HLW HOV xA xR y0 hf2 HWW hf1
      go_wp2_with fail
      rw [← hw3]
      refine bodyPost_ret (v := .tuple #[.agg #[.int .i64 0, .int .i64 0, .int .i64 0, .slice none 0 0, .int .i64 0], .bool false]) (by simp only [results, Try.results41]; simp [go_sem, q0, q1, q2, q3, q4]) rfl HF.out
end Go.Proofs.Ytpkbeeicffoaoaa

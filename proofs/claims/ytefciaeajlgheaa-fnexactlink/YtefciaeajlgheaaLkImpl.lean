/- What the program tells of objects that are to be linked. By mklkimpl.py. -/
import Derived.Test.YtefciaeajlgheaaLkImg
import Derived.Test.YtefciaeajlgheaaOsOkImpl
import Derived.Test.YtefciaeajlgheaaLast
import Derived.Test.YtefciaeajlgheaaTk
namespace Go.Proofs.Ytefciaeajlgheaa
open Go.RowKit
set_option linter.unusedVariables false
set_option linter.unusedSimpArgs false
set_option maxRecDepth 100000

theorem implMain {W : World} {g : Nat} (h : MC W g) : Calls Try.prog 27 #[.slice (some ⟨g, 0, none⟩) 4 4, .slice none 0 0] W fun e w' => e = .returned (.int .i64 fmain) ∧ Below W.heap.size W w' :=
  implFinger (some ⟨g, 0, none⟩) 4 4 mainN none 0 0 [] W h.row (nil_row _) (by omega) (by omega)

theorem entOk : Ent 22 := ent_of Try.func22 (by kernel_rfl) rfl
theorem entAll : Ent 49 := ent_of Try.func49 (by kernel_rfl) rfl
theorem allObjOk (l : List Oj) (a : Option Addr) (n c : Nat) (w : World) (h : LRow w a c 5 (l.map Oj.fl)) (hn : l.length = n) (hsz : ∀ o ∈ l, recLen o.fl ≤ 1048576) :
    Calls Try.prog 21 #[.slice a n c, .func (.func 22) #[] #[]] w fun e w' => ∃ r : Bool, e = .returned (.bool r) ∧ (r = true ↔ ∀ o ∈ l, objOk o.ob = true) ∧ w.grownBy w' none := by
  refine (allObject 22 #[] none a n c (l.map Oj.fl) (fun j => objOk (ojAt l j).ob) (fun _ wr => Below w.heap.size w wr) (fun _ _ => True) w ⟨entOk, fun j wr hi => h.below hi, ?_, ?_⟩ (by simpa using hn) (Below.refl _ _) (fun j w1 w2 hi hg => hi.trans ((below_grown hg).mono hi.size)) (fun k e => by cases e) entAll).mono ?_
  · intro r hr
    obtain ⟨x, _, rfl⟩ := List.mem_map.1 hr
    rfl
  · intro j r wr vs hr hi hvs _
    rw [List.getElem?_map] at hr
    obtain ⟨x, hx, rfl⟩ := Option.map_eq_some_iff.1 hr
    have hl : vs.length = 5 := hvs.len
    match vs, hl with
    | [v0, v1, v2, v3, v4], _ =>
      have H := implObjectOkM ⟨v0, v1, v2, v3, v4⟩ x.ob wr (oread_of hvs) (by rw [osz_of]; exact hsz x (List.mem_of_getElem? hx))
      refine H.mono ?_
      rintro e w' ⟨rfl, hb⟩
      rw [ojAt_some hx]
      exact ⟨rfl, grown_below hb none, fun _ => hi.trans (hb.mono hi.size), fun _ => trivial⟩
  · rintro e w' ⟨r, rfl, hg, ht⟩
    refine ⟨r, rfl, ?_, hg⟩
    rw [told_all ht, List.all_eq_true]
    constructor
    · intro hall o ho
      obtain ⟨i, hi, rfl⟩ := List.mem_iff_getElem.1 ho
      have := hall i (by rw [List.mem_range, ← hn]; exact hi)
      rwa [ojAt_some (List.getElem?_eq_getElem hi)] at this
    · intro hall j hj
      have hj' : j < l.length := by rw [hn]; simpa using hj
      rw [ojAt_some (List.getElem?_eq_getElem hj')]
      exact hall _ (List.getElem_mem hj')

theorem fin_img {l : List Oj} {w w6 : World} {lo n x : Nat} {mv wv : Value} {rs : List (Value × Rg)} {s : Int} (hn : l.length = n) (z : S0 w w6) (im : Im w6 lo w6.heap.size w6.heap.size mv wv rs (wordsTo l n)) (hlo : w.heap.size ≤ lo) (hrs : (rs.map fun x => x.2) = modsTo l n) (hf : formOk l) (hu : unlO l) (hg : goodTo l n) (hx : findX (ojAt l (l.length - 1)) mainN fmain = some x) (hs : s = ((ojAt l (l.length - 1)).ex[x]?.map Xp.pos).getD 0) :
    LkFin l w (.returned (.tuple #[.agg #[mv, wv, .int .i64 s], .int .i64 0])) (((w6.setCell ⟨w.heap.size, 0, none⟩ mv).setCell ⟨w.heap.size, 1, none⟩ wv).setCell ⟨w.heap.size, 2, none⟩ (.int .i64 s)) := by
  subst hn
  have i2 := im.put (i := 0) (v := mv) z.z (by decide) (by decide) (.inl (by decide))
  have y2 := z.z.set (i := 0) mv
  have i3 := i2.put (i := 1) (v := wv) y2 (by decide) (by decide) (.inl (by decide))
  have y3 := y2.set (i := 1) wv
  have i4 := i3.put (i := 2) (v := .int .i64 s) y3 (by decide) (by decide) (.inl (by decide))
  have hsz : (((w6.setCell ⟨w.heap.size, 0, none⟩ mv).setCell ⟨w.heap.size, 1, none⟩ wv).setCell ⟨w.heap.size, 2, none⟩ (.int .i64 s)).heap.size = w6.heap.size := by simp
  refine ⟨mv, wv, rs, wordsTo l l.length, s, 0, rfl, ?_, by rw [hsz]; exact i4.wide hlo (Nat.le_refl _) (Nat.le_refl _), below_put3 z.y (Nat.le_refl _)⟩
  unfold mkIg
  rw [hrs, hs]
  exact Lk.well x hf hu hg hx

set_option maxHeartbeats 16000000 in
theorem implLink (l : List Oj) (a : Option Addr) (c : Nat) (w : World) (h : LRow w a c 5 (l.map Oj.fl)) (hsz : ∀ o ∈ l, recLen o.fl ≤ 1048576) :
    Calls Try.prog 7 #[.slice a l.length c] w (LkFin l w) := by
  have hn9 := h.len9
  have hcap := h.cap
  rw [List.length_map] at hn9 hcap
  obtain ⟨n, hN⟩ : ∃ z, z = l.length := ⟨_, rfl⟩
  have HN : Hid (l.length = n) := hN.symm
  rw [← hN] at hn9 hcap ⊢
  have HL : Hid (LRow w a c 5 (l.map Oj.fl)) := h
  have HS : Hid (∀ o ∈ l, recLen o.fl ≤ 1048576) := hsz
  have s0 := S0.start w
  clear h hsz hN
  go_enter Try.func7, Try.ntmps7
  go_upto_region 1 with fail
  generalize w.alloc (.cells #[.slice none 0 0, .slice none 0 0, .int .i64 0] 27 (0, 0)) = w0 at *
  have HR := inRangeC (n : Int) 1 8 w0
  by_cases h18 : 1 ≤ n ∧ n ≤ 8
  · rw [show (decide ((1 : Int) ≤ (n : Int)) && decide ((n : Int) ≤ 8)) = true by simp; omega] at HR
    have H1 := allObjOk l a n c w0 (LRow.below HL.out s0.y) HN.out HS.out
    obtain ⟨h1, h8⟩ := h18
    go_wp2_with fail
    refine HR.mono ?_
    rintro e w0' ⟨rfl, rfl⟩
    go_wp2_with fail
    refine H1.mono ?_
    rintro e w1 ⟨r, rfl, hr, hg1⟩
    have s1 := s0.step (below_grown hg1)
    have HRI : Hid (r = true ↔ ∀ o ∈ l, objOk o.ob = true) := hr
    clear s0 HR H1 hg1 hr
    cases r
    · have HNF : Hid (¬ formOk l) := fun hf => by have := HRI.out.2 hf.2; cases this
      have z0 := s1.z.cell (i := 0) rfl
      have z1 := s1.z.cell (i := 1) rfl
      have z2 := s1.z.cell (i := 2) rfl
      have f0 := s1.z.free 0
      have f1 := s1.z.free 1
      have f2 := s1.z.free 2
      have HF : Hid (LkFin l w (.returned (.tuple #[.agg #[.slice none 0 0, .slice none 0 0, .int .i64 0], .int .i64 1])) (((w1.setCell ⟨w.heap.size, 0, none⟩ (.slice none 0 0)).setCell ⟨w.heap.size, 1, none⟩ (.slice none 0 0)).setCell ⟨w.heap.size, 2, none⟩ (.int .i64 0))) := fin_no s1 (Lk.form HNF.out)
      have D : Blk (((w1.setCell ⟨w.heap.size, 0, none⟩ (.slice none 0 0)).setCell ⟨w.heap.size, 1, none⟩ (.slice none 0 0)).setCell ⟨w.heap.size, 2, none⟩ (.int .i64 0)) w.heap.size 27 [.slice none 0 0, .slice none 0 0, .int .i64 0] := Blk.put3 s1.z
      have d0 := D.cell (i := 0) rfl
      have d1 := D.cell (i := 1) rfl
      have d2 := D.cell (i := 2) rfl
      clear D 
      go_wp2_with fail
      refine bodyPost_ret (v := .tuple #[.agg #[.slice none 0 0, .slice none 0 0, .int .i64 0], .int .i64 1]) (by simp only [results, Try.results7]; simp [go_sem, d0, d1, d2]) rfl HF.out
    · have HFo : Hid (formOk l) := ⟨⟨by rw [HN.out]; exact h1, by rw [HN.out]; exact h8⟩, HRI.out.1 rfl⟩
      clear HRI
      obtain ⟨b, off, rfl⟩ := LRow.addr HL.out (by rw [List.length_map, HN.out]; omega)
      have HC : Hid _ := objCells HL.out HN.out
      have H2 := unlikeObject entO _ c l n w1 HN.out (LRow.below HL.out s1.y)
      go_wp2_with fail
      refine H2.mono ?_
      rintro e w2 ⟨rfl, hg2⟩
      have s2 := s1.step (below_grown hg2)
      clear s1 H2 hg2
      cases hu : allUnl (l.map Oj.name)
      · have HNU : Hid (¬ unlO l) := fun h => by have := allUnl_iff.2 h; rw [hu] at this; cases this
        clear hu
        have z0 := s2.z.cell (i := 0) rfl
        have z1 := s2.z.cell (i := 1) rfl
        have z2 := s2.z.cell (i := 2) rfl
        have f0 := s2.z.free 0
        have f1 := s2.z.free 1
        have f2 := s2.z.free 2
        have HF : Hid (LkFin l w (.returned (.tuple #[.agg #[.slice none 0 0, .slice none 0 0, .int .i64 0], .int .i64 2])) (((w2.setCell ⟨w.heap.size, 0, none⟩ (.slice none 0 0)).setCell ⟨w.heap.size, 1, none⟩ (.slice none 0 0)).setCell ⟨w.heap.size, 2, none⟩ (.int .i64 0))) := fin_no s2 (Lk.name HFo.out HNU.out)
        have D : Blk (((w2.setCell ⟨w.heap.size, 0, none⟩ (.slice none 0 0)).setCell ⟨w.heap.size, 1, none⟩ (.slice none 0 0)).setCell ⟨w.heap.size, 2, none⟩ (.int .i64 0)) w.heap.size 27 [.slice none 0 0, .slice none 0 0, .int .i64 0] := Blk.put3 s2.z
        have d0 := D.cell (i := 0) rfl
        have d1 := D.cell (i := 1) rfl
        have d2 := D.cell (i := 2) rfl
        clear D 
        go_wp2_with fail
        refine bodyPost_ret (v := .tuple #[.agg #[.slice none 0 0, .slice none 0 0, .int .i64 0], .int .i64 2]) (by simp only [results, Try.results7]; simp [go_sem, d0, d1, d2]) rfl HF.out
      · have HUo : Hid (unlO l) := allUnl_iff.1 hu
        clear hu
        have H3 := entriesOfC l _ n c w2 (LRow.below HL.out s2.y) HN.out h8 HUo.out HFo.out.2
        go_wp2_with fail
        refine H3.mono ?_
        rintro e w3 ⟨hb3, hh⟩
        have s3 := s2.step hb3
        clear H3
        rcases hh with ⟨ev, rfl, hgood, hrow⟩ | ⟨rfl, hng⟩
        · have HG : Hid (goodTo l n) := hgood
          obtain ⟨ne, hne⟩ : ∃ z, z = (entsAll l n).length := ⟨_, rfl⟩
          have HNE : Hid ((entsAll l n).length = ne) := hne.symm
          rw [← hne] at hrow
          obtain ⟨av, cv, rfl, hv1, hv2, hv3, hv4⟩ := owns_shape hrow
          have HWA : Hid (WAt w3 av (entsAll l n)) := by
            intro hp
            rw [HNE.out] at hp
            obtain ⟨g, rfl⟩ := hv4 hp
            exact ⟨g, 0, rfl, fun i v hv => by rw [Nat.zero_add]; exact owns_cells hrow i v hv⟩
          have HAV : Hid (∃ ge, av = none ∨ ∃ o, av = some ⟨ge, o, none⟩) := by
            rcases hrow.2 with ⟨e, _⟩ | ⟨g, cap, cur, e, _⟩
            · simp only [Value.slice.injEq] at e; exact ⟨0, .inl e.1⟩
            · simp only [Value.slice.injEq] at e; exact ⟨g, .inr ⟨0, e.1⟩⟩
          clear hgood hrow hne hv2 hv4 hb3 s2
          obtain ⟨q, hq⟩ : ∃ q, n = q + 1 := ⟨n - 1, by omega⟩
          obtain ⟨o, v0, v1, v2, v3, v4, ho, hv, c0, c1, c2, c3, c4⟩ := HC.out q (by omega)
          have HLO : Hid (ojAt l (l.length - 1) = o) := oj_last HN.out hq ho
          have y := s3.y
          have b0 := cell_on c0 y
          have b1 := cell_on c1 y
          have b2 := cell_on c2 y
          have b3 := cell_on c3 y
          have b4 := cell_on c4 y
          have hsub : (n : Int) - 1 = (q : Int) := by omega
          have hq0 : (0 : Int) ≤ (q : Int) := by omega
          have hqn : (q : Int) < (n : Int) := by omega
          have hwq : IntKind.i64.wrap (q : Int) = (q : Int) := wrap_nat (by omega)
          clear hq
          have HV : Hid (RdVals w o.fl [v0, v1, v2, v3, v4]) := hv
          obtain ⟨a0, e0, a1, e1, a2, e2, a4, e4, rfl, rfl, rfl, rfl, rfl, _, hL1, _⟩ := objShape hv
          have HL1 : Hid (LRow w a1 e1 3 (o.ex.map Xp.fl)) := hL1
          obtain ⟨hn1, _, _, _, _, hue, _⟩ := objOk_parts (HFo.out.2 o (List.mem_of_getElem? ho))
          have HXP : Hid (∀ (W : World) (gA : Nat), Below w.heap.size w W → MC W gA → Calls Try.prog 26 #[.agg #[.slice a0 o.name.length e0, .slice a1 o.ex.length e1, .slice a2 o.im.length e2, .int .i64 o.data, .slice a4 o.code.length e4], .slice (some ⟨gA, 0, none⟩) 4 4, .int .i64 fmain] W fun e w' => e = .returned (.int .i64 (intO (findX o mainN fmain))) ∧ Below W.heap.size W w') := by
            intro W gA hb hm
            refine (exportPlaceC o _ _ _ _ _ W (RdVals.below HV.out hb) hue (some ⟨gA, 0, none⟩) 4 4 mainN hm.row fmain).mono ?_
            rintro e w' ⟨rfl, hg⟩
            exact ⟨rfl, below_grown hg⟩
          generalize o.name.length = n0 at *
          obtain ⟨n1, hn1'⟩ : ∃ z, z = o.ex.length := ⟨_, rfl⟩
          rw [← hn1'] at HXP hn1 b1
          have HN1 : Hid (o.ex.length = n1) := hn1'.symm
          generalize o.im.length = n2 at *
          generalize o.code.length = n4 at *
          generalize o.data = dt at *
          clear hv hL1 c0 c1 c2 c3 c4 hn1' ho hue
          have bO : Below w3.heap.size w3 (w3.alloc (.cells #[.slice a0 n0 e0, .slice a1 n1 e1, .slice a2 n2 e2, .int .i64 dt, .slice a4 n4 e4] 47 (0, 0))) := (Below.refl _ _).alloc (Nat.le_refl _) _
          have oB := Blk.new w3 47 [.slice a0 n0 e0, .slice a1 n1 e1, .slice a2 n2 e2, .int .i64 dt, .slice a4 n4 e4]
          have s4 := s3.step bO
          have HWA4 : Hid (WAt (w3.alloc (.cells #[.slice a0 n0 e0, .slice a1 n1 e1, .slice a2 n2 e2, .int .i64 dt, .slice a4 n4 e4] 47 (0, 0))) av (entsAll l n)) := HWA.out.below bO
          simp only [List.toArray] at oB
          clear s3 y bO HWA
          go_upto_region 9 with fail
          generalize w3.alloc (.cells #[.slice a0 n0 e0, .slice a1 n1 e1, .slice a2 n2 e2, .int .i64 dt, .slice a4 n4 e4] 47 (0, 0)) = wr at *
          generalize w3.heap.size = gO at *
          clear b0 b1 b2 b3 b4
          have HX1 : Hid (∀ (W : World) (gA : Nat), Below wr.heap.size wr W → MC W gA → Calls Try.prog 26 #[.agg #[.slice a0 n0 e0, .slice a1 n1 e1, .slice a2 n2 e2, .int .i64 dt, .slice a4 n4 e4], .slice (some ⟨gA, 0, none⟩) 4 4, .int .i64 fmain] W fun e w' => e = .returned (.int .i64 (intO (findX o mainN fmain))) ∧ Below W.heap.size W w') := fun W gA hb hm => HXP.out W gA (s4.y.trans (hb.mono s4.y.size)) hm
          have HK9 : Hid (∀ {wl : World}, Below wr.heap.size wr wl → (wl.cell? ⟨gO, 0, none⟩ = some (.slice a0 n0 e0) ∧ wl.cell? ⟨gO, 1, none⟩ = some (.slice a1 n1 e1) ∧ wl.cell? ⟨gO, 2, none⟩ = some (.slice a2 n2 e2) ∧ wl.cell? ⟨gO, 3, none⟩ = some (.int .i64 dt) ∧ wl.cell? ⟨gO, 4, none⟩ = some (.slice a4 n4 e4))) :=
            fun hb => ⟨cell_on (oB.cell (i := 0) rfl) hb, cell_on (oB.cell (i := 1) rfl) hb, cell_on (oB.cell (i := 2) rfl) hb, cell_on (oB.cell (i := 3) rfl) hb, cell_on (oB.cell (i := 4) rfl) hb⟩
          go_cut [7] from 36 to 43 (fun s7 wz => s7 = .int .i64 (intO (findX o mainN fmain)) ∧ Hid (Below wr.heap.size wr wz))
          case first =>
            have HSB : Hid (∀ {wl : World}, Below wr.heap.size wr wl → (wl.cell? ⟨gO, 0, none⟩ = some (.slice a0 n0 e0) ∧ wl.cell? ⟨gO, 1, none⟩ = some (.slice a1 n1 e1) ∧ wl.cell? ⟨gO, 2, none⟩ = some (.slice a2 n2 e2) ∧ wl.cell? ⟨gO, 3, none⟩ = some (.int .i64 dt) ∧ wl.cell? ⟨gO, 4, none⟩ = some (.slice a4 n4 e4))) := HK9
            have hB0 : Below wr.heap.size wr wr.drew := (Below.refl _ _).drew
            refine wp_region_held_drew (S := fun wl => (wl.cell? ⟨gO, 0, none⟩ = some (.slice a0 n0 e0) ∧ wl.cell? ⟨gO, 1, none⟩ = some (.slice a1 n1 e1) ∧ wl.cell? ⟨gO, 2, none⟩ = some (.slice a2 n2 e2) ∧ wl.cell? ⟨gO, 3, none⟩ = some (.int .i64 dt) ∧ wl.cell? ⟨gO, 4, none⟩ = some (.slice a4 n4 e4))) (by kernel_rfl) (HSB.out hB0) (fun hHeld => ?_)
            generalize wr.drew = wS at hB0 hHeld ⊢
            refine tk (i := 0) (v := ?v501) rfl (by kernel_rfl) (.inl ⟨by rfl, ?y501⟩) hHeld (fun _ _ _ h => h) ?_
            case y501 => intro w hSw; (try dsimp only at hSw); go_simp; first | done | rfl
            try simp only [nrm]
            refine wpAnyH_ready (rs := [1, 3]) (by kernel_rfl) (by simp) ?_
            refine AllReadyH.cons (i := 1) (o := ?o101) ?i101 ?g101 (AllReadyH.cons (i := 3) (o := ?o102) ?i102 ?g102 AllReadyH.nil)
            case i101 => exact rfl
            case i102 => exact rfl
            case g101 =>
              intro K hK
              go_simp
              have hb101 : Below wS.heap.size wS (wS.alloc (.cells #[.int .u8 109, .int .u8 97, .int .u8 105, .int .u8 110] 5)) := (Below.refl _ _).alloc (Nat.le_refl _) _
              have mA := Blk.new wS 5 [.int .u8 109, .int .u8 97, .int .u8 105, .int .u8 110]
              simp only [List.toArray] at mA
              have hgA : wr.heap.size ≤ wS.heap.size := hB0.size
              have hB101 := hB0.trans (hb101.mono hB0.size)
              have hS101 := HSB.out hB101
              refine hK.out _ _ hS101 (fun hHeld => ?_)
              clear hK K
              try simp only [nrm]
              clear hb101
              generalize wS.alloc (.cells #[.int .u8 109, .int .u8 97, .int .u8 105, .int .u8 110] 5) = V101 at *
              generalize wS.heap.size = gA at *
              refine wpAnyH_ready (rs := [2, 3]) (by kernel_rfl) (by simp) ?_
              refine AllReadyH.cons (i := 2) (o := ?o103) ?i103 ?g103 (AllReadyH.cons (i := 3) (o := ?o104) ?i104 ?g104 AllReadyH.nil)
              case i103 => exact rfl
              case i104 => exact rfl
              case g103 =>
                intro K hK
                have kc := conv_mark (n := 4) (c := 4) mA
                go_simp
                have hB103 : Below wr.heap.size wr (V101.freeze ⟨gA, 4, none⟩ 1) := frz_below hB101 hgA
                have kA : MC (V101.freeze ⟨gA, 4, none⟩ 1) gA := MC.frz mA
                have hS103 := HSB.out hB103
                refine hK.out _ _ hS103 (fun hHeld => ?_)
                clear hK K kc mA
                try simp only [nrm]
                generalize V101.freeze ⟨gA, 4, none⟩ 1 = V103 at *
                refine wpAnyH_ready (rs := [3]) (by kernel_rfl) (by simp) ?_
                refine AllReadyH.cons (i := 3) (o := ?o105) ?i105 ?g105 AllReadyH.nil
                case i105 => exact rfl
                case g105 =>
                  intro K hK
                  go_simp
                  have hb105 : Below V103.heap.size V103 (V103.alloc (.cells #[.int .u8 109, .int .u8 97, .int .u8 105, .int .u8 110] 5)) := (Below.refl _ _).alloc (Nat.le_refl _) _
                  have mB := Blk.new V103 5 [.int .u8 109, .int .u8 97, .int .u8 105, .int .u8 110]
                  simp only [List.toArray] at mB
                  have hgB : wr.heap.size ≤ V103.heap.size := hB103.size
                  have hne : gA ≠ V103.heap.size := Nat.ne_of_lt (World.block_lt_of_cell? V103 _ (kA 0 _ rfl))
                  replace kA := kA.below hb105
                  have hB105 := hB103.trans (hb105.mono hB103.size)
                  have hS105 := HSB.out hB105
                  refine hK.out _ _ hS105 (fun hHeld => ?_)
                  clear hK K
                  try simp only [nrm]
                  clear hb105
                  generalize V103.alloc (.cells #[.int .u8 109, .int .u8 97, .int .u8 105, .int .u8 110] 5) = V105 at *
                  generalize V103.heap.size = gB at *
                  refine wpAnyH_ready (rs := [4]) (by kernel_rfl) (by simp) ?_
                  refine AllReadyH.cons (i := 4) (o := ?o106) ?i106 ?g106 AllReadyH.nil
                  case i106 => exact rfl
                  case g106 =>
                    intro K hK
                    have kc := conv_mark (n := 4) (c := 4) mB
                    go_simp
                    have hB106 : Below wr.heap.size wr (V105.freeze ⟨gB, 4, none⟩ 1) := frz_below hB105 hgB
                    have kB : MC (V105.freeze ⟨gB, 4, none⟩ 1) gB := MC.frz mB
                    replace kA := kA.frzO (k := 4) (show gA ≠ gB by omega)
                    have hS106 := HSB.out hB106
                    refine hK.out _ _ hS106 (fun hHeld => ?_)
                    clear hK K kc mB
                    try simp only [nrm]
                    generalize V105.freeze ⟨gB, 4, none⟩ 1 = V106 at *
                    refine wpAnyH_ready (rs := [5]) (by kernel_rfl) (by simp) ?_
                    refine AllReadyH.cons (i := 5) (o := ?o107) ?i107 ?g107 AllReadyH.nil
                    case i107 => exact rfl
                    case g107 =>
                      intro K hK
                      go_simp
                      (with_reducible refine (implMain kB).mono ?_)
                      rintro e V107 ⟨rfl, hb107⟩
                      replace kA := kA.below hb107
                      replace kB := kB.below hb107
                      have hB107 := hB106.trans (hb107.mono hB106.size)
                      have hS107 := HSB.out hB107
                      go_wp2_with fail
                      refine hK.out _ _ hS107 (fun hHeld => ?_)
                      clear hK K hb107
                      try simp only [nrm]
                      refine wpAnyH_ready (rs := [6]) (by kernel_rfl) (by simp) ?_
                      refine AllReadyH.cons (i := 6) (o := ?o108) ?i108 ?g108 AllReadyH.nil
                      case i108 => exact rfl
                      case g108 =>
                        intro K hK
                        go_simp
                        (with_reducible refine (HX1.out V107 gA hB107 kA).mono ?_)
                        rintro e V108 ⟨rfl, hb108⟩
                        have hB108 := hB107.trans (hb108.mono hB107.size)
                        have hS108 := HSB.out hB108
                        go_wp2_with fail
                        refine hK.out _ _ hS108 (fun hHeld => ?_)
                        clear hK K hb108
                        try simp only [nrm]
                        refine tk (i := 7) (v := ?v109) rfl (by kernel_rfl) (.inl ⟨by rfl, ?y109⟩) hHeld (fun _ _ _ h => h) ?_
                        case y109 => intro w hSw; (try dsimp only at hSw); go_simp; first | done | rfl
                        try simp only [nrm]
                        refine wpAnyH_done (by kernel_rfl) ?_ _
                        go_wp2_with fail
                        go_meet
                        case rel => exact ⟨rfl, hB108⟩
              case g104 =>
                intro K hK
                go_simp
                have hb104 : Below V101.heap.size V101 (V101.alloc (.cells #[.int .u8 109, .int .u8 97, .int .u8 105, .int .u8 110] 5)) := (Below.refl _ _).alloc (Nat.le_refl _) _
                have mB := Blk.new V101 5 [.int .u8 109, .int .u8 97, .int .u8 105, .int .u8 110]
                simp only [List.toArray] at mB
                have hgB : wr.heap.size ≤ V101.heap.size := hB101.size
                have hne : gA ≠ V101.heap.size := Nat.ne_of_lt mA.lt
                replace mA := mA.below hb104 mA.lt
                have hB104 := hB101.trans (hb104.mono hB101.size)
                have hS104 := HSB.out hB104
                refine hK.out _ _ hS104 (fun hHeld => ?_)
                clear hK K
                try simp only [nrm]
                clear hb104
                generalize V101.alloc (.cells #[.int .u8 109, .int .u8 97, .int .u8 105, .int .u8 110] 5) = V104 at *
                generalize V101.heap.size = gB at *
                refine wpAnyH_ready (rs := [2, 4]) (by kernel_rfl) (by simp) ?_
                refine AllReadyH.cons (i := 2) (o := ?o110) ?i110 ?g110 (AllReadyH.cons (i := 4) (o := ?o111) ?i111 ?g111 AllReadyH.nil)
                case i110 => exact rfl
                case i111 => exact rfl
                case g110 =>
                  intro K hK
                  have kc := conv_mark (n := 4) (c := 4) mA
                  go_simp
                  have hB110 : Below wr.heap.size wr (V104.freeze ⟨gA, 4, none⟩ 1) := frz_below hB104 hgA
                  have kA : MC (V104.freeze ⟨gA, 4, none⟩ 1) gA := MC.frz mA
                  replace mB := mB.frzO (k := 4) (show gB ≠ gA by omega)
                  have hS110 := HSB.out hB110
                  refine hK.out _ _ hS110 (fun hHeld => ?_)
                  clear hK K kc mA
                  try simp only [nrm]
                  generalize V104.freeze ⟨gA, 4, none⟩ 1 = V110 at *
                  refine wpAnyH_ready (rs := [4]) (by kernel_rfl) (by simp) ?_
                  refine AllReadyH.cons (i := 4) (o := ?o112) ?i112 ?g112 AllReadyH.nil
                  case i112 => exact rfl
                  case g112 =>
                    intro K hK
                    have kc := conv_mark (n := 4) (c := 4) mB
                    go_simp
                    have hB112 : Below wr.heap.size wr (V110.freeze ⟨gB, 4, none⟩ 1) := frz_below hB110 hgB
                    have kB : MC (V110.freeze ⟨gB, 4, none⟩ 1) gB := MC.frz mB
                    replace kA := kA.frzO (k := 4) (show gA ≠ gB by omega)
                    have hS112 := HSB.out hB112
                    refine hK.out _ _ hS112 (fun hHeld => ?_)
                    clear hK K kc mB
                    try simp only [nrm]
                    generalize V110.freeze ⟨gB, 4, none⟩ 1 = V112 at *
                    refine wpAnyH_ready (rs := [5]) (by kernel_rfl) (by simp) ?_
                    refine AllReadyH.cons (i := 5) (o := ?o113) ?i113 ?g113 AllReadyH.nil
                    case i113 => exact rfl
                    case g113 =>
                      intro K hK
                      go_simp
                      (with_reducible refine (implMain kB).mono ?_)
                      rintro e V113 ⟨rfl, hb113⟩
                      replace kA := kA.below hb113
                      replace kB := kB.below hb113
                      have hB113 := hB112.trans (hb113.mono hB112.size)
                      have hS113 := HSB.out hB113
                      go_wp2_with fail
                      refine hK.out _ _ hS113 (fun hHeld => ?_)
                      clear hK K hb113
                      try simp only [nrm]
                      refine wpAnyH_ready (rs := [6]) (by kernel_rfl) (by simp) ?_
                      refine AllReadyH.cons (i := 6) (o := ?o114) ?i114 ?g114 AllReadyH.nil
                      case i114 => exact rfl
                      case g114 =>
                        intro K hK
                        go_simp
                        (with_reducible refine (HX1.out V113 gA hB113 kA).mono ?_)
                        rintro e V114 ⟨rfl, hb114⟩
                        have hB114 := hB113.trans (hb114.mono hB113.size)
                        have hS114 := HSB.out hB114
                        go_wp2_with fail
                        refine hK.out _ _ hS114 (fun hHeld => ?_)
                        clear hK K hb114
                        try simp only [nrm]
                        refine tk (i := 7) (v := ?v115) rfl (by kernel_rfl) (.inl ⟨by rfl, ?y115⟩) hHeld (fun _ _ _ h => h) ?_
                        case y115 => intro w hSw; (try dsimp only at hSw); go_simp; first | done | rfl
                        try simp only [nrm]
                        refine wpAnyH_done (by kernel_rfl) ?_ _
                        go_wp2_with fail
                        go_meet
                        case rel => exact ⟨rfl, hB114⟩
                case g111 =>
                  intro K hK
                  have kc := conv_mark (n := 4) (c := 4) mB
                  go_simp
                  have hB111 : Below wr.heap.size wr (V104.freeze ⟨gB, 4, none⟩ 1) := frz_below hB104 hgB
                  have kB : MC (V104.freeze ⟨gB, 4, none⟩ 1) gB := MC.frz mB
                  replace mA := mA.frzO (k := 4) (show gA ≠ gB by omega)
                  have hS111 := HSB.out hB111
                  refine hK.out _ _ hS111 (fun hHeld => ?_)
                  clear hK K kc mB
                  try simp only [nrm]
                  generalize V104.freeze ⟨gB, 4, none⟩ 1 = V111 at *
                  refine wpAnyH_ready (rs := [2, 5]) (by kernel_rfl) (by simp) ?_
                  refine AllReadyH.cons (i := 2) (o := ?o116) ?i116 ?g116 (AllReadyH.cons (i := 5) (o := ?o117) ?i117 ?g117 AllReadyH.nil)
                  case i116 => exact rfl
                  case i117 => exact rfl
                  case g116 =>
                    intro K hK
                    have kc := conv_mark (n := 4) (c := 4) mA
                    go_simp
                    have hB116 : Below wr.heap.size wr (V111.freeze ⟨gA, 4, none⟩ 1) := frz_below hB111 hgA
                    have kA : MC (V111.freeze ⟨gA, 4, none⟩ 1) gA := MC.frz mA
                    replace kB := kB.frzO (k := 4) (show gB ≠ gA by omega)
                    have hS116 := HSB.out hB116
                    refine hK.out _ _ hS116 (fun hHeld => ?_)
                    clear hK K kc mA
                    try simp only [nrm]
                    generalize V111.freeze ⟨gA, 4, none⟩ 1 = V116 at *
                    refine wpAnyH_ready (rs := [5]) (by kernel_rfl) (by simp) ?_
                    refine AllReadyH.cons (i := 5) (o := ?o118) ?i118 ?g118 AllReadyH.nil
                    case i118 => exact rfl
                    case g118 =>
                      intro K hK
                      go_simp
                      (with_reducible refine (implMain kB).mono ?_)
                      rintro e V118 ⟨rfl, hb118⟩
                      replace kA := kA.below hb118
                      replace kB := kB.below hb118
                      have hB118 := hB116.trans (hb118.mono hB116.size)
                      have hS118 := HSB.out hB118
                      go_wp2_with fail
                      refine hK.out _ _ hS118 (fun hHeld => ?_)
                      clear hK K hb118
                      try simp only [nrm]
                      refine wpAnyH_ready (rs := [6]) (by kernel_rfl) (by simp) ?_
                      refine AllReadyH.cons (i := 6) (o := ?o119) ?i119 ?g119 AllReadyH.nil
                      case i119 => exact rfl
                      case g119 =>
                        intro K hK
                        go_simp
                        (with_reducible refine (HX1.out V118 gA hB118 kA).mono ?_)
                        rintro e V119 ⟨rfl, hb119⟩
                        have hB119 := hB118.trans (hb119.mono hB118.size)
                        have hS119 := HSB.out hB119
                        go_wp2_with fail
                        refine hK.out _ _ hS119 (fun hHeld => ?_)
                        clear hK K hb119
                        try simp only [nrm]
                        refine tk (i := 7) (v := ?v120) rfl (by kernel_rfl) (.inl ⟨by rfl, ?y120⟩) hHeld (fun _ _ _ h => h) ?_
                        case y120 => intro w hSw; (try dsimp only at hSw); go_simp; first | done | rfl
                        try simp only [nrm]
                        refine wpAnyH_done (by kernel_rfl) ?_ _
                        go_wp2_with fail
                        go_meet
                        case rel => exact ⟨rfl, hB119⟩
                  case g117 =>
                    intro K hK
                    go_simp
                    (with_reducible refine (implMain kB).mono ?_)
                    rintro e V117 ⟨rfl, hb117⟩
                    replace mA := mA.below hb117 mA.lt
                    replace kB := kB.below hb117
                    have hB117 := hB111.trans (hb117.mono hB111.size)
                    have hS117 := HSB.out hB117
                    go_wp2_with fail
                    refine hK.out _ _ hS117 (fun hHeld => ?_)
                    clear hK K hb117
                    try simp only [nrm]
                    refine wpAnyH_ready (rs := [2]) (by kernel_rfl) (by simp) ?_
                    refine AllReadyH.cons (i := 2) (o := ?o121) ?i121 ?g121 AllReadyH.nil
                    case i121 => exact rfl
                    case g121 =>
                      intro K hK
                      have kc := conv_mark (n := 4) (c := 4) mA
                      go_simp
                      have hB121 : Below wr.heap.size wr (V117.freeze ⟨gA, 4, none⟩ 1) := frz_below hB117 hgA
                      have kA : MC (V117.freeze ⟨gA, 4, none⟩ 1) gA := MC.frz mA
                      replace kB := kB.frzO (k := 4) (show gB ≠ gA by omega)
                      have hS121 := HSB.out hB121
                      refine hK.out _ _ hS121 (fun hHeld => ?_)
                      clear hK K kc mA
                      try simp only [nrm]
                      generalize V117.freeze ⟨gA, 4, none⟩ 1 = V121 at *
                      refine wpAnyH_ready (rs := [6]) (by kernel_rfl) (by simp) ?_
                      refine AllReadyH.cons (i := 6) (o := ?o122) ?i122 ?g122 AllReadyH.nil
                      case i122 => exact rfl
                      case g122 =>
                        intro K hK
                        go_simp
                        (with_reducible refine (HX1.out V121 gA hB121 kA).mono ?_)
                        rintro e V122 ⟨rfl, hb122⟩
                        have hB122 := hB121.trans (hb122.mono hB121.size)
                        have hS122 := HSB.out hB122
                        go_wp2_with fail
                        refine hK.out _ _ hS122 (fun hHeld => ?_)
                        clear hK K hb122
                        try simp only [nrm]
                        refine tk (i := 7) (v := ?v123) rfl (by kernel_rfl) (.inl ⟨by rfl, ?y123⟩) hHeld (fun _ _ _ h => h) ?_
                        case y123 => intro w hSw; (try dsimp only at hSw); go_simp; first | done | rfl
                        try simp only [nrm]
                        refine wpAnyH_done (by kernel_rfl) ?_ _
                        go_wp2_with fail
                        go_meet
                        case rel => exact ⟨rfl, hB122⟩
            case g102 =>
              intro K hK
              go_simp
              have hb102 : Below wS.heap.size wS (wS.alloc (.cells #[.int .u8 109, .int .u8 97, .int .u8 105, .int .u8 110] 5)) := (Below.refl _ _).alloc (Nat.le_refl _) _
              have mB := Blk.new wS 5 [.int .u8 109, .int .u8 97, .int .u8 105, .int .u8 110]
              simp only [List.toArray] at mB
              have hgB : wr.heap.size ≤ wS.heap.size := hB0.size
              have hB102 := hB0.trans (hb102.mono hB0.size)
              have hS102 := HSB.out hB102
              refine hK.out _ _ hS102 (fun hHeld => ?_)
              clear hK K
              try simp only [nrm]
              clear hb102
              generalize wS.alloc (.cells #[.int .u8 109, .int .u8 97, .int .u8 105, .int .u8 110] 5) = V102 at *
              generalize wS.heap.size = gB at *
              refine wpAnyH_ready (rs := [1, 4]) (by kernel_rfl) (by simp) ?_
              refine AllReadyH.cons (i := 1) (o := ?o124) ?i124 ?g124 (AllReadyH.cons (i := 4) (o := ?o125) ?i125 ?g125 AllReadyH.nil)
              case i124 => exact rfl
              case i125 => exact rfl
              case g124 =>
                intro K hK
                go_simp
                have hb124 : Below V102.heap.size V102 (V102.alloc (.cells #[.int .u8 109, .int .u8 97, .int .u8 105, .int .u8 110] 5)) := (Below.refl _ _).alloc (Nat.le_refl _) _
                have mA := Blk.new V102 5 [.int .u8 109, .int .u8 97, .int .u8 105, .int .u8 110]
                simp only [List.toArray] at mA
                have hgA : wr.heap.size ≤ V102.heap.size := hB102.size
                have hne : gB ≠ V102.heap.size := Nat.ne_of_lt mB.lt
                replace mB := mB.below hb124 mB.lt
                have hB124 := hB102.trans (hb124.mono hB102.size)
                have hS124 := HSB.out hB124
                refine hK.out _ _ hS124 (fun hHeld => ?_)
                clear hK K
                try simp only [nrm]
                clear hb124
                generalize V102.alloc (.cells #[.int .u8 109, .int .u8 97, .int .u8 105, .int .u8 110] 5) = V124 at *
                generalize V102.heap.size = gA at *
                refine wpAnyH_ready (rs := [2, 4]) (by kernel_rfl) (by simp) ?_
                refine AllReadyH.cons (i := 2) (o := ?o126) ?i126 ?g126 (AllReadyH.cons (i := 4) (o := ?o127) ?i127 ?g127 AllReadyH.nil)
                case i126 => exact rfl
                case i127 => exact rfl
                case g126 =>
                  intro K hK
                  have kc := conv_mark (n := 4) (c := 4) mA
                  go_simp
                  have hB126 : Below wr.heap.size wr (V124.freeze ⟨gA, 4, none⟩ 1) := frz_below hB124 hgA
                  have kA : MC (V124.freeze ⟨gA, 4, none⟩ 1) gA := MC.frz mA
                  replace mB := mB.frzO (k := 4) (show gB ≠ gA by omega)
                  have hS126 := HSB.out hB126
                  refine hK.out _ _ hS126 (fun hHeld => ?_)
                  clear hK K kc mA
                  try simp only [nrm]
                  generalize V124.freeze ⟨gA, 4, none⟩ 1 = V126 at *
                  refine wpAnyH_ready (rs := [4]) (by kernel_rfl) (by simp) ?_
                  refine AllReadyH.cons (i := 4) (o := ?o128) ?i128 ?g128 AllReadyH.nil
                  case i128 => exact rfl
                  case g128 =>
                    intro K hK
                    have kc := conv_mark (n := 4) (c := 4) mB
                    go_simp
                    have hB128 : Below wr.heap.size wr (V126.freeze ⟨gB, 4, none⟩ 1) := frz_below hB126 hgB
                    have kB : MC (V126.freeze ⟨gB, 4, none⟩ 1) gB := MC.frz mB
                    replace kA := kA.frzO (k := 4) (show gA ≠ gB by omega)
                    have hS128 := HSB.out hB128
                    refine hK.out _ _ hS128 (fun hHeld => ?_)
                    clear hK K kc mB
                    try simp only [nrm]
                    generalize V126.freeze ⟨gB, 4, none⟩ 1 = V128 at *
                    refine wpAnyH_ready (rs := [5]) (by kernel_rfl) (by simp) ?_
                    refine AllReadyH.cons (i := 5) (o := ?o129) ?i129 ?g129 AllReadyH.nil
                    case i129 => exact rfl
                    case g129 =>
                      intro K hK
                      go_simp
                      (with_reducible refine (implMain kB).mono ?_)
                      rintro e V129 ⟨rfl, hb129⟩
                      replace kA := kA.below hb129
                      replace kB := kB.below hb129
                      have hB129 := hB128.trans (hb129.mono hB128.size)
                      have hS129 := HSB.out hB129
                      go_wp2_with fail
                      refine hK.out _ _ hS129 (fun hHeld => ?_)
                      clear hK K hb129
                      try simp only [nrm]
                      refine wpAnyH_ready (rs := [6]) (by kernel_rfl) (by simp) ?_
                      refine AllReadyH.cons (i := 6) (o := ?o130) ?i130 ?g130 AllReadyH.nil
                      case i130 => exact rfl
                      case g130 =>
                        intro K hK
                        go_simp
                        (with_reducible refine (HX1.out V129 gA hB129 kA).mono ?_)
                        rintro e V130 ⟨rfl, hb130⟩
                        have hB130 := hB129.trans (hb130.mono hB129.size)
                        have hS130 := HSB.out hB130
                        go_wp2_with fail
                        refine hK.out _ _ hS130 (fun hHeld => ?_)
                        clear hK K hb130
                        try simp only [nrm]
                        refine tk (i := 7) (v := ?v131) rfl (by kernel_rfl) (.inl ⟨by rfl, ?y131⟩) hHeld (fun _ _ _ h => h) ?_
                        case y131 => intro w hSw; (try dsimp only at hSw); go_simp; first | done | rfl
                        try simp only [nrm]
                        refine wpAnyH_done (by kernel_rfl) ?_ _
                        go_wp2_with fail
                        go_meet
                        case rel => exact ⟨rfl, hB130⟩
                case g127 =>
                  intro K hK
                  have kc := conv_mark (n := 4) (c := 4) mB
                  go_simp
                  have hB127 : Below wr.heap.size wr (V124.freeze ⟨gB, 4, none⟩ 1) := frz_below hB124 hgB
                  have kB : MC (V124.freeze ⟨gB, 4, none⟩ 1) gB := MC.frz mB
                  replace mA := mA.frzO (k := 4) (show gA ≠ gB by omega)
                  have hS127 := HSB.out hB127
                  refine hK.out _ _ hS127 (fun hHeld => ?_)
                  clear hK K kc mB
                  try simp only [nrm]
                  generalize V124.freeze ⟨gB, 4, none⟩ 1 = V127 at *
                  refine wpAnyH_ready (rs := [2, 5]) (by kernel_rfl) (by simp) ?_
                  refine AllReadyH.cons (i := 2) (o := ?o132) ?i132 ?g132 (AllReadyH.cons (i := 5) (o := ?o133) ?i133 ?g133 AllReadyH.nil)
                  case i132 => exact rfl
                  case i133 => exact rfl
                  case g132 =>
                    intro K hK
                    have kc := conv_mark (n := 4) (c := 4) mA
                    go_simp
                    have hB132 : Below wr.heap.size wr (V127.freeze ⟨gA, 4, none⟩ 1) := frz_below hB127 hgA
                    have kA : MC (V127.freeze ⟨gA, 4, none⟩ 1) gA := MC.frz mA
                    replace kB := kB.frzO (k := 4) (show gB ≠ gA by omega)
                    have hS132 := HSB.out hB132
                    refine hK.out _ _ hS132 (fun hHeld => ?_)
                    clear hK K kc mA
                    try simp only [nrm]
                    generalize V127.freeze ⟨gA, 4, none⟩ 1 = V132 at *
                    refine wpAnyH_ready (rs := [5]) (by kernel_rfl) (by simp) ?_
                    refine AllReadyH.cons (i := 5) (o := ?o134) ?i134 ?g134 AllReadyH.nil
                    case i134 => exact rfl
                    case g134 =>
                      intro K hK
                      go_simp
                      (with_reducible refine (implMain kB).mono ?_)
                      rintro e V134 ⟨rfl, hb134⟩
                      replace kA := kA.below hb134
                      replace kB := kB.below hb134
                      have hB134 := hB132.trans (hb134.mono hB132.size)
                      have hS134 := HSB.out hB134
                      go_wp2_with fail
                      refine hK.out _ _ hS134 (fun hHeld => ?_)
                      clear hK K hb134
                      try simp only [nrm]
                      refine wpAnyH_ready (rs := [6]) (by kernel_rfl) (by simp) ?_
                      refine AllReadyH.cons (i := 6) (o := ?o135) ?i135 ?g135 AllReadyH.nil
                      case i135 => exact rfl
                      case g135 =>
                        intro K hK
                        go_simp
                        (with_reducible refine (HX1.out V134 gA hB134 kA).mono ?_)
                        rintro e V135 ⟨rfl, hb135⟩
                        have hB135 := hB134.trans (hb135.mono hB134.size)
                        have hS135 := HSB.out hB135
                        go_wp2_with fail
                        refine hK.out _ _ hS135 (fun hHeld => ?_)
                        clear hK K hb135
                        try simp only [nrm]
                        refine tk (i := 7) (v := ?v136) rfl (by kernel_rfl) (.inl ⟨by rfl, ?y136⟩) hHeld (fun _ _ _ h => h) ?_
                        case y136 => intro w hSw; (try dsimp only at hSw); go_simp; first | done | rfl
                        try simp only [nrm]
                        refine wpAnyH_done (by kernel_rfl) ?_ _
                        go_wp2_with fail
                        go_meet
                        case rel => exact ⟨rfl, hB135⟩
                  case g133 =>
                    intro K hK
                    go_simp
                    (with_reducible refine (implMain kB).mono ?_)
                    rintro e V133 ⟨rfl, hb133⟩
                    replace mA := mA.below hb133 mA.lt
                    replace kB := kB.below hb133
                    have hB133 := hB127.trans (hb133.mono hB127.size)
                    have hS133 := HSB.out hB133
                    go_wp2_with fail
                    refine hK.out _ _ hS133 (fun hHeld => ?_)
                    clear hK K hb133
                    try simp only [nrm]
                    refine wpAnyH_ready (rs := [2]) (by kernel_rfl) (by simp) ?_
                    refine AllReadyH.cons (i := 2) (o := ?o137) ?i137 ?g137 AllReadyH.nil
                    case i137 => exact rfl
                    case g137 =>
                      intro K hK
                      have kc := conv_mark (n := 4) (c := 4) mA
                      go_simp
                      have hB137 : Below wr.heap.size wr (V133.freeze ⟨gA, 4, none⟩ 1) := frz_below hB133 hgA
                      have kA : MC (V133.freeze ⟨gA, 4, none⟩ 1) gA := MC.frz mA
                      replace kB := kB.frzO (k := 4) (show gB ≠ gA by omega)
                      have hS137 := HSB.out hB137
                      refine hK.out _ _ hS137 (fun hHeld => ?_)
                      clear hK K kc mA
                      try simp only [nrm]
                      generalize V133.freeze ⟨gA, 4, none⟩ 1 = V137 at *
                      refine wpAnyH_ready (rs := [6]) (by kernel_rfl) (by simp) ?_
                      refine AllReadyH.cons (i := 6) (o := ?o138) ?i138 ?g138 AllReadyH.nil
                      case i138 => exact rfl
                      case g138 =>
                        intro K hK
                        go_simp
                        (with_reducible refine (HX1.out V137 gA hB137 kA).mono ?_)
                        rintro e V138 ⟨rfl, hb138⟩
                        have hB138 := hB137.trans (hb138.mono hB137.size)
                        have hS138 := HSB.out hB138
                        go_wp2_with fail
                        refine hK.out _ _ hS138 (fun hHeld => ?_)
                        clear hK K hb138
                        try simp only [nrm]
                        refine tk (i := 7) (v := ?v139) rfl (by kernel_rfl) (.inl ⟨by rfl, ?y139⟩) hHeld (fun _ _ _ h => h) ?_
                        case y139 => intro w hSw; (try dsimp only at hSw); go_simp; first | done | rfl
                        try simp only [nrm]
                        refine wpAnyH_done (by kernel_rfl) ?_ _
                        go_wp2_with fail
                        go_meet
                        case rel => exact ⟨rfl, hB138⟩
              case g125 =>
                intro K hK
                have kc := conv_mark (n := 4) (c := 4) mB
                go_simp
                have hB125 : Below wr.heap.size wr (V102.freeze ⟨gB, 4, none⟩ 1) := frz_below hB102 hgB
                have kB : MC (V102.freeze ⟨gB, 4, none⟩ 1) gB := MC.frz mB
                have hS125 := HSB.out hB125
                refine hK.out _ _ hS125 (fun hHeld => ?_)
                clear hK K kc mB
                try simp only [nrm]
                generalize V102.freeze ⟨gB, 4, none⟩ 1 = V125 at *
                refine wpAnyH_ready (rs := [1, 5]) (by kernel_rfl) (by simp) ?_
                refine AllReadyH.cons (i := 1) (o := ?o140) ?i140 ?g140 (AllReadyH.cons (i := 5) (o := ?o141) ?i141 ?g141 AllReadyH.nil)
                case i140 => exact rfl
                case i141 => exact rfl
                case g140 =>
                  intro K hK
                  go_simp
                  have hb140 : Below V125.heap.size V125 (V125.alloc (.cells #[.int .u8 109, .int .u8 97, .int .u8 105, .int .u8 110] 5)) := (Below.refl _ _).alloc (Nat.le_refl _) _
                  have mA := Blk.new V125 5 [.int .u8 109, .int .u8 97, .int .u8 105, .int .u8 110]
                  simp only [List.toArray] at mA
                  have hgA : wr.heap.size ≤ V125.heap.size := hB125.size
                  have hne : gB ≠ V125.heap.size := Nat.ne_of_lt (World.block_lt_of_cell? V125 _ (kB 0 _ rfl))
                  replace kB := kB.below hb140
                  have hB140 := hB125.trans (hb140.mono hB125.size)
                  have hS140 := HSB.out hB140
                  refine hK.out _ _ hS140 (fun hHeld => ?_)
                  clear hK K
                  try simp only [nrm]
                  clear hb140
                  generalize V125.alloc (.cells #[.int .u8 109, .int .u8 97, .int .u8 105, .int .u8 110] 5) = V140 at *
                  generalize V125.heap.size = gA at *
                  refine wpAnyH_ready (rs := [2, 5]) (by kernel_rfl) (by simp) ?_
                  refine AllReadyH.cons (i := 2) (o := ?o142) ?i142 ?g142 (AllReadyH.cons (i := 5) (o := ?o143) ?i143 ?g143 AllReadyH.nil)
                  case i142 => exact rfl
                  case i143 => exact rfl
                  case g142 =>
                    intro K hK
                    have kc := conv_mark (n := 4) (c := 4) mA
                    go_simp
                    have hB142 : Below wr.heap.size wr (V140.freeze ⟨gA, 4, none⟩ 1) := frz_below hB140 hgA
                    have kA : MC (V140.freeze ⟨gA, 4, none⟩ 1) gA := MC.frz mA
                    replace kB := kB.frzO (k := 4) (show gB ≠ gA by omega)
                    have hS142 := HSB.out hB142
                    refine hK.out _ _ hS142 (fun hHeld => ?_)
                    clear hK K kc mA
                    try simp only [nrm]
                    generalize V140.freeze ⟨gA, 4, none⟩ 1 = V142 at *
                    refine wpAnyH_ready (rs := [5]) (by kernel_rfl) (by simp) ?_
                    refine AllReadyH.cons (i := 5) (o := ?o144) ?i144 ?g144 AllReadyH.nil
                    case i144 => exact rfl
                    case g144 =>
                      intro K hK
                      go_simp
                      (with_reducible refine (implMain kB).mono ?_)
                      rintro e V144 ⟨rfl, hb144⟩
                      replace kA := kA.below hb144
                      replace kB := kB.below hb144
                      have hB144 := hB142.trans (hb144.mono hB142.size)
                      have hS144 := HSB.out hB144
                      go_wp2_with fail
                      refine hK.out _ _ hS144 (fun hHeld => ?_)
                      clear hK K hb144
                      try simp only [nrm]
                      refine wpAnyH_ready (rs := [6]) (by kernel_rfl) (by simp) ?_
                      refine AllReadyH.cons (i := 6) (o := ?o145) ?i145 ?g145 AllReadyH.nil
                      case i145 => exact rfl
                      case g145 =>
                        intro K hK
                        go_simp
                        (with_reducible refine (HX1.out V144 gA hB144 kA).mono ?_)
                        rintro e V145 ⟨rfl, hb145⟩
                        have hB145 := hB144.trans (hb145.mono hB144.size)
                        have hS145 := HSB.out hB145
                        go_wp2_with fail
                        refine hK.out _ _ hS145 (fun hHeld => ?_)
                        clear hK K hb145
                        try simp only [nrm]
                        refine tk (i := 7) (v := ?v146) rfl (by kernel_rfl) (.inl ⟨by rfl, ?y146⟩) hHeld (fun _ _ _ h => h) ?_
                        case y146 => intro w hSw; (try dsimp only at hSw); go_simp; first | done | rfl
                        try simp only [nrm]
                        refine wpAnyH_done (by kernel_rfl) ?_ _
                        go_wp2_with fail
                        go_meet
                        case rel => exact ⟨rfl, hB145⟩
                  case g143 =>
                    intro K hK
                    go_simp
                    (with_reducible refine (implMain kB).mono ?_)
                    rintro e V143 ⟨rfl, hb143⟩
                    replace mA := mA.below hb143 mA.lt
                    replace kB := kB.below hb143
                    have hB143 := hB140.trans (hb143.mono hB140.size)
                    have hS143 := HSB.out hB143
                    go_wp2_with fail
                    refine hK.out _ _ hS143 (fun hHeld => ?_)
                    clear hK K hb143
                    try simp only [nrm]
                    refine wpAnyH_ready (rs := [2]) (by kernel_rfl) (by simp) ?_
                    refine AllReadyH.cons (i := 2) (o := ?o147) ?i147 ?g147 AllReadyH.nil
                    case i147 => exact rfl
                    case g147 =>
                      intro K hK
                      have kc := conv_mark (n := 4) (c := 4) mA
                      go_simp
                      have hB147 : Below wr.heap.size wr (V143.freeze ⟨gA, 4, none⟩ 1) := frz_below hB143 hgA
                      have kA : MC (V143.freeze ⟨gA, 4, none⟩ 1) gA := MC.frz mA
                      replace kB := kB.frzO (k := 4) (show gB ≠ gA by omega)
                      have hS147 := HSB.out hB147
                      refine hK.out _ _ hS147 (fun hHeld => ?_)
                      clear hK K kc mA
                      try simp only [nrm]
                      generalize V143.freeze ⟨gA, 4, none⟩ 1 = V147 at *
                      refine wpAnyH_ready (rs := [6]) (by kernel_rfl) (by simp) ?_
                      refine AllReadyH.cons (i := 6) (o := ?o148) ?i148 ?g148 AllReadyH.nil
                      case i148 => exact rfl
                      case g148 =>
                        intro K hK
                        go_simp
                        (with_reducible refine (HX1.out V147 gA hB147 kA).mono ?_)
                        rintro e V148 ⟨rfl, hb148⟩
                        have hB148 := hB147.trans (hb148.mono hB147.size)
                        have hS148 := HSB.out hB148
                        go_wp2_with fail
                        refine hK.out _ _ hS148 (fun hHeld => ?_)
                        clear hK K hb148
                        try simp only [nrm]
                        refine tk (i := 7) (v := ?v149) rfl (by kernel_rfl) (.inl ⟨by rfl, ?y149⟩) hHeld (fun _ _ _ h => h) ?_
                        case y149 => intro w hSw; (try dsimp only at hSw); go_simp; first | done | rfl
                        try simp only [nrm]
                        refine wpAnyH_done (by kernel_rfl) ?_ _
                        go_wp2_with fail
                        go_meet
                        case rel => exact ⟨rfl, hB148⟩
                case g141 =>
                  intro K hK
                  go_simp
                  (with_reducible refine (implMain kB).mono ?_)
                  rintro e V141 ⟨rfl, hb141⟩
                  replace kB := kB.below hb141
                  have hB141 := hB125.trans (hb141.mono hB125.size)
                  have hS141 := HSB.out hB141
                  go_wp2_with fail
                  refine hK.out _ _ hS141 (fun hHeld => ?_)
                  clear hK K hb141
                  try simp only [nrm]
                  refine wpAnyH_ready (rs := [1]) (by kernel_rfl) (by simp) ?_
                  refine AllReadyH.cons (i := 1) (o := ?o150) ?i150 ?g150 AllReadyH.nil
                  case i150 => exact rfl
                  case g150 =>
                    intro K hK
                    go_simp
                    have hb150 : Below V141.heap.size V141 (V141.alloc (.cells #[.int .u8 109, .int .u8 97, .int .u8 105, .int .u8 110] 5)) := (Below.refl _ _).alloc (Nat.le_refl _) _
                    have mA := Blk.new V141 5 [.int .u8 109, .int .u8 97, .int .u8 105, .int .u8 110]
                    simp only [List.toArray] at mA
                    have hgA : wr.heap.size ≤ V141.heap.size := hB141.size
                    have hne : gB ≠ V141.heap.size := Nat.ne_of_lt (World.block_lt_of_cell? V141 _ (kB 0 _ rfl))
                    replace kB := kB.below hb150
                    have hB150 := hB141.trans (hb150.mono hB141.size)
                    have hS150 := HSB.out hB150
                    refine hK.out _ _ hS150 (fun hHeld => ?_)
                    clear hK K
                    try simp only [nrm]
                    clear hb150
                    generalize V141.alloc (.cells #[.int .u8 109, .int .u8 97, .int .u8 105, .int .u8 110] 5) = V150 at *
                    generalize V141.heap.size = gA at *
                    refine wpAnyH_ready (rs := [2]) (by kernel_rfl) (by simp) ?_
                    refine AllReadyH.cons (i := 2) (o := ?o151) ?i151 ?g151 AllReadyH.nil
                    case i151 => exact rfl
                    case g151 =>
                      intro K hK
                      have kc := conv_mark (n := 4) (c := 4) mA
                      go_simp
                      have hB151 : Below wr.heap.size wr (V150.freeze ⟨gA, 4, none⟩ 1) := frz_below hB150 hgA
                      have kA : MC (V150.freeze ⟨gA, 4, none⟩ 1) gA := MC.frz mA
                      replace kB := kB.frzO (k := 4) (show gB ≠ gA by omega)
                      have hS151 := HSB.out hB151
                      refine hK.out _ _ hS151 (fun hHeld => ?_)
                      clear hK K kc mA
                      try simp only [nrm]
                      generalize V150.freeze ⟨gA, 4, none⟩ 1 = V151 at *
                      refine wpAnyH_ready (rs := [6]) (by kernel_rfl) (by simp) ?_
                      refine AllReadyH.cons (i := 6) (o := ?o152) ?i152 ?g152 AllReadyH.nil
                      case i152 => exact rfl
                      case g152 =>
                        intro K hK
                        go_simp
                        (with_reducible refine (HX1.out V151 gA hB151 kA).mono ?_)
                        rintro e V152 ⟨rfl, hb152⟩
                        have hB152 := hB151.trans (hb152.mono hB151.size)
                        have hS152 := HSB.out hB152
                        go_wp2_with fail
                        refine hK.out _ _ hS152 (fun hHeld => ?_)
                        clear hK K hb152
                        try simp only [nrm]
                        refine tk (i := 7) (v := ?v153) rfl (by kernel_rfl) (.inl ⟨by rfl, ?y153⟩) hHeld (fun _ _ _ h => h) ?_
                        case y153 => intro w hSw; (try dsimp only at hSw); go_simp; first | done | rfl
                        try simp only [nrm]
                        refine wpAnyH_done (by kernel_rfl) ?_ _
                        go_wp2_with fail
                        go_meet
                        case rel => exact ⟨rfl, hB152⟩
          case rest =>
            obtain ⟨rfl, hbz⟩ := hcut
            have s9 := s4.step hbz.out
            have k1 := (HK9.out hbz.out).2.1
            have HWA9 : Hid (WAt wc av (entsAll l n)) := HWA4.out.below hbz.out
            clear s4 HX1 HXP HWA4 oB
            obtain ⟨fx, hfx⟩ : ∃ z, z = findX o mainN fmain := ⟨_, rfl⟩
            rw [← hfx]
            cases fx with
            | none =>
              simp only [intO]
              have HM : Hid (Lk fmain l zeroIg 4) := Lk.main HFo.out HUo.out (by rw [HN.out]; exact HG.out) (by rw [HLO.out]; exact hfx.symm)
              clear hfx
              have z0 := s9.z.cell (i := 0) rfl
              have z1 := s9.z.cell (i := 1) rfl
              have z2 := s9.z.cell (i := 2) rfl
              have f0 := s9.z.free 0
              have f1 := s9.z.free 1
              have f2 := s9.z.free 2
              have HF : Hid (LkFin l w (.returned (.tuple #[.agg #[.slice none 0 0, .slice none 0 0, .int .i64 0], .int .i64 4])) (((wc.setCell ⟨w.heap.size, 0, none⟩ (.slice none 0 0)).setCell ⟨w.heap.size, 1, none⟩ (.slice none 0 0)).setCell ⟨w.heap.size, 2, none⟩ (.int .i64 0))) := fin_no s9 (HM.out)
              have D : Blk (((wc.setCell ⟨w.heap.size, 0, none⟩ (.slice none 0 0)).setCell ⟨w.heap.size, 1, none⟩ (.slice none 0 0)).setCell ⟨w.heap.size, 2, none⟩ (.int .i64 0)) w.heap.size 27 [.slice none 0 0, .slice none 0 0, .int .i64 0] := Blk.put3 s9.z
              have d0 := D.cell (i := 0) rfl
              have d1 := D.cell (i := 1) rfl
              have d2 := D.cell (i := 2) rfl
              clear D 
              go_wp2_with fail
              refine bodyPost_ret (v := .tuple #[.agg #[.slice none 0 0, .slice none 0 0, .int .i64 0], .int .i64 4]) (by simp only [results, Try.results7]; simp [go_sem, d0, d1, d2]) rfl HF.out
            | some x =>
              obtain ⟨ex, hxe, _, _⟩ := find_some hfx.symm
              obtain ⟨be, oe, am, cm, rfl, ⟨r0, r1, r2⟩, _⟩ := expCells HL1.out hxe
              have p2 := cell_on r2 s9.y
              have hx1 : x < n1 := by have := (List.getElem?_eq_some_iff.1 hxe).1; rw [HN1.out] at this; exact this
              have hxn : (x : Int) < (n1 : Int) := by omega
              have hx0 : ¬ ((x : Int) < 0) := by omega
              obtain ⟨ge, hge⟩ := HAV.out
              have H6 := imageOfC l (some ⟨b, off, none⟩) n c av ne cv ex.pos wc (LRow.below HL.out s9.y) HN.out h8 HFo.out.2 HNE.out HWA9.out hv1 hv3 ge hge
              have HXF : Hid (findX (ojAt l (l.length - 1)) mainN fmain = some x ∧ ex.pos = ((ojAt l (l.length - 1)).ex[x]?.map Xp.pos).getD 0) := ⟨by rw [HLO.out]; exact hfx.symm, by rw [HLO.out, hxe]; rfl⟩
              clear hfx hxe r0 r1 r2 hge HWA9
              simp only [intO]
              go_wp2_with fail
              refine H6.mono ?_
              rintro e w6 ⟨mv, wv, rs, rfl, hrs, him, hb6⟩
              have s6 := s9.step hb6
              have HWE : Hid (LkFin l w (.returned (.tuple #[.agg #[mv, wv, .int .i64 ex.pos], .int .i64 0])) (((w6.setCell ⟨w.heap.size, 0, none⟩ mv).setCell ⟨w.heap.size, 1, none⟩ wv).setCell ⟨w.heap.size, 2, none⟩ (.int .i64 ex.pos))) := fin_img HN.out s6 him s9.y.size hrs HFo.out HUo.out HG.out HXF.out.1 HXF.out.2
              obtain ⟨ma, mc, rfl, _⟩ := owns_shape him.mrow.own
              obtain ⟨wa, wk, rfl, _⟩ := owns_shape him.wrow.own
              generalize (wordsTo l n).length = lz at *
              have z0 := s6.z.cell (i := 0) rfl
              have z1 := s6.z.cell (i := 1) rfl
              have z2 := s6.z.cell (i := 2) rfl
              have f0 := s6.z.free 0
              have f1 := s6.z.free 1
              have f2 := s6.z.free 2
              have D : Blk (((w6.setCell ⟨w.heap.size, 0, none⟩ (.slice ma rs.length mc)).setCell ⟨w.heap.size, 1, none⟩ (.slice wa lz wk)).setCell ⟨w.heap.size, 2, none⟩ (.int .i64 ex.pos)) w.heap.size 27 [.slice ma rs.length mc, .slice wa lz wk, .int .i64 ex.pos] := Blk.put3 s6.z
              have x0 := D.cell (i := 0) rfl
              have x1 := D.cell (i := 1) rfl
              have x2 := D.cell (i := 2) rfl
              clear D H6 s6 s9 him hb6 hrs HXF
              go_wp2_with fail
              refine bodyPost_ret (v := .tuple #[.agg #[.slice ma rs.length mc, .slice wa lz wk, .int .i64 ex.pos], .int .i64 0]) (by simp only [results, Try.results7]; simp [go_sem, x0, x1, x2]) rfl HWE.out
        · have HNG : Hid (¬ goodTo l l.length) := by rw [HN.out]; exact hng
          clear hng hb3 s2
          have z0 := s3.z.cell (i := 0) rfl
          have z1 := s3.z.cell (i := 1) rfl
          have z2 := s3.z.cell (i := 2) rfl
          have f0 := s3.z.free 0
          have f1 := s3.z.free 1
          have f2 := s3.z.free 2
          have HF : Hid (LkFin l w (.returned (.tuple #[.agg #[.slice none 0 0, .slice none 0 0, .int .i64 0], .int .i64 3])) (((w3.setCell ⟨w.heap.size, 0, none⟩ (.slice none 0 0)).setCell ⟨w.heap.size, 1, none⟩ (.slice none 0 0)).setCell ⟨w.heap.size, 2, none⟩ (.int .i64 0))) := fin_no s3 (Lk.missing HFo.out HUo.out HNG.out)
          have D : Blk (((w3.setCell ⟨w.heap.size, 0, none⟩ (.slice none 0 0)).setCell ⟨w.heap.size, 1, none⟩ (.slice none 0 0)).setCell ⟨w.heap.size, 2, none⟩ (.int .i64 0)) w.heap.size 27 [.slice none 0 0, .slice none 0 0, .int .i64 0] := Blk.put3 s3.z
          have d0 := D.cell (i := 0) rfl
          have d1 := D.cell (i := 1) rfl
          have d2 := D.cell (i := 2) rfl
          clear D 
          go_wp2_with fail
          refine bodyPost_ret (v := .tuple #[.agg #[.slice none 0 0, .slice none 0 0, .int .i64 0], .int .i64 3]) (by simp only [results, Try.results7]; simp [go_sem, d0, d1, d2]) rfl HF.out
  · rw [show (decide ((1 : Int) ≤ (n : Int)) && decide ((n : Int) ≤ 8)) = false by simp; omega] at HR
    have HNF : Hid (¬ formOk l) := fun hf => h18 ⟨by rw [← HN.out]; exact hf.1.1, by rw [← HN.out]; exact hf.1.2⟩
    go_wp2_with fail
    refine HR.mono ?_
    rintro e w0' ⟨rfl, rfl⟩
    clear HR
    have z0 := s0.z.cell (i := 0) rfl
    have z1 := s0.z.cell (i := 1) rfl
    have z2 := s0.z.cell (i := 2) rfl
    have f0 := s0.z.free 0
    have f1 := s0.z.free 1
    have f2 := s0.z.free 2
    have HF : Hid (LkFin l w (.returned (.tuple #[.agg #[.slice none 0 0, .slice none 0 0, .int .i64 0], .int .i64 1])) (((w0'.setCell ⟨w.heap.size, 0, none⟩ (.slice none 0 0)).setCell ⟨w.heap.size, 1, none⟩ (.slice none 0 0)).setCell ⟨w.heap.size, 2, none⟩ (.int .i64 0))) := fin_no s0 (Lk.form HNF.out)
    have D : Blk (((w0'.setCell ⟨w.heap.size, 0, none⟩ (.slice none 0 0)).setCell ⟨w.heap.size, 1, none⟩ (.slice none 0 0)).setCell ⟨w.heap.size, 2, none⟩ (.int .i64 0)) w.heap.size 27 [.slice none 0 0, .slice none 0 0, .int .i64 0] := Blk.put3 s0.z
    have d0 := D.cell (i := 0) rfl
    have d1 := D.cell (i := 1) rfl
    have d2 := D.cell (i := 2) rfl
    clear D 
    go_wp2_with fail
    refine bodyPost_ret (v := .tuple #[.agg #[.slice none 0 0, .slice none 0 0, .int .i64 0], .int .i64 1]) (by simp only [results, Try.results7]; simp [go_sem, d0, d1, d2]) rfl HF.out
end Go.Proofs.Ytefciaeajlgheaa

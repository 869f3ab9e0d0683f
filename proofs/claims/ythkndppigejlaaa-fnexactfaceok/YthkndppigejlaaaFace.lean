/- Faces: what the program tells of one. -/
import Derived.Test.YthkndppigejlaaaUnl
namespace Go.Proofs.Ythkndppigejlaaa
open Go.RowKit
set_option linter.unusedVariables false
set_option linter.unusedSimpArgs false
set_option maxRecDepth 100000

def isKd (x : Int) : Bool := decide (0 ≤ x) && decide (x ≤ 1)
def fpOk (q : Fp) : Bool := nameOk q.name false && decide (q.kinds.length ≤ 4) && q.kinds.all isKd
def faOk (f : Fa) : Bool := nameOk f.name true && decide (f.procs.length ≤ 8) && f.procs.all fpOk && allUnl (f.procs.map Fp.name)

def nums (l : List Int) : List (List Fl) := l.map fun x => [.n x]

theorem nums_rows {w : World} {b : Nat} : ∀ {l : List Int} {off : Nat}, (∀ i, i < l.length → w.cell? ⟨b, off + i, none⟩ = some (.int .i64 (l[i]?.getD 0))) → RdRows w b 1 off (nums l) := by
  intro l
  induction l with
  | nil => intro off h; exact trivial
  | cons x l ih =>
    intro off h
    refine ⟨⟨⟨_, by have := h 0 (by simp); simpa using this, rfl⟩, trivial⟩, ih fun i hi => ?_⟩
    have := h (i + 1) (by simpa using hi)
    rw [show off + (i + 1) = off + 1 + i by omega] at this
    simpa using this

theorem NRow.lrow {w : World} {a : Option Addr} {c : Nat} {l : List Int} (h : NRow w a l.length l) (hc : l.length ≤ c) (hm : c ≤ maxLen) (hz : a = none → c = 0) : LRow w a c 1 (nums l) := by
  refine ⟨by simpa [nums] using hc, hm, hz, fun hp => ?_⟩
  obtain ⟨b, off, e, hcl⟩ := h.2.2 (by simpa [nums] using hp)
  exact ⟨b, off, e, nums_rows hcl⟩

theorem isKindC (x : Int) (w : World) : Calls Try.prog 30 #[.int .i64 x] w fun e w' => e = .returned (.bool (isKd x)) ∧ w' = w := by
  have H := inRangeC x 0 1 w
  go_enter Try.func30, Try.ntmps30
  go_wp2_with fail
  refine H.mono ?_
  rintro e w2 ⟨rfl, rfl⟩
  go_wp2_with fail
  go_ret
  exact ⟨rfl, rfl⟩

theorem allKinds (a : Option Addr) (c : Nat) (l : List Int) (w : World) (h : NRow w a l.length l) (hc : l.length ≤ c) (hm : c ≤ maxLen) (hz : a = none → c = 0) :
    Calls Try.prog 29 #[.slice a l.length c, .func (.func 30) #[] #[]] w fun e w' => e = .returned (.bool (l.all isKd)) ∧ w.grownBy w' none := by
  refine (allInt 30 #[] none a l.length c (nums l) (fun j => isKd (l[j]?.getD 0)) (fun _ wr => w.grownBy wr none) (fun _ _ => True) w ⟨ent_of Try.func30 rfl rfl, fun j wr hi => (h.lrow hc hm hz).below (below_grown hi), ?_, ?_⟩ (by simp [nums]) (grown_refl _ _) (fun j w1 w2 h1 h2 => grown_trans h1 h2) (by simp) (ent_of Try.func37 rfl rfl)).mono ?_
  · intro r hr
    obtain ⟨x, _, rfl⟩ := List.mem_map.1 hr
    rfl
  · intro j r wr vs hr hi hvs _
    unfold nums at hr
    rw [List.getElem?_map] at hr
    obtain ⟨x, hx, rfl⟩ := Option.map_eq_some_iff.1 hr
    rw [hx]
    obtain ⟨y0, us, rfl, rfl, rfl⟩ := hvs
    refine (isKindC x wr).mono ?_
    rintro e w' ⟨rfl, rfl⟩
    exact ⟨rfl, grown_refl _ _, fun _ => hi, fun _ => trivial⟩
  · rintro e w' ⟨r, rfl, hg, ht⟩
    refine ⟨ret_bool ?_, hg⟩
    rw [told_all ht]
    exact range_all l 0 isKd

set_option maxHeartbeats 1000000 in
theorem isFormedC (q : Fp) (a0 : Option Addr) (c0 : Nat) (a1 : Option Addr) (c1 : Nat) (w : World) (h0 : BRow w a0 q.name.length q.name) (hn0 : q.name.length ≤ 1073741824) (hc0 : q.name.length ≤ c0) (h1 : NRow w a1 q.kinds.length q.kinds) (hc : q.kinds.length ≤ c1) (hm : c1 ≤ maxLen) (hz : a1 = none → c1 = 0) :
    Calls Try.prog 16 #[.agg #[.slice a0 q.name.length c0, .slice a1 q.kinds.length c1]] w fun e w' => e = .returned (.bool (fpOk q)) ∧ w.grownBy w' none := by
  have y0 := grown_alloc w (.cells #[.slice a0 q.name.length c0, .slice a1 q.kinds.length c1] 39 (0, 0)) none
  have q0 := cell_new w 39 #[.slice a0 q.name.length c0, .slice a1 q.kinds.length c1] 0 _ rfl
  have q1 := cell_new w 39 #[.slice a0 q.name.length c0, .slice a1 q.kinds.length c1] 1 _ rfl
  have HN := implNameOk a0 _ c0 q.name false _ (h0.below (below_grown y0)) hn0 hc0
  have HK := allKinds a1 c1 q.kinds _ (h1.below (below_grown y0)) hc hm hz
  have hcn : q.kinds.length ≤ 9223372036854775807 := by unfold maxLen at hm; omega
  have he : Hid (fpOk q = (nameOk q.name false && decide (q.kinds.length ≤ 4) && q.kinds.all isKd)) := rfl
  clear h0 h1
  generalize q.kinds.all isKd = r2 at HK he
  generalize nameOk q.name false = r0 at HN he
  generalize q.name.length = n0 at *
  generalize q.kinds.length = n1 at *
  generalize hr1 : decide (n1 ≤ 4) = r1 at he
  go_enter Try.func16, Try.ntmps16
  go_upto_region 1 with fail
  generalize w.alloc (.cells #[.slice a0 n0 c0, .slice a1 n1 c1] 39 (0, 0)) = w1 at *
  go_wp2_with fail
  refine HN.mono ?_
  rintro e w2 ⟨rfl, rfl⟩
  clear HN
  cases r0 with
  | false =>
    clear HK
    go_wp2_with fail
    go_ret
    exact ⟨ret_bool (by rw [he.out]; rfl), y0⟩
  | true =>
    by_cases h4 : n1 ≤ 4
    · have h4' : (n1 : Int) ≤ 4 := by omega
      have hr : Hid (r1 = true) := by show _ = _; rw [← hr1]; exact decide_eq_true h4
      clear hr1
      go_wp2_with fail
      refine HK.mono ?_
      rintro e w3 ⟨rfl, hg⟩
      go_wp2_with fail
      go_ret
      exact ⟨ret_bool (by rw [he.out, hr.out]; simp), grown_trans y0 hg⟩
    · have h4' : ¬ (n1 : Int) ≤ 4 := by omega
      have hr : Hid (r1 = false) := by show _ = _; rw [← hr1]; exact decide_eq_false h4
      clear hr1 HK
      go_wp2_with fail
      go_ret
      exact ⟨ret_bool (by rw [he.out, hr.out]; simp), y0⟩

theorem allFormed (a : Option Addr) (c : Nat) (l : List Fp) (w : World) (h : LRow w a c 2 (l.map Fp.fl)) (hs : ∀ q ∈ l, q.name.length ≤ 1073741824) :
    Calls Try.prog 15 #[.slice a l.length c, .func (.func 16) #[] #[]] w fun e w' => e = .returned (.bool (l.all fpOk)) ∧ w.grownBy w' none := by
  refine (allFaceProc 16 #[] none a l.length c (l.map Fp.fl) (fun j => fpOk (l[j]?.getD ⟨[], []⟩)) (fun _ wr => w.grownBy wr none) (fun _ _ => True) w ⟨ent_of Try.func16 rfl rfl, fun j wr hi => h.below (below_grown hi), ?_, ?_⟩ (by simp) (grown_refl _ _) (fun j w1 w2 h1 h2 => grown_trans h1 h2) (by simp) (ent_of Try.func28 rfl rfl)).mono ?_
  · intro r hr
    obtain ⟨x, _, rfl⟩ := List.mem_map.1 hr
    rfl
  · intro j r wr vs hr hi hvs _
    rw [List.getElem?_map] at hr
    obtain ⟨x, hx, rfl⟩ := Option.map_eq_some_iff.1 hr
    rw [hx]
    have hxs := hs x (List.mem_of_getElem? hx)
    obtain ⟨y0, us, rfl, ⟨a0, c0, rfl, hb0, hc0, _⟩, y1, us2, rfl, ⟨a1, c1, rfl, hb1, hc1, hm1, hz1⟩, rfl⟩ := hvs
    refine (isFormedC x a0 c0 a1 c1 wr hb0 hxs hc0 hb1 hc1 hm1 hz1).mono ?_
    rintro e w' ⟨rfl, hg⟩
    exact ⟨rfl, hg, fun _ => grown_trans hi hg, fun _ => trivial⟩
  · rintro e w' ⟨r, rfl, hg, ht⟩
    refine ⟨ret_bool ?_, hg⟩
    rw [told_all ht]
    exact range_all l ⟨[], []⟩ fpOk

set_option maxHeartbeats 1000000 in
theorem implFaceOk (f : Fa) (a0 : Option Addr) (c0 : Nat) (a1 : Option Addr) (c1 : Nat) (w : World) (h0 : BRow w a0 f.name.length f.name) (hn0 : f.name.length ≤ 1073741824) (hc0 : f.name.length ≤ c0) (h1 : LRow w a1 c1 2 (f.procs.map Fp.fl)) (hs : ∀ q ∈ f.procs, q.name.length ≤ 1073741824) :
    Calls Try.prog 7 #[.agg #[.slice a0 f.name.length c0, .slice a1 f.procs.length c1]] w fun e w' => e = .returned (.bool (faOk f)) ∧ w.grownBy w' none := by
  have y0 := grown_alloc w (.cells #[.slice a0 f.name.length c0, .slice a1 f.procs.length c1] 30 (0, 0)) none
  have q0 := cell_new w 30 #[.slice a0 f.name.length c0, .slice a1 f.procs.length c1] 0 _ rfl
  have q1 := cell_new w 30 #[.slice a0 f.name.length c0, .slice a1 f.procs.length c1] 1 _ rfl
  have HN := implNameOk a0 _ c0 f.name true _ (h0.below (below_grown y0)) hn0 hc0
  have HK := allFormed a1 c1 f.procs _ (h1.below (below_grown y0)) hs
  have hcn : f.procs.length ≤ 9223372036854775807 := by have h2 := h1.most; have h3 := h1.cap; simp only [List.length_map] at h3; unfold maxLen at h2; omega
  have HU : ∀ w3, w.grownBy w3 none → Calls Try.prog 17 #[.slice a1 f.procs.length c1, .func (.func 18) #[] #[]] w3 fun e w' => e = .returned (.bool (allUnl (f.procs.map Fp.name))) ∧ w.grownBy w' none := by
    intro w3 h3
    refine (unlikeFaceProc (ent_of Try.func41 rfl rfl) a1 c1 f.procs f.procs.length w3 rfl (h1.below (below_grown h3))).mono ?_
    rintro e w' ⟨rfl, hg⟩
    exact ⟨rfl, grown_trans h3 hg⟩
  have he : Hid (faOk f = (nameOk f.name true && decide (f.procs.length ≤ 8) && f.procs.all fpOk && allUnl (f.procs.map Fp.name))) := rfl
  clear h0 h1 hs
  generalize allUnl (f.procs.map Fp.name) = r3 at HU he
  generalize f.procs.all fpOk = r2 at HK he
  generalize nameOk f.name true = r0 at HN he
  generalize f.name.length = n0 at *
  generalize f.procs.length = n1 at *
  generalize hr1 : decide (n1 ≤ 8) = r1 at he
  go_enter Try.func7, Try.ntmps7
  go_upto_region 1 with fail
  generalize w.alloc (.cells #[.slice a0 n0 c0, .slice a1 n1 c1] 30 (0, 0)) = w1 at *
  go_wp2_with fail
  refine HN.mono ?_
  rintro e w2 ⟨rfl, rfl⟩
  clear HN
  cases r0 with
  | false =>
    clear HK HU
    go_wp2_with fail
    go_ret
    exact ⟨ret_bool (by rw [he.out]; rfl), y0⟩
  | true =>
    by_cases h4 : n1 ≤ 8
    · have h4' : (n1 : Int) ≤ 8 := by omega
      have hr : Hid (r1 = true) := by show _ = _; rw [← hr1]; exact decide_eq_true h4
      clear hr1
      go_wp2_with fail
      refine HK.mono ?_
      rintro e w3 ⟨rfl, hg⟩
      replace q1 := cell_on q1 (below_grown hg)
      have hgw := grown_trans y0 hg
      clear HK q0 hg
      cases r2 with
      | false =>
        clear HU
        go_wp2_with fail
        go_ret
        exact ⟨ret_bool (by rw [he.out, hr.out]; simp), hgw⟩
      | true =>
        have HU3 := HU w3 hgw
        clear HU
        go_wp2_with fail
        refine HU3.mono ?_
        rintro e w4 ⟨rfl, hg4⟩
        go_wp2_with fail
        go_ret
        exact ⟨ret_bool (by rw [he.out, hr.out]; simp), hg4⟩
    · have h4' : ¬ (n1 : Int) ≤ 8 := by omega
      have hr : Hid (r1 = false) := by show _ = _; rw [← hr1]; exact decide_eq_false h4
      clear hr1 HK HU
      go_wp2_with fail
      go_ret
      exact ⟨ret_bool (by rw [he.out, hr.out]; simp), y0⟩
end Go.Proofs.Ythkndppigejlaaa

/- Modules but for how long the text is: what the program tells. -/
import Derived.Test.YtajnfknldofjlaaGreatDoorCensus4
namespace Go.Proofs.YtajnfknldofjlaaGreatDoor
open Go.RowKit
set_option linter.unusedVariables false
set_option linter.unusedSimpArgs false
set_option maxRecDepth 100000

def vaOk (v : Va) : Bool := nameOk v.name false && inB v.size 0 20
def paOk (a : Pa) : Bool := nameOk a.name false
def smallOk (x : List Int) : Bool := nameOk x false
def greatOk (x : List Int) : Bool := nameOk x true
def hdOk (q : Pr) : Bool := nameOk q.name false && decide (q.params.length ≤ 4) && q.params.all paOk && decide (q.locals.length ≤ 8) && q.locals.all smallOk
def p0 : Pr := ⟨[], false, [], [], []⟩
def ndPrs : List Pr → Nat
  | [] => 0
  | q :: l => ndSts q.body + ndPrs l
def fitPrs (l : List Pr) (left : Int) : Bool := (List.range l.length).all fun j => fitSts (l[j]?.getD p0).body 1 (left - (ndPrs (l.take j) : Int))
def formed (m : Mo) : Bool := nameOk m.name true && decide (m.uses.length ≤ 6) && m.uses.all greatOk && decide (m.vars.length ≤ 8) && m.vars.all vaOk && decide (m.procs.length ≤ 8) && m.procs.all hdOk && fitPrs m.procs 250

theorem ndPrs_app (l m : List Pr) : ndPrs (l ++ m) = ndPrs l + ndPrs m := by
  induction l with
  | nil => simp [ndPrs]
  | cons x l ih => simp [ndPrs, ih]; omega
theorem ndPrs_next {l : List Pr} {j : Nat} {x : Pr} (h : l[j]? = some x) : ndPrs (l.take (j + 1)) = ndPrs (l.take j) + ndSts x.body := by
  obtain ⟨hk, rfl⟩ := List.getElem?_eq_some_iff.1 h
  rw [List.take_succ_eq_append_getElem hk, ndPrs_app]; simp [ndPrs]

theorem greatC (x : List Int) (a : Option Addr) (c : Nat) (w : World) (h : BRow w a x.length x) (hn : x.length ≤ 1073741824) (hc : x.length ≤ c) :
    Calls Tryz.prog 88 #[.slice a x.length c] w fun e w' => e = .returned (.bool (greatOk x)) ∧ w' = w := by
  have H := implNameOk a x.length c x true w h hn hc
  go_enter Tryz.func88, Tryz.ntmps88
  go_wp2_with fail
  refine H.mono ?_
  rintro e w2 ⟨rfl, rfl⟩
  go_wp2_with fail
  go_ret
  exact ⟨rfl, rfl⟩
theorem smallC (x : List Int) (a : Option Addr) (c : Nat) (w : World) (h : BRow w a x.length x) (hn : x.length ≤ 1073741824) (hc : x.length ≤ c) :
    Calls Tryz.prog 123 #[.slice a x.length c] w fun e w' => e = .returned (.bool (smallOk x)) ∧ w' = w := by
  have H := implNameOk a x.length c x false w h hn hc
  go_enter Tryz.func123, Tryz.ntmps123
  go_wp2_with fail
  refine H.mono ?_
  rintro e w2 ⟨rfl, rfl⟩
  go_wp2_with fail
  go_ret
  exact ⟨rfl, rfl⟩

theorem allTxts (G : Nat) (p : List Int → Bool) (hE : Ent G) (HG : ∀ (x : List Int) (a : Option Addr) (c : Nat) (w : World), BRow w a x.length x → x.length ≤ 1073741824 → x.length ≤ c → Calls Tryz.prog G #[.slice a x.length c] w fun e w' => e = .returned (.bool (p x)) ∧ w' = w)
    (a : Option Addr) (c : Nat) (l : List (List Int)) (w : World) (h : LRow w a c 1 (txts l)) (hs : ∀ x ∈ l, x.length ≤ 1073741824) :
    Calls Tryz.prog 71 #[.slice a l.length c, .func (.func G) #[] #[]] w fun e w' => e = .returned (.bool (l.all p)) ∧ w.grownBy w' none := by
  refine (allTxt G #[] none a l.length c (txts l) (fun j => p (l[j]?.getD [])) (fun _ wr => w.grownBy wr none) (fun _ _ => True) w ⟨hE, fun j wr hi => h.below (below_grown hi), ?_, ?_⟩ (by simp [txts]) (grown_refl _ _) (fun j w1 w2 h1 h2 => grown_trans h1 h2) (by simp) (ent_of Tryz.func108 rfl rfl)).mono ?_
  · intro r hr
    obtain ⟨x, _, rfl⟩ := List.mem_map.1 hr
    rfl
  · intro j r wr vs hr hi hvs _
    unfold txts at hr
    rw [List.getElem?_map] at hr
    obtain ⟨x, hx, rfl⟩ := Option.map_eq_some_iff.1 hr
    rw [hx]
    have hxs := hs x (List.mem_of_getElem? hx)
    obtain ⟨y0, us, rfl, ⟨a0, c0, rfl, hb0, hc0, _⟩, rfl⟩ := hvs
    refine (HG x a0 c0 wr hb0 hxs hc0).mono ?_
    rintro e w' ⟨rfl, rfl⟩
    exact ⟨rfl, grown_refl _ _, fun _ => hi, fun _ => trivial⟩
  · rintro e w' ⟨r, rfl, hg, ht⟩
    refine ⟨ret_bool ?_, hg⟩
    rw [told_all ht]
    exact range_all l [] p

theorem varC (v : Va) (vs : List Value) (w : World) (h : RdVals w v.fl vs) (hn : v.name.length ≤ 1073741824) :
    Calls Tryz.prog 89 #[agg vs] w fun e w' => e = .returned (.bool (vaOk v)) ∧ w.grownBy w' none := by
  obtain ⟨y0, us, rfl, ⟨a0, c0, rfl, hb0, hc0, _⟩, y1, us2, rfl, rfl, rfl⟩ := h
  have yy := grown_alloc w (.cells #[.slice a0 v.name.length c0, .int .i64 v.size] 59 (0, 0)) none
  have x0 := Blk.new w 59 [.slice a0 v.name.length c0, .int .i64 v.size]
  have H := implNameOk a0 v.name.length c0 v.name false _ (hb0.below (below_grown yy)) hn hc0
  have H2 := inRangeC v.size 0 20 (w.alloc (.cells #[.slice a0 v.name.length c0, .int .i64 v.size] 59 (0, 0)))
  have he : Hid (vaOk v = (nameOk v.name false && (decide (0 ≤ v.size) && decide (v.size ≤ 20)))) := rfl
  simp only [agg]
  go_enter Tryz.func89, Tryz.ntmps89
  go_upto_region 1 with fail
  generalize w.alloc (.cells #[.slice a0 v.name.length c0, .int .i64 v.size] 59 (0, 0)) = w1 at *
  have q0 := x0.cell (i := 0) rfl
  have q1 := x0.cell (i := 1) rfl
  go_wp2_with fail
  refine H.mono ?_
  rintro e w1 ⟨rfl, rfl⟩
  cases e1 : nameOk v.name false
  · go_wp2_with fail
    go_ret
    exact ⟨ret_bool (by rw [he.out, e1]; rfl), yy⟩
  · generalize (decide (0 ≤ v.size) && decide (v.size ≤ 20)) = r2 at *
    go_wp2_with fail
    refine H2.mono ?_
    rintro e w1 ⟨rfl, rfl⟩
    go_wp2_with fail
    go_ret
    exact ⟨ret_bool (by rw [he.out, e1]; simp), yy⟩

theorem paramC (v : Pa) (vs : List Value) (w : World) (h : RdVals w v.fl vs) (hn : v.name.length ≤ 1073741824) :
    Calls Tryz.prog 122 #[agg vs] w fun e w' => e = .returned (.bool (paOk v)) ∧ w.grownBy w' none := by
  obtain ⟨y0, us, rfl, ⟨a0, c0, rfl, hb0, hc0, _⟩, y1, us2, rfl, rfl, rfl⟩ := h
  have yy := grown_alloc w (.cells #[.slice a0 v.name.length c0, .bool v.arr] 98 (0, 0)) none
  have x0 := Blk.new w 98 [.slice a0 v.name.length c0, .bool v.arr]
  have H := implNameOk a0 v.name.length c0 v.name false _ (hb0.below (below_grown yy)) hn hc0
  simp only [agg]
  go_enter Tryz.func122, Tryz.ntmps122
  go_upto_region 1 with fail
  generalize w.alloc (.cells #[.slice a0 v.name.length c0, .bool v.arr] 98 (0, 0)) = w1 at *
  have q0 := x0.cell (i := 0) rfl
  go_wp2_with fail
  refine H.mono ?_
  rintro e w1 ⟨rfl, rfl⟩
  go_wp2_with fail
  go_ret
  exact ⟨rfl, yy⟩

theorem allVars (a : Option Addr) (c : Nat) (l : List Va) (w : World) (h : LRow w a c 2 (l.map Va.fl)) (hs : ∀ x ∈ l, x.name.length ≤ 1073741824) :
    Calls Tryz.prog 29 #[.slice a l.length c, .func (.func 89) #[] #[]] w fun e w' => e = .returned (.bool (l.all vaOk)) ∧ w.grownBy w' none := by
  refine (allVar 89 #[] none a l.length c (l.map Va.fl) (fun j => vaOk (l[j]?.getD ⟨[], 0⟩)) (fun _ wr => w.grownBy wr none) (fun _ _ => True) w ⟨ent_of Tryz.func89 rfl rfl, fun j wr hi => h.below (below_grown hi), ?_, ?_⟩ (by simp) (grown_refl _ _) (fun j w1 w2 h1 h2 => grown_trans h1 h2) (by simp) (ent_of Tryz.func64 rfl rfl)).mono ?_
  · intro r hr
    obtain ⟨x, _, rfl⟩ := List.mem_map.1 hr
    rfl
  · intro j r wr vs hr hi hvs _
    rw [List.getElem?_map] at hr
    obtain ⟨x, hx, rfl⟩ := Option.map_eq_some_iff.1 hr
    rw [hx]
    refine (varC x vs wr hvs (hs x (List.mem_of_getElem? hx))).mono ?_
    rintro e w' ⟨rfl, hg⟩
    exact ⟨rfl, hg, fun _ => grown_trans hi hg, fun _ => trivial⟩
  · rintro e w' ⟨r, rfl, hg, ht⟩
    refine ⟨ret_bool ?_, hg⟩
    rw [told_all ht]
    exact range_all l ⟨[], 0⟩ vaOk

theorem allParams (a : Option Addr) (c : Nat) (l : List Pa) (w : World) (h : LRow w a c 2 (l.map Pa.fl)) (hs : ∀ x ∈ l, x.name.length ≤ 1073741824) :
    Calls Tryz.prog 68 #[.slice a l.length c, .func (.func 122) #[] #[]] w fun e w' => e = .returned (.bool (l.all paOk)) ∧ w.grownBy w' none := by
  refine (allParam 122 #[] none a l.length c (l.map Pa.fl) (fun j => paOk (l[j]?.getD ⟨[], false⟩)) (fun _ wr => w.grownBy wr none) (fun _ _ => True) w ⟨ent_of Tryz.func122 rfl rfl, fun j wr hi => h.below (below_grown hi), ?_, ?_⟩ (by simp) (grown_refl _ _) (fun j w1 w2 h1 h2 => grown_trans h1 h2) (by simp) (ent_of Tryz.func107 rfl rfl)).mono ?_
  · intro r hr
    obtain ⟨x, _, rfl⟩ := List.mem_map.1 hr
    rfl
  · intro j r wr vs hr hi hvs _
    rw [List.getElem?_map] at hr
    obtain ⟨x, hx, rfl⟩ := Option.map_eq_some_iff.1 hr
    rw [hx]
    refine (paramC x vs wr hvs (hs x (List.mem_of_getElem? hx))).mono ?_
    rintro e w' ⟨rfl, hg⟩
    exact ⟨rfl, hg, fun _ => grown_trans hi hg, fun _ => trivial⟩
  · rintro e w' ⟨r, rfl, hg, ht⟩
    refine ⟨ret_bool ?_, hg⟩
    rw [told_all ht]
    exact range_all l ⟨[], false⟩ paOk
end Go.Proofs.YtajnfknldofjlaaGreatDoor

/- Lists in brackets. By mkbracket.py. -/
import Derived.Test.YtajnfknldofjlaaGreatDoorPrMod
namespace Go.Proofs.YtajnfknldofjlaaGreatDoor
open Go.RowKit
set_option linter.unusedVariables false
set_option linter.unusedSimpArgs false
set_option maxRecDepth 100000

/-- The method F writes t of a record. -/
def PrOf (F : Nat) (r : List Fl) (t : List Int) : Prop := ∀ (w0 w : World) (vs : List Value) (base g : Nat) (l : List Int) (v : Value), Tabs w0 → RdVals w0 r vs → Below w0.heap.size w0 w → w0.heap.size ≤ base → base ≤ g → Pg w base g l v → l.length + t.length ≤ 1000000000 →
  Calls Tryz.prog F #[.pointer (some ⟨g, 0, none⟩), agg vs] w fun e w' => e = .returned (.tuple #[]) ∧ (∃ v', Pg w' base g (l ++ t) v') ∧ Wrote base (some g) w w'

theorem joinI_snoc (s x : List Int) : ∀ (l : List (List Int)), joinI s (l ++ [x]) = if l.length = 0 then x else joinI s l ++ s ++ x := by
  intro l
  induction l with
  | nil => rfl
  | cons a l ih =>
    cases l with
    | nil => simp [joinI]
    | cons b l =>
      rw [List.cons_append, List.cons_append, joinI, ← List.cons_append, ih]
      simp [joinI, List.append_assoc]
theorem joinI_next {s : List Int} {l : List (List Int)} {j : Nat} {x : List Int} (h : l[j]? = some x) : joinI s (l.take (j + 1)) = if j = 0 then x else joinI s (l.take j) ++ s ++ x := by
  obtain ⟨hk, rfl⟩ := List.getElem?_eq_some_iff.1 h
  rw [List.take_succ_eq_append_getElem hk, joinI_snoc]
  have : (l.take j).length = j := by simp; omega
  rw [this]
theorem joinI_mono (s : List Int) (l : List (List Int)) : ∀ (d j : Nat), j + d = l.length → (joinI s (l.take j)).length ≤ (joinI s l).length := by
  intro d
  induction d with
  | zero => intro j h; rw [List.take_of_length_le (by omega)]; exact Nat.le_refl _
  | succ d ih =>
    intro j h
    have h1 := ih (j + 1) (by omega)
    rw [joinI_next (List.getElem?_eq_getElem (by omega : j < l.length))] at h1
    split at h1
    · rename_i h0
      subst h0
      simp [joinI]
    · simp only [List.length_append] at h1; omega
theorem joinI_take (s : List Int) (l : List (List Int)) (j : Nat) (h : j ≤ l.length) : (joinI s (l.take j)).length ≤ (joinI s l).length := joinI_mono s l (l.length - j) j (by omega)

def brI (ts : List (List Int)) : List Int := [40, 32] ++ joinI [44, 32] ts ++ [41, 32]

set_option maxHeartbeats 8000000 in
theorem bracketExpr (F : Nat) (hE : Ent F) (tx : Ex → List Int) (l : List Ex) (H : ∀ x ∈ l, PrOf F x.fl (tx x)) (w0 w : World) (a : Option Addr) (c base g : Nat) (L : List Int) (v : Value) (hT : Tabs w0) (hr : LRow w0 a c 5 (exs l)) (hb : Below w0.heap.size w0 w) (h0 : w0.heap.size ≤ base) (hg : base ≤ g) (hp : Pg w base g L v) (hsz : L.length + (brI (l.map tx)).length ≤ 1000000000) :
    Calls Tryz.prog 197 #[.pointer (some ⟨g, 0, none⟩), .slice a l.length c, .func (.func F) #[.pointer (some ⟨g, 0, none⟩)] #[]] w fun e w' => e = .returned (.tuple #[]) ∧ (∃ v', Pg w' base g (L ++ brI (l.map tx)) v') ∧ Wrote base (some g) w w' := by
  have hgl := hp.blk.lt
  have hgk : ∀ k, some g = some k → w0.heap.size ≤ k := by intro k e; cases e; omega
  have hn9 : l.length ≤ 9223372036854775807 := by have h1 := hr.cap; have h2 := hr.most; unfold maxLen at h2; simp [exs_map] at h1; omega
  have hml : (exs l).length = l.length := by simp [exs_map]
  simp only [brI, List.length_append, List.length_cons, List.length_nil] at hsz
  have HQ := putC [⟨#[40]⟩] w.heap.size 1 1 (w.alloc (.cells #[.string ⟨#[40]⟩] 9)) base g _ _ (hp.grown (grown_alloc w _ none)) rfl (Blk.new w 9 [.string ⟨#[40]⟩]) (by omega) (by rw [put_40]; simp only [List.length_cons, List.length_nil]; omega) hg
  rw [put_40] at HQ
  have HH : Hid (∀ x ∈ l, PrOf F x.fl (tx x)) := H
  have HR : Hid (LRow w0 a c 5 (exs l)) := hr
  have HTt : Hid (Tabs w0) := hT
  have HB : Hid (Below w0.heap.size w0 w) := hb
  clear H hT hb
  go_enter Tryz.func197, Tryz.ntmps197
  go_wp2_with fail
  refine HQ.mono ?_
  rintro e w1 ⟨rfl, ⟨v1, hp1⟩, hq⟩
  have hw1 : Wrote base (some g) w w1 := (Wrote.of (grown_alloc w (.cells #[.string ⟨#[40]⟩] 9) none)).trans hq
  clear HQ hq hp
  generalize hnn : l.length = n at *
  have Hn : Hid (l.length = n) := hnn
  clear hnn
  have HP1 : Hid (∃ v', Pg w1 base g (L ++ [40, 32] ++ joinI [44, 32] ((l.map tx).take 0)) v') := ⟨v1, by simpa [joinI] using hp1⟩
  have HW1 : Hid (Wrote base (some g) w w1) := hw1
  clear hp1 hw1
  have FIN : ∀ wr, (∃ v', Pg wr base g (L ++ [40, 32] ++ joinI [44, 32] (l.map tx)) v') → Wrote base (some g) w wr → Calls Tryz.prog 92 #[.pointer (some ⟨g, 0, none⟩), .slice (some ⟨wr.heap.size, 0, none⟩) 1 1] (wr.alloc (.cells #[.string ⟨#[41]⟩] 9)) fun e w' => e = .returned (.tuple #[]) ∧ (∃ v', Pg w' base g (L ++ brI (l.map tx)) v') ∧ Wrote base (some g) w w' := by
    rintro wr ⟨v2, hp⟩ hw
    refine (putC [⟨#[41]⟩] wr.heap.size 1 1 (wr.alloc (.cells #[.string ⟨#[41]⟩] 9)) base g _ _ (hp.grown (grown_alloc wr _ none)) rfl (Blk.new wr 9 [.string ⟨#[41]⟩]) (by have := hp.blk.lt; omega) (by rw [put_41]; simp only [List.length_append, List.length_cons, List.length_nil]; omega) hg).mono ?_
    rintro e w' ⟨rfl, ⟨v3, hp3⟩, hq⟩
    rw [put_41] at hp3
    exact ⟨rfl, ⟨v3, by simpa [brI, List.append_assoc] using hp3⟩, hw.trans ((Wrote.of (grown_alloc wr (.cells #[.string ⟨#[41]⟩] 9) none)).trans hq)⟩
  rcases Nat.eq_zero_or_pos n with hz | hpos
  · subst hz
    have e0 : l = [] := List.eq_nil_of_length_eq_zero Hn.out
    subst e0
    clear hr hml
    go_wp2_with fail
    refine wp_loop_rounds 1 ?_
    rw [rounds_succ]
    have HF := FIN w1 (by simpa [joinI] using HP1.out) HW1.out
    clear FIN
    go_wp2_with fail
    refine HF.mono ?_
    rintro e w2 ⟨rfl, h1, h2⟩
    go_wp2_with fail
    exact bodyPost_end (results_none rfl _ _ _) rfl ⟨rfl, h1, h2⟩
  · obtain ⟨b, off, rfl⟩ := hr.addr (by rw [hml]; exact hpos)
    clear hr hml
    have HFN : Hid _ := FIN
    clear FIN
    go_wp2_with fail
    go_loopw [6, 7, 13] (fun _ _ i wr => ∃ j : Nat, j ≤ n ∧ i = .int .i64 j ∧ Hid (∃ v', Pg wr base g (L ++ [40, 32] ++ joinI [44, 32] ((l.map tx).take j)) v') ∧ Hid (Wrote base (some g) w wr)) (fun _ _ i _ => n - (intOf i).toNat)
    case atStart => exact ⟨0, Nat.zero_le _, rfl, HP1, HW1⟩
    case round =>
      obtain ⟨j, hj, rfl, hpj, hwj⟩ := hrel
      clear HP1 HW1
      by_cases hlt : j < n
      · obtain ⟨v1, hp⟩ := hpj.out
        have hw := hwj.out
        obtain ⟨x, hx⟩ : ∃ x, l[j]? = some x := ⟨l[j]'(by rw [Hn.out]; exact hlt), List.getElem?_eq_getElem _⟩
        have hxj : (exs l)[j]? = some x.fl := by rw [exs_map, List.getElem?_map, hx]; rfl
        obtain ⟨vs, hvs, hcl⟩ := (LRow.el HR.out hxj).vals
        have HX := HH.out x (List.mem_of_getElem? hx)
        have hbr := hw.below HB.out h0 hgk
        have htx : ((l.map tx)[j]?) = some (tx x) := by rw [List.getElem?_map, hx]; rfl
        have HJ : Hid (joinI [44, 32] ((l.map tx).take (j + 1)) = if j = 0 then tx x else joinI [44, 32] ((l.map tx).take j) ++ [44, 32] ++ tx x) := joinI_next htx
        have hlen : (joinI [44, 32] ((l.map tx).take (j + 1))).length ≤ (joinI [44, 32] (l.map tx)).length := joinI_take _ _ _ (by rw [List.length_map, Hn.out]; omega)
        have HC : ∀ wz Lz vz, Below w0.heap.size w0 wz → Pg wz base g Lz vz → Lz.length + (tx x).length ≤ 1000000000 → Calls Tryz.prog F #[.pointer (some ⟨g, 0, none⟩), agg vs] wz fun e w' => e = .returned (.tuple #[]) ∧ (∃ v', Pg w' base g (Lz ++ tx x) v') ∧ Wrote base (some g) wz w' := fun wz Lz vz h1 h2 h3 => HX w0 wz vs base g Lz vz HTt.out hvs h1 h0 hg h2 h3
        clear HX hx hxj htx
        generalize tx x = txx at *
        obtain ⟨x0, x1, x2, x3, x4⟩ := x
        unfold Ex.fl at hvs
        obtain ⟨y0, _, rfl, rfl, y1, _, rfl, rfl, y2, _, rfl, ⟨b2, d2, rfl, _⟩, y3, _, rfl, ⟨b3, d3, rfl, _⟩, y4, _, rfl, ⟨b4, d4, rfl, _⟩, rfl⟩ := hvs
        generalize (exs x4).length = m4 at *
        replace hcl : ∀ i v, _ → _ := fun i v hv => cell_on (hcl i v hv) hbr
        have q0 : wr.cell? ⟨b, off + j * 5, none⟩ = some (.int .i64 x0) := hcl 0 _ rfl
        have q1 : wr.cell? ⟨b, off + j * 5 + 1, none⟩ = some (.int .i64 x1) := hcl 1 _ rfl
        have q2 : wr.cell? ⟨b, off + j * 5 + 2, none⟩ = some (.slice b2 x2.length d2) := hcl 2 _ rfl
        have q3 : wr.cell? ⟨b, off + j * 5 + 3, none⟩ = some (.slice b3 x3.length d3) := hcl 3 _ rfl
        have q4 : wr.cell? ⟨b, off + j * 5 + 4, none⟩ = some (.slice b4 m4 d4) := hcl 4 _ rfl
        clear hcl
        have xb := Blk.new wr 122 [.int .i64 x0, .int .i64 x1, .slice b2 x2.length d2, .slice b3 x3.length d3, .slice b4 m4 d4]
        have hwa : Wrote base (some g) w (wr.alloc (.cells #[.int .i64 x0, .int .i64 x1, .slice b2 x2.length d2, .slice b3 x3.length d3, .slice b4 m4 d4] 122 (0, 0))) := hw.trans (Wrote.of (grown_alloc wr _ none))
        have hpa := hp.grown (grown_alloc wr (.cells #[.int .i64 x0, .int .i64 x1, .slice b2 x2.length d2, .slice b3 x3.length d3, .slice b4 m4 d4] 122 (0, 0)) none)
        have hgx : some wr.heap.size ≠ some g := by have := hp.blk.lt; simp; omega
        simp only [agg] at HC
        go_upto_region 4 with fail
        generalize wr.alloc (.cells #[.int .i64 x0, .int .i64 x1, .slice b2 x2.length d2, .slice b3 x3.length d3, .slice b4 m4 d4] 122 (0, 0)) = w2 at *
        generalize wr.heap.size = gx at *
        clear q0 q1 q2 q3 q4 hp hw hbr hpj hwj
        have hs2 : (joinI [44, 32] ((l.map tx).take j)).length + (if j = 0 then 0 else 2) + txx.length ≤ (joinI [44, 32] (l.map tx)).length := by
          rw [HJ.out] at hlen
          split at hlen
          · rename_i h9; subst h9; simp [joinI]; omega
          · rename_i h9; rw [if_neg h9]; simp only [List.length_append, List.length_cons, List.length_nil] at hlen; omega
        clear hlen
        by_cases hj0 : j = 0
        · subst hj0
          have hq1 : ((0 : Nat) : Int) = 0 := rfl
          have HQ := HC w2 _ _ (hwa.below HB.out h0 hgk) hpa (by simp only [List.length_append, List.length_cons, List.length_nil]; rw [if_pos rfl] at hs2; omega)
          clear HC
          have r0 := xb.cell (i := 0) rfl
          have r1 := xb.cell (i := 1) rfl
          have r2 := xb.cell (i := 2) rfl
          have r3 := xb.cell (i := 3) rfl
          have r4 := xb.cell (i := 4) rfl
          go_wp2_with fail
          rw [hE, Oper.upon_enter]
          refine HQ.mono ?_
          rintro e w3 ⟨rfl, ⟨v3, hp3⟩, hq⟩
          clear HQ r0 r1 r2 r3 r4
          have HP3 : Hid (∃ v', Pg w3 base g (L ++ [40, 32] ++ joinI [44, 32] ((l.map tx).take (0 + 1))) v') := ⟨v3, by rw [HJ.out]; simpa [joinI] using hp3⟩
          have HW3 : Hid (Wrote base (some g) w w3) := hwa.trans hq
          clear hp3 hq hwa hpa xb
          go_wp2_with fail
          go_roundw
          case rel => exact ⟨1, by omega, rfl, HP3, HW3⟩
          case measure => simp [intOf]; omega
        · have hpos' : (0 : Int) < (j : Int) := by omega
          rw [if_neg hj0] at hs2
          have HQ := putC [⟨#[44]⟩] w2.heap.size 1 1 (w2.alloc (.cells #[.string ⟨#[44]⟩] 9)) base g _ _ (hpa.grown (grown_alloc w2 _ none)) rfl (Blk.new w2 9 [.string ⟨#[44]⟩]) (by have := hpa.blk.lt; omega) (by rw [put_44]; simp only [List.length_append, List.length_cons, List.length_nil]; omega) hg
          rw [put_44] at HQ
          go_wp2_with fail
          refine HQ.mono ?_
          rintro e w3 ⟨rfl, ⟨v3, hp3⟩, hq⟩
          have hq3 : Wrote base (some g) w2 w3 := (Wrote.of (grown_alloc w2 (.cells #[.string ⟨#[44]⟩] 9) none)).trans hq
          replace xb := hq3.blk xb (by decide) hgx
          have hw3 := hwa.trans hq3
          clear HQ hq hq3 hwa hpa
          have HQ := HC w3 _ _ (hw3.below HB.out h0 hgk) hp3 (by simp only [List.length_append, List.length_cons, List.length_nil]; omega)
          clear HC
          have r0 := xb.cell (i := 0) rfl
          have r1 := xb.cell (i := 1) rfl
          have r2 := xb.cell (i := 2) rfl
          have r3 := xb.cell (i := 3) rfl
          have r4 := xb.cell (i := 4) rfl
          go_wp2_with fail
          rw [hE, Oper.upon_enter]
          refine HQ.mono ?_
          rintro e w4 ⟨rfl, ⟨v4, hp4⟩, hq⟩
          clear HQ r0 r1 r2 r3 r4
          have HP4 : Hid (∃ v', Pg w4 base g (L ++ [40, 32] ++ joinI [44, 32] ((l.map tx).take (j + 1))) v') := ⟨v4, by rw [HJ.out, if_neg hj0]; simpa [List.append_assoc] using hp4⟩
          have HW4 : Hid (Wrote base (some g) w w4) := hw3.trans hq
          clear hp4 hq hw3 hp3 xb
          go_wp2_with fail
          go_roundw
          case rel => exact ⟨j + 1, by omega, by go_num, HP4, HW4⟩
          case measure => simp [intOf]; omega
      · have : j = n := by omega
        subst this
        have HF := HFN.out wr (by have := hpj.out; rwa [List.take_of_length_le (by rw [List.length_map, Hn.out]; exact Nat.le_refl _)] at this) hwj.out
        go_wp2_with fail
        refine HF.mono ?_
        rintro e w2 ⟨rfl, h1, h2⟩
        go_wp2_with fail
        exact bodyPost_end (results_none rfl _ _ _) rfl ⟨rfl, h1, h2⟩

set_option maxHeartbeats 8000000 in
theorem bracketParam (F : Nat) (hE : Ent F) (tx : Pa → List Int) (l : List Pa) (H : ∀ x ∈ l, PrOf F x.fl (tx x)) (w0 w : World) (a : Option Addr) (c base g : Nat) (L : List Int) (v : Value) (hT : Tabs w0) (hr : LRow w0 a c 2 (l.map Pa.fl)) (hb : Below w0.heap.size w0 w) (h0 : w0.heap.size ≤ base) (hg : base ≤ g) (hp : Pg w base g L v) (hsz : L.length + (brI (l.map tx)).length ≤ 1000000000) :
    Calls Tryz.prog 127 #[.pointer (some ⟨g, 0, none⟩), .slice a l.length c, .func (.func F) #[.pointer (some ⟨g, 0, none⟩)] #[]] w fun e w' => e = .returned (.tuple #[]) ∧ (∃ v', Pg w' base g (L ++ brI (l.map tx)) v') ∧ Wrote base (some g) w w' := by
  have hgl := hp.blk.lt
  have hgk : ∀ k, some g = some k → w0.heap.size ≤ k := by intro k e; cases e; omega
  have hn9 : l.length ≤ 9223372036854775807 := by have h1 := hr.cap; have h2 := hr.most; unfold maxLen at h2; simp [exs_map] at h1; omega
  have hml : (l.map Pa.fl).length = l.length := by simp [exs_map]
  simp only [brI, List.length_append, List.length_cons, List.length_nil] at hsz
  have HQ := putC [⟨#[40]⟩] w.heap.size 1 1 (w.alloc (.cells #[.string ⟨#[40]⟩] 9)) base g _ _ (hp.grown (grown_alloc w _ none)) rfl (Blk.new w 9 [.string ⟨#[40]⟩]) (by omega) (by rw [put_40]; simp only [List.length_cons, List.length_nil]; omega) hg
  rw [put_40] at HQ
  have HH : Hid (∀ x ∈ l, PrOf F x.fl (tx x)) := H
  have HR : Hid (LRow w0 a c 2 (l.map Pa.fl)) := hr
  have HTt : Hid (Tabs w0) := hT
  have HB : Hid (Below w0.heap.size w0 w) := hb
  clear H hT hb
  go_enter Tryz.func127, Tryz.ntmps127
  go_wp2_with fail
  refine HQ.mono ?_
  rintro e w1 ⟨rfl, ⟨v1, hp1⟩, hq⟩
  have hw1 : Wrote base (some g) w w1 := (Wrote.of (grown_alloc w (.cells #[.string ⟨#[40]⟩] 9) none)).trans hq
  clear HQ hq hp
  generalize hnn : l.length = n at *
  have Hn : Hid (l.length = n) := hnn
  clear hnn
  have HP1 : Hid (∃ v', Pg w1 base g (L ++ [40, 32] ++ joinI [44, 32] ((l.map tx).take 0)) v') := ⟨v1, by simpa [joinI] using hp1⟩
  have HW1 : Hid (Wrote base (some g) w w1) := hw1
  clear hp1 hw1
  have FIN : ∀ wr, (∃ v', Pg wr base g (L ++ [40, 32] ++ joinI [44, 32] (l.map tx)) v') → Wrote base (some g) w wr → Calls Tryz.prog 92 #[.pointer (some ⟨g, 0, none⟩), .slice (some ⟨wr.heap.size, 0, none⟩) 1 1] (wr.alloc (.cells #[.string ⟨#[41]⟩] 9)) fun e w' => e = .returned (.tuple #[]) ∧ (∃ v', Pg w' base g (L ++ brI (l.map tx)) v') ∧ Wrote base (some g) w w' := by
    rintro wr ⟨v2, hp⟩ hw
    refine (putC [⟨#[41]⟩] wr.heap.size 1 1 (wr.alloc (.cells #[.string ⟨#[41]⟩] 9)) base g _ _ (hp.grown (grown_alloc wr _ none)) rfl (Blk.new wr 9 [.string ⟨#[41]⟩]) (by have := hp.blk.lt; omega) (by rw [put_41]; simp only [List.length_append, List.length_cons, List.length_nil]; omega) hg).mono ?_
    rintro e w' ⟨rfl, ⟨v3, hp3⟩, hq⟩
    rw [put_41] at hp3
    exact ⟨rfl, ⟨v3, by simpa [brI, List.append_assoc] using hp3⟩, hw.trans ((Wrote.of (grown_alloc wr (.cells #[.string ⟨#[41]⟩] 9) none)).trans hq)⟩
  rcases Nat.eq_zero_or_pos n with hz | hpos
  · subst hz
    have e0 : l = [] := List.eq_nil_of_length_eq_zero Hn.out
    subst e0
    clear hr hml
    go_wp2_with fail
    refine wp_loop_rounds 1 ?_
    rw [rounds_succ]
    have HF := FIN w1 (by simpa [joinI] using HP1.out) HW1.out
    clear FIN
    go_wp2_with fail
    refine HF.mono ?_
    rintro e w2 ⟨rfl, h1, h2⟩
    go_wp2_with fail
    exact bodyPost_end (results_none rfl _ _ _) rfl ⟨rfl, h1, h2⟩
  · obtain ⟨b, off, rfl⟩ := hr.addr (by rw [hml]; exact hpos)
    clear hr hml
    have HFN : Hid _ := FIN
    clear FIN
    go_wp2_with fail
    go_loopw [6, 7, 13] (fun _ _ i wr => ∃ j : Nat, j ≤ n ∧ i = .int .i64 j ∧ Hid (∃ v', Pg wr base g (L ++ [40, 32] ++ joinI [44, 32] ((l.map tx).take j)) v') ∧ Hid (Wrote base (some g) w wr)) (fun _ _ i _ => n - (intOf i).toNat)
    case atStart => exact ⟨0, Nat.zero_le _, rfl, HP1, HW1⟩
    case round =>
      obtain ⟨j, hj, rfl, hpj, hwj⟩ := hrel
      clear HP1 HW1
      by_cases hlt : j < n
      · obtain ⟨v1, hp⟩ := hpj.out
        have hw := hwj.out
        obtain ⟨x, hx⟩ : ∃ x, l[j]? = some x := ⟨l[j]'(by rw [Hn.out]; exact hlt), List.getElem?_eq_getElem _⟩
        have hxj : (l.map Pa.fl)[j]? = some x.fl := by rw [List.getElem?_map, hx]; rfl
        obtain ⟨vs, hvs, hcl⟩ := (LRow.el HR.out hxj).vals
        have HX := HH.out x (List.mem_of_getElem? hx)
        have hbr := hw.below HB.out h0 hgk
        have htx : ((l.map tx)[j]?) = some (tx x) := by rw [List.getElem?_map, hx]; rfl
        have HJ : Hid (joinI [44, 32] ((l.map tx).take (j + 1)) = if j = 0 then tx x else joinI [44, 32] ((l.map tx).take j) ++ [44, 32] ++ tx x) := joinI_next htx
        have hlen : (joinI [44, 32] ((l.map tx).take (j + 1))).length ≤ (joinI [44, 32] (l.map tx)).length := joinI_take _ _ _ (by rw [List.length_map, Hn.out]; omega)
        have HC : ∀ wz Lz vz, Below w0.heap.size w0 wz → Pg wz base g Lz vz → Lz.length + (tx x).length ≤ 1000000000 → Calls Tryz.prog F #[.pointer (some ⟨g, 0, none⟩), agg vs] wz fun e w' => e = .returned (.tuple #[]) ∧ (∃ v', Pg w' base g (Lz ++ tx x) v') ∧ Wrote base (some g) wz w' := fun wz Lz vz h1 h2 h3 => HX w0 wz vs base g Lz vz HTt.out hvs h1 h0 hg h2 h3
        clear HX hx hxj htx
        generalize tx x = txx at *
        obtain ⟨x0, x1⟩ := x
        obtain ⟨y0, _, rfl, ⟨b0, d0, rfl, _⟩, y1, _, rfl, rfl, rfl⟩ := hvs
        skip
        replace hcl : ∀ i v, _ → _ := fun i v hv => cell_on (hcl i v hv) hbr
        have q0 : wr.cell? ⟨b, off + j * 2, none⟩ = some (.slice b0 x0.length d0) := hcl 0 _ rfl
        have q1 : wr.cell? ⟨b, off + j * 2 + 1, none⟩ = some (.bool x1) := hcl 1 _ rfl
        clear hcl
        have xb := Blk.new wr 98 [.slice b0 x0.length d0, .bool x1]
        have hwa : Wrote base (some g) w (wr.alloc (.cells #[.slice b0 x0.length d0, .bool x1] 98 (0, 0))) := hw.trans (Wrote.of (grown_alloc wr _ none))
        have hpa := hp.grown (grown_alloc wr (.cells #[.slice b0 x0.length d0, .bool x1] 98 (0, 0)) none)
        have hgx : some wr.heap.size ≠ some g := by have := hp.blk.lt; simp; omega
        simp only [agg] at HC
        go_upto_region 4 with fail
        generalize wr.alloc (.cells #[.slice b0 x0.length d0, .bool x1] 98 (0, 0)) = w2 at *
        generalize wr.heap.size = gx at *
        clear q0 q1 hp hw hbr hpj hwj
        have hs2 : (joinI [44, 32] ((l.map tx).take j)).length + (if j = 0 then 0 else 2) + txx.length ≤ (joinI [44, 32] (l.map tx)).length := by
          rw [HJ.out] at hlen
          split at hlen
          · rename_i h9; subst h9; simp [joinI]; omega
          · rename_i h9; rw [if_neg h9]; simp only [List.length_append, List.length_cons, List.length_nil] at hlen; omega
        clear hlen
        by_cases hj0 : j = 0
        · subst hj0
          have hq1 : ((0 : Nat) : Int) = 0 := rfl
          have HQ := HC w2 _ _ (hwa.below HB.out h0 hgk) hpa (by simp only [List.length_append, List.length_cons, List.length_nil]; rw [if_pos rfl] at hs2; omega)
          clear HC
          have r0 := xb.cell (i := 0) rfl
          have r1 := xb.cell (i := 1) rfl
          go_wp2_with fail
          rw [hE, Oper.upon_enter]
          refine HQ.mono ?_
          rintro e w3 ⟨rfl, ⟨v3, hp3⟩, hq⟩
          clear HQ r0 r1
          have HP3 : Hid (∃ v', Pg w3 base g (L ++ [40, 32] ++ joinI [44, 32] ((l.map tx).take (0 + 1))) v') := ⟨v3, by rw [HJ.out]; simpa [joinI] using hp3⟩
          have HW3 : Hid (Wrote base (some g) w w3) := hwa.trans hq
          clear hp3 hq hwa hpa xb
          go_wp2_with fail
          go_roundw
          case rel => exact ⟨1, by omega, rfl, HP3, HW3⟩
          case measure => simp [intOf]; omega
        · have hpos' : (0 : Int) < (j : Int) := by omega
          rw [if_neg hj0] at hs2
          have HQ := putC [⟨#[44]⟩] w2.heap.size 1 1 (w2.alloc (.cells #[.string ⟨#[44]⟩] 9)) base g _ _ (hpa.grown (grown_alloc w2 _ none)) rfl (Blk.new w2 9 [.string ⟨#[44]⟩]) (by have := hpa.blk.lt; omega) (by rw [put_44]; simp only [List.length_append, List.length_cons, List.length_nil]; omega) hg
          rw [put_44] at HQ
          go_wp2_with fail
          refine HQ.mono ?_
          rintro e w3 ⟨rfl, ⟨v3, hp3⟩, hq⟩
          have hq3 : Wrote base (some g) w2 w3 := (Wrote.of (grown_alloc w2 (.cells #[.string ⟨#[44]⟩] 9) none)).trans hq
          replace xb := hq3.blk xb (by decide) hgx
          have hw3 := hwa.trans hq3
          clear HQ hq hq3 hwa hpa
          have HQ := HC w3 _ _ (hw3.below HB.out h0 hgk) hp3 (by simp only [List.length_append, List.length_cons, List.length_nil]; omega)
          clear HC
          have r0 := xb.cell (i := 0) rfl
          have r1 := xb.cell (i := 1) rfl
          go_wp2_with fail
          rw [hE, Oper.upon_enter]
          refine HQ.mono ?_
          rintro e w4 ⟨rfl, ⟨v4, hp4⟩, hq⟩
          clear HQ r0 r1
          have HP4 : Hid (∃ v', Pg w4 base g (L ++ [40, 32] ++ joinI [44, 32] ((l.map tx).take (j + 1))) v') := ⟨v4, by rw [HJ.out, if_neg hj0]; simpa [List.append_assoc] using hp4⟩
          have HW4 : Hid (Wrote base (some g) w w4) := hw3.trans hq
          clear hp4 hq hw3 hp3 xb
          go_wp2_with fail
          go_roundw
          case rel => exact ⟨j + 1, by omega, by go_num, HP4, HW4⟩
          case measure => simp [intOf]; omega
      · have : j = n := by omega
        subst this
        have HF := HFN.out wr (by have := hpj.out; rwa [List.take_of_length_le (by rw [List.length_map, Hn.out]; exact Nat.le_refl _)] at this) hwj.out
        go_wp2_with fail
        refine HF.mono ?_
        rintro e w2 ⟨rfl, h1, h2⟩
        go_wp2_with fail
        exact bodyPost_end (results_none rfl _ _ _) rfl ⟨rfl, h1, h2⟩

end Go.Proofs.YtajnfknldofjlaaGreatDoor

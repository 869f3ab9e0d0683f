import Derived.Test.YtajnfknldofjlaaGreatDoorPrSt
namespace Go.Proofs.YtajnfknldofjlaaGreatDoor
open Go.RowKit
set_option linter.unusedVariables false
set_option linter.unusedSimpArgs false
set_option maxRecDepth 100000

theorem prB_app (l m : List St) : prB (l ++ m) = prB l ++ prB m := by
  induction l with
  | nil => simp [prB]
  | cons x l ih => simp [prB, ih]
theorem prB_next {l : List St} {j : Nat} {x : St} (h : l[j]? = some x) : prB (l.take (j + 1)) = prB (l.take j) ++ prS x := by
  obtain ⟨hk, rfl⟩ := List.getElem?_eq_some_iff.1 h
  rw [List.take_succ_eq_append_getElem hk, prB_app]; simp [prB]
theorem prB_take (l : List St) (j : Nat) : (prB (l.take j)).length ≤ (prB l).length := by
  have := prB_app (l.take j) (l.drop j)
  rw [List.take_append_drop] at this
  rw [this, List.length_append]; omega

set_option maxHeartbeats 4000000 in
theorem prStsR (l : List St) (H : ∀ x ∈ l, PrSt x) : PrSts l := by
  intro w0 w a c base g L v hT hr hb h0 hg hp hok hsz
  have hgk : ∀ k, some g = some k → w0.heap.size ≤ k := by intro k e; cases e; omega
  have hml : (sts l).length = l.length := by simp [sts_map]
  have hn9 : l.length ≤ 9223372036854775807 := by have h1 := hr.cap; have h2 := hr.most; unfold maxLen at h2; omega
  have hokk : ∀ x ∈ l, okSt x = true := by rw [okSts_all, List.all_eq_true] at hok; exact hok
  have HH : Hid (∀ x ∈ l, PrSt x ∧ okSt x = true) := fun x hx => ⟨H x hx, hokk x hx⟩
  have HR : Hid (LRow w0 a c 6 (sts l)) := hr
  have HTt : Hid (Tabs w0) := hT
  have HB : Hid (Below w0.heap.size w0 w) := hb
  have HP1 : Hid (∃ v', Pg w base g (L ++ prB (l.take 0)) v') := ⟨v, by simpa [prB] using hp⟩
  clear H hT hb hok hokk hp
  generalize hnn : l.length = n at *
  have Hn : Hid (l.length = n) := hnn
  clear hnn
  rcases Nat.eq_zero_or_pos n with hz | hpos
  · subst hz
    have e0 : l = [] := List.eq_nil_of_length_eq_zero Hn.out
    subst e0
    clear hr hml
    go_enter Tryz.func129, Tryz.ntmps129
    go_wp2_with fail
    refine wp_loop_rounds 1 ?_
    rw [rounds_succ]
    go_wp2_with fail
    have h1 : ∃ v', Pg w base g (L ++ prB []) v' := by simpa using HP1.out
    exact bodyPost_end (results_none rfl _ _ _) rfl ⟨rfl, h1, Wrote.refl _ _ _⟩
  · obtain ⟨b, off, rfl⟩ := hr.addr (by rw [hml]; exact hpos)
    clear hr hml
    go_enter Tryz.func129, Tryz.ntmps129
    go_wp2_with fail
    go_loopw [5, 8] (fun _ i wr => ∃ j : Nat, j ≤ n ∧ i = .int .i64 j ∧ Hid (∃ v', Pg wr base g (L ++ prB (l.take j)) v') ∧ Hid (Wrote base (some g) w wr)) (fun _ i _ => n - (intOf i).toNat)
    case atStart => exact ⟨0, Nat.zero_le _, rfl, HP1, Wrote.refl _ _ _⟩
    case round =>
      obtain ⟨j, hj, rfl, hpj, hwj⟩ := hrel
      clear HP1
      by_cases hlt : j < n
      · obtain ⟨v1, hp⟩ := hpj.out
        have hw := hwj.out
        obtain ⟨x, hx⟩ : ∃ x, l[j]? = some x := ⟨l[j]'(by rw [Hn.out]; exact hlt), List.getElem?_eq_getElem _⟩
        have hxj : (sts l)[j]? = some x.fl := by rw [sts_map, List.getElem?_map, hx]; rfl
        obtain ⟨vs, hvs, hcl⟩ := (LRow.el HR.out hxj).vals
        obtain ⟨HX, hxo⟩ := HH.out x (List.mem_of_getElem? hx)
        have hbr := hw.below HB.out h0 hgk
        have HJ : Hid (prB (l.take (j + 1)) = prB (l.take j) ++ prS x) := prB_next hx
        have hlen : (prB (l.take j)).length + (prS x).length ≤ (prB l).length := by have h1 := prB_take l (j + 1); rw [prB_next hx, List.length_append] at h1; exact h1
        have HC : ∀ wz Lz vz, Below w0.heap.size w0 wz → Pg wz base g Lz vz → Lz.length + (prS x).length ≤ 1000000000 → Calls Tryz.prog 153 #[.pointer (some ⟨g, 0, none⟩), agg vs] wz fun e w' => e = .returned (.tuple #[]) ∧ (∃ v', Pg w' base g (Lz ++ prS x) v') ∧ Wrote base (some g) wz w' := fun wz Lz vz h1 h2 h3 => HX w0 wz vs base g Lz vz HTt.out hvs h1 h0 hg h2 hxo h3
        clear HX hxo hx hxj
        generalize prS x = txx at *
        obtain ⟨x0, x1, x2, x3, x4, x5⟩ := x
        unfold St.fl at hvs
        obtain ⟨y0, _, rfl, rfl, y1, _, rfl, rfl, y2, _, rfl, ⟨b2, d2, rfl, _⟩, y3, _, rfl, ⟨b3, d3, rfl, _⟩, y4, _, rfl, ⟨b4, d4, rfl, _⟩, y5, _, rfl, ⟨b5, d5, rfl, _⟩, rfl⟩ := hvs
        generalize (exs x3).length = m3 at *
        generalize (sts x4).length = m4 at *
        generalize (sts x5).length = m5 at *
        replace hcl : ∀ i v, _ → _ := fun i v hv => cell_on (hcl i v hv) hbr
        have q0 : wr.cell? ⟨b, off + j * 6, none⟩ = some (.int .i64 x0) := hcl 0 _ rfl
        have q1 : wr.cell? ⟨b, off + j * 6 + 1, none⟩ = some (.int .i64 x1) := hcl 1 _ rfl
        have q2 : wr.cell? ⟨b, off + j * 6 + 2, none⟩ = some (.slice b2 x2.length d2) := hcl 2 _ rfl
        have q3 : wr.cell? ⟨b, off + j * 6 + 3, none⟩ = some (.slice b3 m3 d3) := hcl 3 _ rfl
        have q4 : wr.cell? ⟨b, off + j * 6 + 4, none⟩ = some (.slice b4 m4 d4) := hcl 4 _ rfl
        have q5 : wr.cell? ⟨b, off + j * 6 + 5, none⟩ = some (.slice b5 m5 d5) := hcl 5 _ rfl
        clear hcl
        have xb := Blk.new wr 133 [.int .i64 x0, .int .i64 x1, .slice b2 x2.length d2, .slice b3 m3 d3, .slice b4 m4 d4, .slice b5 m5 d5]
        have hwa : Wrote base (some g) w (wr.alloc (.cells #[.int .i64 x0, .int .i64 x1, .slice b2 x2.length d2, .slice b3 m3 d3, .slice b4 m4 d4, .slice b5 m5 d5] 133 (0, 0))) := hw.trans (Wrote.of (grown_alloc wr _ none))
        have hpa := hp.grown (grown_alloc wr (.cells #[.int .i64 x0, .int .i64 x1, .slice b2 x2.length d2, .slice b3 m3 d3, .slice b4 m4 d4, .slice b5 m5 d5] 133 (0, 0)) none)
        simp only [agg] at HC
        go_upto_region 3 with fail
        generalize wr.alloc (.cells #[.int .i64 x0, .int .i64 x1, .slice b2 x2.length d2, .slice b3 m3 d3, .slice b4 m4 d4, .slice b5 m5 d5] 133 (0, 0)) = w2 at *
        generalize wr.heap.size = gx at *
        clear q0 q1 q2 q3 q4 q5 hp hw hbr hpj hwj
        have HQ := HC w2 _ _ (hwa.below HB.out h0 hgk) hpa (by simp only [List.length_append]; omega)
        clear HC
        have r0 := xb.cell (i := 0) rfl
        have r1 := xb.cell (i := 1) rfl
        have r2 := xb.cell (i := 2) rfl
        have r3 := xb.cell (i := 3) rfl
        have r4 := xb.cell (i := 4) rfl
        have r5 := xb.cell (i := 5) rfl
        go_wp2_with fail
        refine HQ.mono ?_
        rintro e w3 ⟨rfl, ⟨v3, hp3⟩, hq⟩
        clear HQ r0 r1 r2 r3 r4 r5
        have HP3 : Hid (∃ v', Pg w3 base g (L ++ prB (l.take (j + 1))) v') := ⟨v3, by rw [HJ.out]; simpa [List.append_assoc] using hp3⟩
        have HW3 : Hid (Wrote base (some g) w w3) := hwa.trans hq
        clear hp3 hq hwa hpa xb
        go_wp2_with fail
        go_roundw
        case rel => exact ⟨j + 1, by omega, by go_num, HP3, HW3⟩
        case measure => simp [intOf]; omega
      · have : j = n := by omega
        subst this
        have h1 : ∃ v', Pg wr base g (L ++ prB l) v' := by have := hpj.out; rwa [List.take_of_length_le (by rw [Hn.out]; exact Nat.le_refl _)] at this
        have h2 := hwj.out
        go_wp2_with fail
        exact bodyPost_end (results_none rfl _ _ _) rfl ⟨rfl, h1, h2⟩

theorem prSt_of {x : St} (h : okSt x = true → PrSt x) : PrSt x := by
  intro w0 w vs base g l v a1 a2 a3 a4 a5 a6 a7 a8
  exact h a7 w0 w vs base g l v a1 a2 a3 a4 a5 a6 a7 a8

mutual
theorem prSt : ∀ x : St, PrSt x
  | .mk k n a ks bs es => prSt_of fun hok => by
    have hB := prStsR bs (prSts bs)
    have hE := prStsR es (prSts es)
    have hS := prExs ks
    obtain ⟨hloc, _⟩ := okSt_parts hok
    obtain ⟨h1, h3, h4, _⟩ := sloc_len hloc
    have h8 : k = 0 ∨ k = 1 ∨ k = 2 ∨ k = 3 ∨ k = 4 ∨ k = 5 ∨ k = 6 ∨ k = 7 := by omega
    rcases h8 with rfl | rfl | rfl | rfl | rfl | rfl | rfl | rfl
    · simp [stLeast] at h1
      match ks, h1, hS with
      | [e0], _, hS => exact prSt0 n a e0 (hS e0 (by simp)) bs es hB hE
    · simp [stLeast] at h1
      match ks, h1, hS with
      | [e0, e1], _, hS => exact prSt1 n a e0 (hS e0 (by simp)) e1 (hS e1 (by simp)) bs es hB hE
    · simp [stLeast] at h1
      match ks, h1, hS with
      | [e0], _, hS => exact prSt2 n a e0 (hS e0 (by simp)) bs es hB hE
    · simp [stLeast] at h1
      match ks, h1, hS with
      | [e0], _, hS => exact prSt3 n a e0 (hS e0 (by simp)) bs es hB hE
    · simp [stLeast] at h1
      match ks, h1, hS with
      | [e0], _, hS => exact prSt4 n a e0 (hS e0 (by simp)) bs es hB hE
    · simp [stLeast] at h1
      match ks, h1, hS with
      | [e0], _, hS => exact prSt5 n a e0 (hS e0 (by simp)) bs es hB hE
    · simp [stLeast] at h1
      subst h1
      exact prSt6 n a bs es hB hE
    · simp [stLeast] at h1
      match ks, h1, hS with
      | [e0], _, hS => exact prSt7 n a e0 (hS e0 (by simp)) bs es hB hE
theorem prSts : ∀ (l : List St), ∀ x ∈ l, PrSt x
  | [], x, h => by simp at h
  | y :: l, x, h => by
    rcases List.mem_cons.1 h with h | h
    · rw [h]; exact prSt y
    · exact prSts l x h
end

theorem putAll_2 (a b : ByteArray) : putAll [a, b] = putAll [a] ++ putAll [b] := by simp [putAll]
theorem putAll_3 (a b c : ByteArray) : putAll [a, b, c] = putAll [a] ++ putAll [b] ++ putAll [c] := by simp [putAll]

set_option maxHeartbeats 2000000 in
theorem prPa_true (name : List Int) (hnm : nameOk name false = true) : PrOf 128 (Pa.fl ⟨name, true⟩) (prPa ⟨name, true⟩) := by
  intro w0 w vs base g l v hT hr hb h0 hg hp hsz
  obtain ⟨y0, _, rfl, ⟨a0, c0, rfl, h2, hc2, _⟩, y1, _, rfl, rfl, rfl⟩ := hr
  simp only [agg]
  have hgl := hp.blk.lt
  have hgx : some w.heap.size ≠ some g := by simp; omega
  have hgk : ∀ k, some g = some k → w0.heap.size ≤ k := by intro k e; cases e; omega
  have x0 := Blk.new w 98 [.slice a0 name.length c0, .bool true]
  have hw : Wrote base (some g) w (w.alloc (.cells #[.slice a0 name.length c0, .bool true] 98 (0, 0))) := Wrote.of (grown_alloc w _ none)
  replace hb : Below w0.heap.size w0 (w.alloc (.cells #[.slice a0 name.length c0, .bool true] 98 (0, 0))) := hb.alloc hb.size _
  replace hp := hp.grown (grown_alloc w (.cells #[.slice a0 name.length c0, .bool true] 98 (0, 0)) none)
  go_enter Tryz.func128, Tryz.ntmps128
  go_upto_region 1 with fail
  generalize w.alloc (.cells #[.slice a0 name.length c0, .bool true] 98 (0, 0)) = w1 at *
  generalize w.heap.size = gx at *
  clear hgl
  have he : prPa ⟨name, true⟩ = ([64, 32]) ++ (name ++ [32]) := by simp [prPa]
  rw [he] at hsz
  simp only [List.length_append, List.length_cons, List.length_nil] at hsz
  have HE : Hid (prPa ⟨name, true⟩ = ([64, 32]) ++ (name ++ [32])) := he
  clear he
  have hpn := put_one_name (g := false) h2.2.1 hnm
  simp only at h2 hc2 x0 hw hp hpn ⊢
  have q0 := x0.cell (i := 0) rfl
  have q1 := x0.cell (i := 1) rfl
  have hall : putAll [⟨#[64]⟩] = ([64, 32]) := by rw [put_64]
  have HQ := putC [⟨#[64]⟩] w1.heap.size 1 1 (w1.alloc (.cells #[.string ⟨#[64]⟩] 9)) base g _ _ (hp.grown (grown_alloc w1 _ none)) rfl (Blk.new w1 9 [.string ⟨#[64]⟩]) (by have := hp.blk.lt; omega) (by rw [hall]; first | (simp only [List.length_append, List.length_cons, List.length_nil]; omega) | omega) hg
  rw [hall] at HQ
  clear hall
  go_wp2_with fail
  refine HQ.mono ?_
  rintro e w2 ⟨rfl, ⟨v', hp'⟩, hq⟩
  clear q0 q1
  replace hq := (Wrote.of (grown_alloc w1 (.cells #[.string ⟨#[64]⟩] 9) none)).trans hq
  clear HQ hp
  have hp := hp'
  clear hp'
  replace x0 := hq.blk x0 (by decide) (by first | assumption | exact hgx)
  replace hb := hq.below hb h0 hgk
  replace hw := hw.trans hq
  clear hq
  have q0 := x0.cell (i := 0) rfl
  have q1 := x0.cell (i := 1) rfl
  have kc := conv_bytes c0 (h2.below hb)
  have hall : putAll [(strOfNums name)] = (name ++ [32]) := by rw [hpn]
  have HQ := putC [(strOfNums name)] w2.heap.size 1 1 (w2.alloc (.cells #[.string (strOfNums name)] 9)) base g _ _ (hp.grown (grown_alloc w2 _ none)) rfl (Blk.new w2 9 [.string (strOfNums name)]) (by have := hp.blk.lt; omega) (by rw [hall]; first | (simp only [List.length_append, List.length_cons, List.length_nil]; omega) | omega) hg
  rw [hall] at HQ
  clear hall
  go_wp2_with fail
  refine HQ.mono ?_
  rintro e w3 ⟨rfl, ⟨v', hp'⟩, hq⟩
  clear q0 q1
  replace hq := (Wrote.of (grown_alloc w2 (.cells #[.string (strOfNums name)] 9) none)).trans hq
  clear HQ hp
  have hp := hp'
  clear hp'
  replace x0 := hq.blk x0 (by decide) (by first | assumption | exact hgx)
  replace hb := hq.below hb h0 hgk
  replace hw := hw.trans hq
  clear hq
  have q0 := x0.cell (i := 0) rfl
  have q1 := x0.cell (i := 1) rfl
  go_wp2_with fail
  have hfin : ∃ v', Pg w3 base g (l ++ prPa ⟨name, true⟩) v' := ⟨_, by rw [HE.out]; simpa [List.append_assoc] using hp⟩
  exact bodyPost_end (results_none rfl _ _ _) rfl ⟨rfl, hfin, hw⟩

set_option maxHeartbeats 2000000 in
theorem prPa_false (name : List Int) (hnm : nameOk name false = true) : PrOf 128 (Pa.fl ⟨name, false⟩) (prPa ⟨name, false⟩) := by
  intro w0 w vs base g l v hT hr hb h0 hg hp hsz
  obtain ⟨y0, _, rfl, ⟨a0, c0, rfl, h2, hc2, _⟩, y1, _, rfl, rfl, rfl⟩ := hr
  simp only [agg]
  have hgl := hp.blk.lt
  have hgx : some w.heap.size ≠ some g := by simp; omega
  have hgk : ∀ k, some g = some k → w0.heap.size ≤ k := by intro k e; cases e; omega
  have x0 := Blk.new w 98 [.slice a0 name.length c0, .bool false]
  have hw : Wrote base (some g) w (w.alloc (.cells #[.slice a0 name.length c0, .bool false] 98 (0, 0))) := Wrote.of (grown_alloc w _ none)
  replace hb : Below w0.heap.size w0 (w.alloc (.cells #[.slice a0 name.length c0, .bool false] 98 (0, 0))) := hb.alloc hb.size _
  replace hp := hp.grown (grown_alloc w (.cells #[.slice a0 name.length c0, .bool false] 98 (0, 0)) none)
  go_enter Tryz.func128, Tryz.ntmps128
  go_upto_region 1 with fail
  generalize w.alloc (.cells #[.slice a0 name.length c0, .bool false] 98 (0, 0)) = w1 at *
  generalize w.heap.size = gx at *
  clear hgl
  have he : prPa ⟨name, false⟩ = (name ++ [32]) := by simp [prPa]
  rw [he] at hsz
  simp only [List.length_append, List.length_cons, List.length_nil] at hsz
  have HE : Hid (prPa ⟨name, false⟩ = (name ++ [32])) := he
  clear he
  have hpn := put_one_name (g := false) h2.2.1 hnm
  simp only at h2 hc2 x0 hw hp hpn ⊢
  have q0 := x0.cell (i := 0) rfl
  have q1 := x0.cell (i := 1) rfl
  have kc := conv_bytes c0 (h2.below hb)
  have hall : putAll [(strOfNums name)] = (name ++ [32]) := by rw [hpn]
  have HQ := putC [(strOfNums name)] w1.heap.size 1 1 (w1.alloc (.cells #[.string (strOfNums name)] 9)) base g _ _ (hp.grown (grown_alloc w1 _ none)) rfl (Blk.new w1 9 [.string (strOfNums name)]) (by have := hp.blk.lt; omega) (by rw [hall]; first | (simp only [List.length_append, List.length_cons, List.length_nil]; omega) | omega) hg
  rw [hall] at HQ
  clear hall
  go_wp2_with fail
  refine HQ.mono ?_
  rintro e w2 ⟨rfl, ⟨v', hp'⟩, hq⟩
  clear q0 q1
  replace hq := (Wrote.of (grown_alloc w1 (.cells #[.string (strOfNums name)] 9) none)).trans hq
  clear HQ hp
  have hp := hp'
  clear hp'
  replace x0 := hq.blk x0 (by decide) (by first | assumption | exact hgx)
  replace hb := hq.below hb h0 hgk
  replace hw := hw.trans hq
  clear hq
  have q0 := x0.cell (i := 0) rfl
  have q1 := x0.cell (i := 1) rfl
  go_wp2_with fail
  have hfin : ∃ v', Pg w2 base g (l ++ prPa ⟨name, false⟩) v' := ⟨_, by rw [HE.out]; simpa [List.append_assoc] using hp⟩
  exact bodyPost_end (results_none rfl _ _ _) rfl ⟨rfl, hfin, hw⟩

theorem prParam (a : Pa) (h : paOk a = true) : PrOf 128 a.fl (prPa a) := by
  obtain ⟨name, arr⟩ := a
  cases arr
  · exact prPa_false name h
  · exact prPa_true name h

set_option maxHeartbeats 2000000 in
theorem prVar_pos (name : List Int) (size : Int) (hnm : nameOk name false = true) (hs : 0 < size) (hs2 : size ≤ 20) : PrOf 93 (Va.fl ⟨name, size⟩) (prVar ⟨name, size⟩) := by
  intro w0 w vs base g l v hT hr hb h0 hg hp hsz
  obtain ⟨y0, _, rfl, ⟨a0, c0, rfl, h2, hc2, _⟩, y1, _, rfl, rfl, rfl⟩ := hr
  simp only [agg]
  have hgl := hp.blk.lt
  have hgx : some w.heap.size ≠ some g := by simp; omega
  have hgk : ∀ k, some g = some k → w0.heap.size ≤ k := by intro k e; cases e; omega
  have x0 := Blk.new w 59 [.slice a0 name.length c0, .int .i64 size]
  have hw : Wrote base (some g) w (w.alloc (.cells #[.slice a0 name.length c0, .int .i64 size] 59 (0, 0))) := Wrote.of (grown_alloc w _ none)
  replace hb : Below w0.heap.size w0 (w.alloc (.cells #[.slice a0 name.length c0, .int .i64 size] 59 (0, 0))) := hb.alloc hb.size _
  replace hp := hp.grown (grown_alloc w (.cells #[.slice a0 name.length c0, .int .i64 size] 59 (0, 0)) none)
  go_enter Tryz.func93, Tryz.ntmps93
  go_upto_region 1 with fail
  generalize w.alloc (.cells #[.slice a0 name.length c0, .int .i64 size] 59 (0, 0)) = w1 at *
  generalize w.heap.size = gx at *
  clear hgl
  have he : prVar ⟨name, size⟩ = ([86, 65, 82, 32]) ++ (name ++ [32]) ++ ([91, 32]) ++ (numI size ++ [32]) ++ ([93, 32]) ++ ([59, 10]) := by simp [prVar, hs]
  rw [he] at hsz
  simp only [List.length_append, List.length_cons, List.length_nil] at hsz
  have HE : Hid (prVar ⟨name, size⟩ = ([86, 65, 82, 32]) ++ (name ++ [32]) ++ ([91, 32]) ++ (numI size ++ [32]) ++ ([93, 32]) ++ ([59, 10])) := he
  clear he
  have hpn := put_one_name (g := false) h2.2.1 hnm
  simp only at h2 hc2 x0 hw hp hpn ⊢
  have q0 := x0.cell (i := 0) rfl
  have q1 := x0.cell (i := 1) rfl
  have kc := conv_bytes c0 (h2.below hb)
  have hall : putAll [⟨#[86, 65, 82]⟩, (strOfNums name)] = ([86, 65, 82, 32]) ++ (name ++ [32]) := by rw [putAll_2, put_86_65_82, hpn]
  have HQ := putC [⟨#[86, 65, 82]⟩, (strOfNums name)] w1.heap.size 2 2 (w1.alloc (.cells #[.string ⟨#[86, 65, 82]⟩, .string (strOfNums name)] 9)) base g _ _ (hp.grown (grown_alloc w1 _ none)) rfl (Blk.new w1 9 [.string ⟨#[86, 65, 82]⟩, .string (strOfNums name)]) (by have := hp.blk.lt; omega) (by rw [hall]; first | (simp only [List.length_append, List.length_cons, List.length_nil]; omega) | omega) hg
  rw [hall] at HQ
  clear hall
  go_wp2_with fail
  refine HQ.mono ?_
  rintro e w2 ⟨rfl, ⟨v', hp'⟩, hq⟩
  clear q0 q1
  replace hq := (Wrote.of (grown_alloc w1 (.cells #[.string ⟨#[86, 65, 82]⟩, .string (strOfNums name)] 9) none)).trans hq
  clear HQ hp
  have hp := hp'
  clear hp'
  replace x0 := hq.blk x0 (by decide) (by first | assumption | exact hgx)
  replace hb := hq.below hb h0 hgk
  replace hw := hw.trans hq
  clear hq
  have q0 := x0.cell (i := 0) rfl
  have q1 := x0.cell (i := 1) rfl
  clear kc
  have HQ := itoaC size (by omega) (by omega) w2 (hT.below hb)
  go_wp2_with fail
  refine HQ.mono ?_
  rintro e w3 ⟨rfl, hq⟩
  clear HQ
  clear q0 q1
  replace hp := hp.grown hq
  replace hq : Wrote base (some g) w2 w3 := Wrote.of hq
  replace x0 := hq.blk x0 (by decide) (by first | assumption | exact hgx)
  replace hb := hq.below hb h0 hgk
  replace hw := hw.trans hq
  clear hq
  have q0 := x0.cell (i := 0) rfl
  have q1 := x0.cell (i := 1) rfl
  have hall : putAll [⟨#[91]⟩, ⟨(Lib.itoa size).toArray⟩, ⟨#[93]⟩] = ([91, 32]) ++ (numI size ++ [32]) ++ ([93, 32]) := by rw [putAll_3, put_91, put_one_num, put_93]
  have HQ := putC [⟨#[91]⟩, ⟨(Lib.itoa size).toArray⟩, ⟨#[93]⟩] w3.heap.size 3 3 (w3.alloc (.cells #[.string ⟨#[91]⟩, .string ⟨(Lib.itoa size).toArray⟩, .string ⟨#[93]⟩] 9)) base g _ _ (hp.grown (grown_alloc w3 _ none)) rfl (Blk.new w3 9 [.string ⟨#[91]⟩, .string ⟨(Lib.itoa size).toArray⟩, .string ⟨#[93]⟩]) (by have := hp.blk.lt; omega) (by rw [hall]; first | (simp only [List.length_append, List.length_cons, List.length_nil]; omega) | omega) hg
  rw [hall] at HQ
  clear hall
  go_wp2_with fail
  refine HQ.mono ?_
  rintro e w4 ⟨rfl, ⟨v', hp'⟩, hq⟩
  clear q0 q1
  replace hq := (Wrote.of (grown_alloc w3 (.cells #[.string ⟨#[91]⟩, .string ⟨(Lib.itoa size).toArray⟩, .string ⟨#[93]⟩] 9) none)).trans hq
  clear HQ hp
  have hp := hp'
  clear hp'
  replace x0 := hq.blk x0 (by decide) (by first | assumption | exact hgx)
  replace hb := hq.below hb h0 hgk
  replace hw := hw.trans hq
  clear hq
  have q0 := x0.cell (i := 0) rfl
  have q1 := x0.cell (i := 1) rfl
  have hall : putAll [⟨#[59]⟩] = ([59, 10]) := by rw [put_59]
  have HQ := putC [⟨#[59]⟩] w4.heap.size 1 1 (w4.alloc (.cells #[.string ⟨#[59]⟩] 9)) base g _ _ (hp.grown (grown_alloc w4 _ none)) rfl (Blk.new w4 9 [.string ⟨#[59]⟩]) (by have := hp.blk.lt; omega) (by rw [hall]; first | (simp only [List.length_append, List.length_cons, List.length_nil]; omega) | omega) hg
  rw [hall] at HQ
  clear hall
  go_wp2_with fail
  refine HQ.mono ?_
  rintro e w5 ⟨rfl, ⟨v', hp'⟩, hq⟩
  clear q0 q1
  replace hq := (Wrote.of (grown_alloc w4 (.cells #[.string ⟨#[59]⟩] 9) none)).trans hq
  clear HQ hp
  have hp := hp'
  clear hp'
  replace x0 := hq.blk x0 (by decide) (by first | assumption | exact hgx)
  replace hb := hq.below hb h0 hgk
  replace hw := hw.trans hq
  clear hq
  have q0 := x0.cell (i := 0) rfl
  have q1 := x0.cell (i := 1) rfl
  go_wp2_with fail
  have hfin : ∃ v', Pg w5 base g (l ++ prVar ⟨name, size⟩) v' := ⟨_, by rw [HE.out]; simpa [List.append_assoc] using hp⟩
  exact bodyPost_end (results_none rfl _ _ _) rfl ⟨rfl, hfin, hw⟩

set_option maxHeartbeats 2000000 in
theorem prVar_no (name : List Int) (size : Int) (hnm : nameOk name false = true) (hs : ¬ 0 < size) (hs2 : size ≤ 20) : PrOf 93 (Va.fl ⟨name, size⟩) (prVar ⟨name, size⟩) := by
  intro w0 w vs base g l v hT hr hb h0 hg hp hsz
  obtain ⟨y0, _, rfl, ⟨a0, c0, rfl, h2, hc2, _⟩, y1, _, rfl, rfl, rfl⟩ := hr
  simp only [agg]
  have hgl := hp.blk.lt
  have hgx : some w.heap.size ≠ some g := by simp; omega
  have hgk : ∀ k, some g = some k → w0.heap.size ≤ k := by intro k e; cases e; omega
  have x0 := Blk.new w 59 [.slice a0 name.length c0, .int .i64 size]
  have hw : Wrote base (some g) w (w.alloc (.cells #[.slice a0 name.length c0, .int .i64 size] 59 (0, 0))) := Wrote.of (grown_alloc w _ none)
  replace hb : Below w0.heap.size w0 (w.alloc (.cells #[.slice a0 name.length c0, .int .i64 size] 59 (0, 0))) := hb.alloc hb.size _
  replace hp := hp.grown (grown_alloc w (.cells #[.slice a0 name.length c0, .int .i64 size] 59 (0, 0)) none)
  go_enter Tryz.func93, Tryz.ntmps93
  go_upto_region 1 with fail
  generalize w.alloc (.cells #[.slice a0 name.length c0, .int .i64 size] 59 (0, 0)) = w1 at *
  generalize w.heap.size = gx at *
  clear hgl
  have he : prVar ⟨name, size⟩ = ([86, 65, 82, 32]) ++ (name ++ [32]) ++ ([59, 10]) := by simp [prVar, hs]
  rw [he] at hsz
  simp only [List.length_append, List.length_cons, List.length_nil] at hsz
  have HE : Hid (prVar ⟨name, size⟩ = ([86, 65, 82, 32]) ++ (name ++ [32]) ++ ([59, 10])) := he
  clear he
  have hpn := put_one_name (g := false) h2.2.1 hnm
  simp only at h2 hc2 x0 hw hp hpn ⊢
  have q0 := x0.cell (i := 0) rfl
  have q1 := x0.cell (i := 1) rfl
  have kc := conv_bytes c0 (h2.below hb)
  have hall : putAll [⟨#[86, 65, 82]⟩, (strOfNums name)] = ([86, 65, 82, 32]) ++ (name ++ [32]) := by rw [putAll_2, put_86_65_82, hpn]
  have HQ := putC [⟨#[86, 65, 82]⟩, (strOfNums name)] w1.heap.size 2 2 (w1.alloc (.cells #[.string ⟨#[86, 65, 82]⟩, .string (strOfNums name)] 9)) base g _ _ (hp.grown (grown_alloc w1 _ none)) rfl (Blk.new w1 9 [.string ⟨#[86, 65, 82]⟩, .string (strOfNums name)]) (by have := hp.blk.lt; omega) (by rw [hall]; first | (simp only [List.length_append, List.length_cons, List.length_nil]; omega) | omega) hg
  rw [hall] at HQ
  clear hall
  go_wp2_with fail
  refine HQ.mono ?_
  rintro e w2 ⟨rfl, ⟨v', hp'⟩, hq⟩
  clear q0 q1
  replace hq := (Wrote.of (grown_alloc w1 (.cells #[.string ⟨#[86, 65, 82]⟩, .string (strOfNums name)] 9) none)).trans hq
  clear HQ hp
  have hp := hp'
  clear hp'
  replace x0 := hq.blk x0 (by decide) (by first | assumption | exact hgx)
  replace hb := hq.below hb h0 hgk
  replace hw := hw.trans hq
  clear hq
  have q0 := x0.cell (i := 0) rfl
  have q1 := x0.cell (i := 1) rfl
  clear kc
  have hall : putAll [⟨#[59]⟩] = ([59, 10]) := by rw [put_59]
  have HQ := putC [⟨#[59]⟩] w2.heap.size 1 1 (w2.alloc (.cells #[.string ⟨#[59]⟩] 9)) base g _ _ (hp.grown (grown_alloc w2 _ none)) rfl (Blk.new w2 9 [.string ⟨#[59]⟩]) (by have := hp.blk.lt; omega) (by rw [hall]; first | (simp only [List.length_append, List.length_cons, List.length_nil]; omega) | omega) hg
  rw [hall] at HQ
  clear hall
  go_wp2_with fail
  refine HQ.mono ?_
  rintro e w3 ⟨rfl, ⟨v', hp'⟩, hq⟩
  clear q0 q1
  replace hq := (Wrote.of (grown_alloc w2 (.cells #[.string ⟨#[59]⟩] 9) none)).trans hq
  clear HQ hp
  have hp := hp'
  clear hp'
  replace x0 := hq.blk x0 (by decide) (by first | assumption | exact hgx)
  replace hb := hq.below hb h0 hgk
  replace hw := hw.trans hq
  clear hq
  have q0 := x0.cell (i := 0) rfl
  have q1 := x0.cell (i := 1) rfl
  go_wp2_with fail
  have hfin : ∃ v', Pg w3 base g (l ++ prVar ⟨name, size⟩) v' := ⟨_, by rw [HE.out]; simpa [List.append_assoc] using hp⟩
  exact bodyPost_end (results_none rfl _ _ _) rfl ⟨rfl, hfin, hw⟩

theorem prVariable (a : Va) (h : vaOk a = true) : PrOf 93 a.fl (prVar a) := by
  obtain ⟨name, size⟩ := a
  simp only [vaOk, inB, Bool.and_eq_true, decide_eq_true_eq] at h
  by_cases hs : 0 < size
  · exact prVar_pos name size h.1 hs h.2.2
  · exact prVar_no name size h.1 hs h.2.2


theorem flat_next {α : Type} {f : α → List Int} {l : List α} {j : Nat} {x : α} (h : l[j]? = some x) : (l.take (j + 1)).flatMap f = (l.take j).flatMap f ++ f x := by
  obtain ⟨hk, rfl⟩ := List.getElem?_eq_some_iff.1 h
  rw [List.take_succ_eq_append_getElem hk, List.flatMap_append]; simp
theorem flat_take {α : Type} (f : α → List Int) (l : List α) (j : Nat) : ((l.take j).flatMap f).length ≤ (l.flatMap f).length := by
  conv => rhs; rw [← List.take_append_drop j l, List.flatMap_append, List.length_append]
  omega

set_option maxHeartbeats 4000000 in
theorem prProcR (name : List Int) (opn : Bool) (params : List Pa) (locals : List (List Int)) (body : List St) (hnm : nameOk name false = true) (hpok : ∀ x ∈ params, paOk x = true) (hlok : ∀ x ∈ locals, smallOk x = true) (hbok : okSts body = true) : PrOf 94 (Pr.fl ⟨name, opn, params, locals, body⟩) (prProc ⟨name, opn, params, locals, body⟩) := by
  intro w0 w vs base g l v hT hr hb h0 hg hp hsz
  obtain ⟨y0, _, rfl, ⟨a0, c0, rfl, h2, hc2, _⟩, y1, _, rfl, rfl, y2, _, rfl, hP', y3, _, rfl, hL', y4, _, rfl, hB', rfl⟩ := hr
  obtain ⟨a2, c2, rfl, hP⟩ := hP'.list
  obtain ⟨a3, c3, rfl, hL⟩ := hL'.list
  obtain ⟨a4, c4, rfl, hB⟩ := hB'.list
  clear hP' hL' hB'
  simp only at h2 hc2 hP hL hB ⊢
  have k2 : (params.map Pa.fl).length = params.length := by simp
  have k3 : (txts locals).length = locals.length := by simp [txts]
  have k4 : (sts body).length = body.length := by simp [sts_map]
  have n3 : locals.length ≤ 9223372036854775807 := by have h5 := hL.cap; have h6 := hL.most; unfold maxLen at h6; omega
  rw [k2, k3, k4]
  simp only [agg]
  have hgl := hp.blk.lt
  have hgx : some w.heap.size ≠ some g := by simp; omega
  have hgk : ∀ k, some g = some k → w0.heap.size ≤ k := by intro k e; cases e; omega
  have x0 := Blk.new w 64 [.slice a0 name.length c0, .bool opn, .slice a2 params.length c2, .slice a3 locals.length c3, .slice a4 body.length c4]
  have hw : Wrote base (some g) w (w.alloc (.cells #[.slice a0 name.length c0, .bool opn, .slice a2 params.length c2, .slice a3 locals.length c3, .slice a4 body.length c4] 64 (0, 0))) := Wrote.of (grown_alloc w _ none)
  replace hb : Below w0.heap.size w0 (w.alloc (.cells #[.slice a0 name.length c0, .bool opn, .slice a2 params.length c2, .slice a3 locals.length c3, .slice a4 body.length c4] 64 (0, 0))) := hb.alloc hb.size _
  replace hp := hp.grown (grown_alloc w (.cells #[.slice a0 name.length c0, .bool opn, .slice a2 params.length c2, .slice a3 locals.length c3, .slice a4 body.length c4] 64 (0, 0)) none)
  go_enter Tryz.func94, Tryz.ntmps94
  go_upto_region 1 with fail
  generalize w.alloc (.cells #[.slice a0 name.length c0, .bool opn, .slice a2 params.length c2, .slice a3 locals.length c3, .slice a4 body.length c4] 64 (0, 0)) = w1 at *
  generalize w.heap.size = gx at *
  clear hgl
  simp only [prProc, List.length_append, List.length_cons, List.length_nil] at hsz
  have hsz2 : l.length + (6 + name.length + (if opn then 2 else 0) + (brI (params.map prPa)).length + 2 + (locals.flatMap prLocal).length + 6 + (prB body).length + 6) ≤ 1000000000 := by
    simp only [brI, List.length_append, List.length_cons, List.length_nil]
    cases opn <;> simp at hsz ⊢ <;> omega
  clear hsz
  have hpn := put_one_name (g := false) h2.2.1 hnm
  obtain ⟨LO, hLO⟩ : ∃ x : List Int, x = (if opn then [42, 32] else []) := ⟨_, rfl⟩
  have hLOl : LO.length = if opn then 2 else 0 := by rw [hLO]; cases opn <;> rfl
  rw [← hLOl] at hsz2
  have q0 := x0.cell (i := 0) rfl
  have q1 := x0.cell (i := 1) rfl
  have q2 := x0.cell (i := 2) rfl
  have q3 := x0.cell (i := 3) rfl
  have q4 := x0.cell (i := 4) rfl
  have kc := conv_bytes c0 (h2.below hb)
  have hall : putAll [⟨#[80, 82, 79, 67]⟩, (strOfNums name)] = ([80, 82, 79, 67, 32]) ++ (name ++ [32]) := by rw [putAll_2, put_80_82_79_67, hpn]
  have HQ := putC [⟨#[80, 82, 79, 67]⟩, (strOfNums name)] w1.heap.size 2 2 (w1.alloc (.cells #[.string ⟨#[80, 82, 79, 67]⟩, .string (strOfNums name)] 9)) base g _ _ (hp.grown (grown_alloc w1 _ none)) rfl (Blk.new w1 9 [.string ⟨#[80, 82, 79, 67]⟩, .string (strOfNums name)]) (by have := hp.blk.lt; omega) (by rw [hall]; first | (simp only [List.length_append, List.length_cons, List.length_nil]; omega) | omega) hg
  rw [hall] at HQ
  clear hall
  go_wp2_with fail
  refine HQ.mono ?_
  rintro e w2 ⟨rfl, ⟨v', hp'⟩, hq⟩
  clear q0 q1 q2 q3 q4
  replace hq := (Wrote.of (grown_alloc w1 (.cells #[.string ⟨#[80, 82, 79, 67]⟩, .string (strOfNums name)] 9) none)).trans hq
  clear HQ hp
  have hp := hp'
  clear hp'
  replace x0 := hq.blk x0 (by decide) (by first | assumption | exact hgx)
  replace hb := hq.below hb h0 hgk
  replace hw := hw.trans hq
  clear hq
  have q0 := x0.cell (i := 0) rfl
  have q1 := x0.cell (i := 1) rfl
  have q2 := x0.cell (i := 2) rfl
  have q3 := x0.cell (i := 3) rfl
  have q4 := x0.cell (i := 4) rfl
  clear kc
  have HO : ∃ wO vO, True := ⟨w2, v, trivial⟩
  clear HO
  cases opn
  · subst hLO
    try simp only [if_true, if_false, Bool.false_eq_true, List.length_cons, List.length_nil] at hsz2
    have HQ := bracketParam 128 (ent_of Tryz.func128 rfl rfl) prPa params (fun x hx => prParam x (hpok x hx)) w0 w2 a2 c2 base g _ _ hT hP hb h0 hg hp (by simp only [List.length_append, List.length_cons, List.length_nil]; omega)
    go_wp2_with fail
    refine HQ.mono ?_
    rintro e w3 ⟨rfl, ⟨v', hp'⟩, hq⟩
    clear q0 q1 q2 q3 q4
    clear HQ hp
    have hp := hp'
    clear hp'
    replace x0 := hq.blk x0 (by decide) (by first | assumption | exact hgx)
    replace hb := hq.below hb h0 hgk
    replace hw := hw.trans hq
    clear hq
    have q0 := x0.cell (i := 0) rfl
    have q1 := x0.cell (i := 1) rfl
    have q2 := x0.cell (i := 2) rfl
    have q3 := x0.cell (i := 3) rfl
    have q4 := x0.cell (i := 4) rfl
    have hall : putAll [⟨#[59]⟩] = ([59, 10]) := by rw [put_59]
    have HQ := putC [⟨#[59]⟩] w3.heap.size 1 1 (w3.alloc (.cells #[.string ⟨#[59]⟩] 9)) base g _ _ (hp.grown (grown_alloc w3 _ none)) rfl (Blk.new w3 9 [.string ⟨#[59]⟩]) (by have := hp.blk.lt; omega) (by rw [hall]; first | (simp only [List.length_append, List.length_cons, List.length_nil]; omega) | omega) hg
    rw [hall] at HQ
    clear hall
    go_wp2_with fail
    refine HQ.mono ?_
    rintro e w4 ⟨rfl, ⟨v', hp'⟩, hq⟩
    clear q0 q1 q2 q3 q4
    replace hq := (Wrote.of (grown_alloc w3 (.cells #[.string ⟨#[59]⟩] 9) none)).trans hq
    clear HQ hp
    have hp := hp'
    clear hp'
    replace x0 := hq.blk x0 (by decide) (by first | assumption | exact hgx)
    replace hb := hq.below hb h0 hgk
    replace hw := hw.trans hq
    clear hq
    have q0 := x0.cell (i := 0) rfl
    have q1 := x0.cell (i := 1) rfl
    have q2 := x0.cell (i := 2) rfl
    have q3 := x0.cell (i := 3) rfl
    have q4 := x0.cell (i := 4) rfl
    have HXL : Hid (LRow w0 a3 c3 1 (txts locals)) := hL
    have HXN : Hid ((txts locals).length = locals.length) := k3
    have HOK : Hid (∀ x ∈ locals, nameOk x false = true) := hlok
    go_wp2_with fail
    clear q0 q1 q2 q3 q4
    obtain ⟨LA, hLA⟩ : ∃ z, z = l ++ (([80, 82, 79, 67, 32]) ++ (name ++ [32])) ++ brI (params.map prPa) ++ (([59, 10])) := ⟨_, rfl⟩
    rw [← hLA] at hp
    have hlA := congrArg List.length hLA
    simp only [List.length_append, List.length_cons, List.length_nil] at hlA
    have HSX : Hid (Wrote base (some g) w w4) := hw
    have HSB : Hid (Below w0.heap.size w0 w4) := hb
    have HSx : Hid _ := x0
    have HSp : Hid (∃ v', Pg w4 base g (LA ++ (locals.take 0).flatMap prLocal) v') := ⟨_, by simpa using hp⟩
    clear hp hw hb x0
    go_loopw [5, 29] (fun _ i wr => ∃ j : Nat, j ≤ locals.length ∧ i = .int .i64 j ∧ Hid (∃ v', Pg wr base g (LA ++ (locals.take j).flatMap prLocal) v') ∧ Hid (Wrote base (some g) w4 wr)) (fun _ i _ => locals.length - (intOf i).toNat)
    case atStart => exact ⟨0, Nat.zero_le _, rfl, HSp, Wrote.refl _ _ _⟩
    case round =>
      obtain ⟨j, hj, rfl, hpj, hwj⟩ := hrel
      clear HSp
      by_cases hlt : j < locals.length
      · obtain ⟨v1, hp⟩ := hpj.out
        have hw := hwj.out
        obtain ⟨x, hx⟩ : ∃ x, locals[j]? = some x := ⟨locals[j], List.getElem?_eq_getElem _⟩
        have hb := hw.below HSB.out h0 hgk
        have HJ : Hid ((locals.take (j + 1)).flatMap prLocal = (locals.take j).flatMap prLocal ++ prLocal x) := flat_next hx
        have hlen : ((locals.take j).flatMap prLocal).length + (prLocal x).length ≤ (locals.flatMap prLocal).length := by have h1 := flat_take prLocal locals (j + 1); rw [flat_next hx, List.length_append] at h1; exact h1
        obtain ⟨bx, offx, rfl⟩ := LRow.addr HXL.out (by rw [HXN.out]; omega)
        obtain ⟨vs, hvs, hcl⟩ := (LRow.el HXL.out (show _ = some [Fl.b x] by unfold txts; rw [List.getElem?_map, hx]; rfl)).vals
        obtain ⟨y0, us, rfl, ⟨ax, cx, rfl, hbx, _⟩, rfl⟩ := hvs
        have hxo := HOK.out x (List.mem_of_getElem? hx)
        have hpn := put_one_name (g := false) hbx.2.1 hxo
        have r0 := cell_on (hcl 0 _ rfl) hb
        simp only [Nat.add_zero, Nat.mul_one] at r0
        have kc := conv_bytes cx (hbx.below hb)
        clear hcl hx hpj hwj
        simp only [prLocal, List.length_append, List.length_cons, List.length_nil] at hlen
        have hall : putAll [⟨#[86, 65, 82]⟩, (strOfNums x), ⟨#[59]⟩] = prLocal x := by rw [putAll_3, put_86_65_82, hpn, put_59]; rfl
        have HQ := putC [⟨#[86, 65, 82]⟩, (strOfNums x), ⟨#[59]⟩] wr.heap.size 3 3 (wr.alloc (.cells #[.string ⟨#[86, 65, 82]⟩, .string (strOfNums x), .string ⟨#[59]⟩] 9)) base g _ _ (hp.grown (grown_alloc wr _ none)) rfl (Blk.new wr 9 [.string ⟨#[86, 65, 82]⟩, .string (strOfNums x), .string ⟨#[59]⟩]) (by have := hp.blk.lt; omega) (by rw [hall]; simp only [prLocal, List.length_append, List.length_cons, List.length_nil]; omega) hg
        rw [hall] at HQ
        clear hall
        go_wp2_with fail
        refine HQ.mono ?_
        rintro e wq ⟨rfl, ⟨v', hp'⟩, hq⟩
        have HP3 : Hid _ := hp'
        have HW3 : Hid (Wrote base (some g) w4 wq) := hw.trans ((Wrote.of (grown_alloc wr (.cells #[.string ⟨#[86, 65, 82]⟩, .string (strOfNums x), .string ⟨#[59]⟩] 9) none)).trans hq)
        clear HQ hp hp' hq hw hb r0 kc
        go_wp2_with fail
        go_roundw
        case rel => exact ⟨j + 1, by omega, by go_num, ⟨v', by rw [HJ.out, ← List.append_assoc]; exact HP3.out⟩, HW3⟩
        case measure => simp [intOf]; omega
      · have : j = locals.length := by omega
        subst this
        have hp : ∃ v', Pg wr base g (LA ++ locals.flatMap prLocal) v' := by have := hpj.out; rwa [List.take_of_length_le (Nat.le_refl _)] at this
        obtain ⟨v1, hp⟩ := hp
        have hw : Wrote base (some g) w wr := HSX.out.trans hwj.out
        have hb := hwj.out.below HSB.out h0 hgk
        have x0 := hwj.out.blk HSx.out (by decide) hgx
        clear hpj hwj HSX HSB HSx
        generalize wr = w5 at *
        have q0 := x0.cell (i := 0) rfl
        have q1 := x0.cell (i := 1) rfl
        have q2 := x0.cell (i := 2) rfl
        have q3 := x0.cell (i := 3) rfl
        have q4 := x0.cell (i := 4) rfl
        have hall : putAll [⟨#[66, 69, 71, 73, 78]⟩] = ([66, 69, 71, 73, 78, 10]) := by rw [put_66_69_71_73_78]
        have HQ := putC [⟨#[66, 69, 71, 73, 78]⟩] w5.heap.size 1 1 (w5.alloc (.cells #[.string ⟨#[66, 69, 71, 73, 78]⟩] 9)) base g _ _ (hp.grown (grown_alloc w5 _ none)) rfl (Blk.new w5 9 [.string ⟨#[66, 69, 71, 73, 78]⟩]) (by have := hp.blk.lt; omega) (by rw [hall]; first | (simp only [List.length_append, List.length_cons, List.length_nil]; omega) | omega) hg
        rw [hall] at HQ
        clear hall
        go_wp2_with fail
        refine HQ.mono ?_
        rintro e w6 ⟨rfl, ⟨v', hp'⟩, hq⟩
        clear q0 q1 q2 q3 q4
        replace hq := (Wrote.of (grown_alloc w5 (.cells #[.string ⟨#[66, 69, 71, 73, 78]⟩] 9) none)).trans hq
        clear HQ hp
        have hp := hp'
        clear hp'
        replace x0 := hq.blk x0 (by decide) (by first | assumption | exact hgx)
        replace hb := hq.below hb h0 hgk
        replace hw := hw.trans hq
        clear hq
        have q0 := x0.cell (i := 0) rfl
        have q1 := x0.cell (i := 1) rfl
        have q2 := x0.cell (i := 2) rfl
        have q3 := x0.cell (i := 3) rfl
        have q4 := x0.cell (i := 4) rfl
        have HQ := prStsR body (prSts body) w0 w6 a4 c4 base g _ _ hT hB hb h0 hg hp hbok (by simp only [List.length_append, List.length_cons, List.length_nil]; omega)
        go_wp2_with fail
        refine HQ.mono ?_
        rintro e w7 ⟨rfl, ⟨v', hp'⟩, hq⟩
        clear q0 q1 q2 q3 q4
        clear HQ hp
        have hp := hp'
        clear hp'
        replace x0 := hq.blk x0 (by decide) (by first | assumption | exact hgx)
        replace hb := hq.below hb h0 hgk
        replace hw := hw.trans hq
        clear hq
        have q0 := x0.cell (i := 0) rfl
        have q1 := x0.cell (i := 1) rfl
        have q2 := x0.cell (i := 2) rfl
        have q3 := x0.cell (i := 3) rfl
        have q4 := x0.cell (i := 4) rfl
        have hall : putAll [⟨#[69, 78, 68]⟩, ⟨#[59]⟩] = ([69, 78, 68, 32]) ++ ([59, 10]) := by rw [putAll_2, put_69_78_68, put_59]
        have HQ := putC [⟨#[69, 78, 68]⟩, ⟨#[59]⟩] w7.heap.size 2 2 (w7.alloc (.cells #[.string ⟨#[69, 78, 68]⟩, .string ⟨#[59]⟩] 9)) base g _ _ (hp.grown (grown_alloc w7 _ none)) rfl (Blk.new w7 9 [.string ⟨#[69, 78, 68]⟩, .string ⟨#[59]⟩]) (by have := hp.blk.lt; omega) (by rw [hall]; first | (simp only [List.length_append, List.length_cons, List.length_nil]; omega) | omega) hg
        rw [hall] at HQ
        clear hall
        go_wp2_with fail
        refine HQ.mono ?_
        rintro e w8 ⟨rfl, ⟨v', hp'⟩, hq⟩
        clear q0 q1 q2 q3 q4
        replace hq := (Wrote.of (grown_alloc w7 (.cells #[.string ⟨#[69, 78, 68]⟩, .string ⟨#[59]⟩] 9) none)).trans hq
        clear HQ hp
        have hp := hp'
        clear hp'
        replace x0 := hq.blk x0 (by decide) (by first | assumption | exact hgx)
        replace hb := hq.below hb h0 hgk
        replace hw := hw.trans hq
        clear hq
        have q0 := x0.cell (i := 0) rfl
        have q1 := x0.cell (i := 1) rfl
        have q2 := x0.cell (i := 2) rfl
        have q3 := x0.cell (i := 3) rfl
        have q4 := x0.cell (i := 4) rfl
        go_wp2_with fail
        have hfin : ∃ v', Pg w8 base g (l ++ prProc ⟨name, false, params, locals, body⟩) v' := ⟨_, by rw [hLA] at hp; simpa [prProc, brI, List.append_assoc] using hp⟩
        exact bodyPost_end (results_none rfl _ _ _) rfl ⟨rfl, hfin, hw⟩
  · subst hLO
    try simp only [if_true, if_false, Bool.false_eq_true, List.length_cons, List.length_nil] at hsz2
    have hall : putAll [⟨#[42]⟩] = ([42, 32]) := by rw [put_42]
    have HQ := putC [⟨#[42]⟩] w2.heap.size 1 1 (w2.alloc (.cells #[.string ⟨#[42]⟩] 9)) base g _ _ (hp.grown (grown_alloc w2 _ none)) rfl (Blk.new w2 9 [.string ⟨#[42]⟩]) (by have := hp.blk.lt; omega) (by rw [hall]; first | (simp only [List.length_append, List.length_cons, List.length_nil]; omega) | omega) hg
    rw [hall] at HQ
    clear hall
    go_wp2_with fail
    refine HQ.mono ?_
    rintro e w3 ⟨rfl, ⟨v', hp'⟩, hq⟩
    clear q0 q1 q2 q3 q4
    replace hq := (Wrote.of (grown_alloc w2 (.cells #[.string ⟨#[42]⟩] 9) none)).trans hq
    clear HQ hp
    have hp := hp'
    clear hp'
    replace x0 := hq.blk x0 (by decide) (by first | assumption | exact hgx)
    replace hb := hq.below hb h0 hgk
    replace hw := hw.trans hq
    clear hq
    have q0 := x0.cell (i := 0) rfl
    have q1 := x0.cell (i := 1) rfl
    have q2 := x0.cell (i := 2) rfl
    have q3 := x0.cell (i := 3) rfl
    have q4 := x0.cell (i := 4) rfl
    have HQ := bracketParam 128 (ent_of Tryz.func128 rfl rfl) prPa params (fun x hx => prParam x (hpok x hx)) w0 w3 a2 c2 base g _ _ hT hP hb h0 hg hp (by simp only [List.length_append, List.length_cons, List.length_nil]; omega)
    go_wp2_with fail
    refine HQ.mono ?_
    rintro e w4 ⟨rfl, ⟨v', hp'⟩, hq⟩
    clear q0 q1 q2 q3 q4
    clear HQ hp
    have hp := hp'
    clear hp'
    replace x0 := hq.blk x0 (by decide) (by first | assumption | exact hgx)
    replace hb := hq.below hb h0 hgk
    replace hw := hw.trans hq
    clear hq
    have q0 := x0.cell (i := 0) rfl
    have q1 := x0.cell (i := 1) rfl
    have q2 := x0.cell (i := 2) rfl
    have q3 := x0.cell (i := 3) rfl
    have q4 := x0.cell (i := 4) rfl
    have hall : putAll [⟨#[59]⟩] = ([59, 10]) := by rw [put_59]
    have HQ := putC [⟨#[59]⟩] w4.heap.size 1 1 (w4.alloc (.cells #[.string ⟨#[59]⟩] 9)) base g _ _ (hp.grown (grown_alloc w4 _ none)) rfl (Blk.new w4 9 [.string ⟨#[59]⟩]) (by have := hp.blk.lt; omega) (by rw [hall]; first | (simp only [List.length_append, List.length_cons, List.length_nil]; omega) | omega) hg
    rw [hall] at HQ
    clear hall
    go_wp2_with fail
    refine HQ.mono ?_
    rintro e w5 ⟨rfl, ⟨v', hp'⟩, hq⟩
    clear q0 q1 q2 q3 q4
    replace hq := (Wrote.of (grown_alloc w4 (.cells #[.string ⟨#[59]⟩] 9) none)).trans hq
    clear HQ hp
    have hp := hp'
    clear hp'
    replace x0 := hq.blk x0 (by decide) (by first | assumption | exact hgx)
    replace hb := hq.below hb h0 hgk
    replace hw := hw.trans hq
    clear hq
    have q0 := x0.cell (i := 0) rfl
    have q1 := x0.cell (i := 1) rfl
    have q2 := x0.cell (i := 2) rfl
    have q3 := x0.cell (i := 3) rfl
    have q4 := x0.cell (i := 4) rfl
    have HXL : Hid (LRow w0 a3 c3 1 (txts locals)) := hL
    have HXN : Hid ((txts locals).length = locals.length) := k3
    have HOK : Hid (∀ x ∈ locals, nameOk x false = true) := hlok
    go_wp2_with fail
    clear q0 q1 q2 q3 q4
    obtain ⟨LA, hLA⟩ : ∃ z, z = l ++ (([80, 82, 79, 67, 32]) ++ (name ++ [32])) ++ (([42, 32])) ++ brI (params.map prPa) ++ (([59, 10])) := ⟨_, rfl⟩
    rw [← hLA] at hp
    have hlA := congrArg List.length hLA
    simp only [List.length_append, List.length_cons, List.length_nil] at hlA
    have HSX : Hid (Wrote base (some g) w w5) := hw
    have HSB : Hid (Below w0.heap.size w0 w5) := hb
    have HSx : Hid _ := x0
    have HSp : Hid (∃ v', Pg w5 base g (LA ++ (locals.take 0).flatMap prLocal) v') := ⟨_, by simpa using hp⟩
    clear hp hw hb x0
    go_loopw [5, 29] (fun _ i wr => ∃ j : Nat, j ≤ locals.length ∧ i = .int .i64 j ∧ Hid (∃ v', Pg wr base g (LA ++ (locals.take j).flatMap prLocal) v') ∧ Hid (Wrote base (some g) w5 wr)) (fun _ i _ => locals.length - (intOf i).toNat)
    case atStart => exact ⟨0, Nat.zero_le _, rfl, HSp, Wrote.refl _ _ _⟩
    case round =>
      obtain ⟨j, hj, rfl, hpj, hwj⟩ := hrel
      clear HSp
      by_cases hlt : j < locals.length
      · obtain ⟨v1, hp⟩ := hpj.out
        have hw := hwj.out
        obtain ⟨x, hx⟩ : ∃ x, locals[j]? = some x := ⟨locals[j], List.getElem?_eq_getElem _⟩
        have hb := hw.below HSB.out h0 hgk
        have HJ : Hid ((locals.take (j + 1)).flatMap prLocal = (locals.take j).flatMap prLocal ++ prLocal x) := flat_next hx
        have hlen : ((locals.take j).flatMap prLocal).length + (prLocal x).length ≤ (locals.flatMap prLocal).length := by have h1 := flat_take prLocal locals (j + 1); rw [flat_next hx, List.length_append] at h1; exact h1
        obtain ⟨bx, offx, rfl⟩ := LRow.addr HXL.out (by rw [HXN.out]; omega)
        obtain ⟨vs, hvs, hcl⟩ := (LRow.el HXL.out (show _ = some [Fl.b x] by unfold txts; rw [List.getElem?_map, hx]; rfl)).vals
        obtain ⟨y0, us, rfl, ⟨ax, cx, rfl, hbx, _⟩, rfl⟩ := hvs
        have hxo := HOK.out x (List.mem_of_getElem? hx)
        have hpn := put_one_name (g := false) hbx.2.1 hxo
        have r0 := cell_on (hcl 0 _ rfl) hb
        simp only [Nat.add_zero, Nat.mul_one] at r0
        have kc := conv_bytes cx (hbx.below hb)
        clear hcl hx hpj hwj
        simp only [prLocal, List.length_append, List.length_cons, List.length_nil] at hlen
        have hall : putAll [⟨#[86, 65, 82]⟩, (strOfNums x), ⟨#[59]⟩] = prLocal x := by rw [putAll_3, put_86_65_82, hpn, put_59]; rfl
        have HQ := putC [⟨#[86, 65, 82]⟩, (strOfNums x), ⟨#[59]⟩] wr.heap.size 3 3 (wr.alloc (.cells #[.string ⟨#[86, 65, 82]⟩, .string (strOfNums x), .string ⟨#[59]⟩] 9)) base g _ _ (hp.grown (grown_alloc wr _ none)) rfl (Blk.new wr 9 [.string ⟨#[86, 65, 82]⟩, .string (strOfNums x), .string ⟨#[59]⟩]) (by have := hp.blk.lt; omega) (by rw [hall]; simp only [prLocal, List.length_append, List.length_cons, List.length_nil]; omega) hg
        rw [hall] at HQ
        clear hall
        go_wp2_with fail
        refine HQ.mono ?_
        rintro e wq ⟨rfl, ⟨v', hp'⟩, hq⟩
        have HP3 : Hid _ := hp'
        have HW3 : Hid (Wrote base (some g) w5 wq) := hw.trans ((Wrote.of (grown_alloc wr (.cells #[.string ⟨#[86, 65, 82]⟩, .string (strOfNums x), .string ⟨#[59]⟩] 9) none)).trans hq)
        clear HQ hp hp' hq hw hb r0 kc
        go_wp2_with fail
        go_roundw
        case rel => exact ⟨j + 1, by omega, by go_num, ⟨v', by rw [HJ.out, ← List.append_assoc]; exact HP3.out⟩, HW3⟩
        case measure => simp [intOf]; omega
      · have : j = locals.length := by omega
        subst this
        have hp : ∃ v', Pg wr base g (LA ++ locals.flatMap prLocal) v' := by have := hpj.out; rwa [List.take_of_length_le (Nat.le_refl _)] at this
        obtain ⟨v1, hp⟩ := hp
        have hw : Wrote base (some g) w wr := HSX.out.trans hwj.out
        have hb := hwj.out.below HSB.out h0 hgk
        have x0 := hwj.out.blk HSx.out (by decide) hgx
        clear hpj hwj HSX HSB HSx
        generalize wr = w6 at *
        have q0 := x0.cell (i := 0) rfl
        have q1 := x0.cell (i := 1) rfl
        have q2 := x0.cell (i := 2) rfl
        have q3 := x0.cell (i := 3) rfl
        have q4 := x0.cell (i := 4) rfl
        have hall : putAll [⟨#[66, 69, 71, 73, 78]⟩] = ([66, 69, 71, 73, 78, 10]) := by rw [put_66_69_71_73_78]
        have HQ := putC [⟨#[66, 69, 71, 73, 78]⟩] w6.heap.size 1 1 (w6.alloc (.cells #[.string ⟨#[66, 69, 71, 73, 78]⟩] 9)) base g _ _ (hp.grown (grown_alloc w6 _ none)) rfl (Blk.new w6 9 [.string ⟨#[66, 69, 71, 73, 78]⟩]) (by have := hp.blk.lt; omega) (by rw [hall]; first | (simp only [List.length_append, List.length_cons, List.length_nil]; omega) | omega) hg
        rw [hall] at HQ
        clear hall
        go_wp2_with fail
        refine HQ.mono ?_
        rintro e w7 ⟨rfl, ⟨v', hp'⟩, hq⟩
        clear q0 q1 q2 q3 q4
        replace hq := (Wrote.of (grown_alloc w6 (.cells #[.string ⟨#[66, 69, 71, 73, 78]⟩] 9) none)).trans hq
        clear HQ hp
        have hp := hp'
        clear hp'
        replace x0 := hq.blk x0 (by decide) (by first | assumption | exact hgx)
        replace hb := hq.below hb h0 hgk
        replace hw := hw.trans hq
        clear hq
        have q0 := x0.cell (i := 0) rfl
        have q1 := x0.cell (i := 1) rfl
        have q2 := x0.cell (i := 2) rfl
        have q3 := x0.cell (i := 3) rfl
        have q4 := x0.cell (i := 4) rfl
        have HQ := prStsR body (prSts body) w0 w7 a4 c4 base g _ _ hT hB hb h0 hg hp hbok (by simp only [List.length_append, List.length_cons, List.length_nil]; omega)
        go_wp2_with fail
        refine HQ.mono ?_
        rintro e w8 ⟨rfl, ⟨v', hp'⟩, hq⟩
        clear q0 q1 q2 q3 q4
        clear HQ hp
        have hp := hp'
        clear hp'
        replace x0 := hq.blk x0 (by decide) (by first | assumption | exact hgx)
        replace hb := hq.below hb h0 hgk
        replace hw := hw.trans hq
        clear hq
        have q0 := x0.cell (i := 0) rfl
        have q1 := x0.cell (i := 1) rfl
        have q2 := x0.cell (i := 2) rfl
        have q3 := x0.cell (i := 3) rfl
        have q4 := x0.cell (i := 4) rfl
        have hall : putAll [⟨#[69, 78, 68]⟩, ⟨#[59]⟩] = ([69, 78, 68, 32]) ++ ([59, 10]) := by rw [putAll_2, put_69_78_68, put_59]
        have HQ := putC [⟨#[69, 78, 68]⟩, ⟨#[59]⟩] w8.heap.size 2 2 (w8.alloc (.cells #[.string ⟨#[69, 78, 68]⟩, .string ⟨#[59]⟩] 9)) base g _ _ (hp.grown (grown_alloc w8 _ none)) rfl (Blk.new w8 9 [.string ⟨#[69, 78, 68]⟩, .string ⟨#[59]⟩]) (by have := hp.blk.lt; omega) (by rw [hall]; first | (simp only [List.length_append, List.length_cons, List.length_nil]; omega) | omega) hg
        rw [hall] at HQ
        clear hall
        go_wp2_with fail
        refine HQ.mono ?_
        rintro e w9 ⟨rfl, ⟨v', hp'⟩, hq⟩
        clear q0 q1 q2 q3 q4
        replace hq := (Wrote.of (grown_alloc w8 (.cells #[.string ⟨#[69, 78, 68]⟩, .string ⟨#[59]⟩] 9) none)).trans hq
        clear HQ hp
        have hp := hp'
        clear hp'
        replace x0 := hq.blk x0 (by decide) (by first | assumption | exact hgx)
        replace hb := hq.below hb h0 hgk
        replace hw := hw.trans hq
        clear hq
        have q0 := x0.cell (i := 0) rfl
        have q1 := x0.cell (i := 1) rfl
        have q2 := x0.cell (i := 2) rfl
        have q3 := x0.cell (i := 3) rfl
        have q4 := x0.cell (i := 4) rfl
        go_wp2_with fail
        have hfin : ∃ v', Pg w9 base g (l ++ prProc ⟨name, true, params, locals, body⟩) v' := ⟨_, by rw [hLA] at hp; simpa [prProc, brI, List.append_assoc] using hp⟩
        exact bodyPost_end (results_none rfl _ _ _) rfl ⟨rfl, hfin, hw⟩


theorem prProcedure (q : Pr) (h : hdOk q = true ∧ okSts q.body = true) : PrOf 94 q.fl (prProc q) := by
  obtain ⟨name, opn, params, locals, body⟩ := q
  obtain ⟨h1, h2⟩ := h
  simp only [hdOk, Bool.and_eq_true, List.all_eq_true] at h1
  exact prProcR name opn params locals body h1.1.1.1.1 h1.1.1.2 h1.2 h2

set_option maxHeartbeats 8000000 in
theorem prMoR (name : List Int) (uses : List (List Int)) (vars : List Va) (procs : List Pr) (hnm : nameOk name true = true) (huok : ∀ x ∈ uses, greatOk x = true) (hvok : ∀ x ∈ vars, vaOk x = true) (hpok : ∀ x ∈ procs, hdOk x = true ∧ okSts x.body = true) : PrOf 55 (Mo.fl ⟨name, uses, vars, procs⟩) (prM ⟨name, uses, vars, procs⟩) := by
  intro w0 w vs base g l v hT hr hb h0 hg hp hsz
  obtain ⟨y0, _, rfl, ⟨a0, c0, rfl, h2, hc2, _⟩, y1, _, rfl, hU', y2, _, rfl, hV', y3, _, rfl, hP', rfl⟩ := hr
  obtain ⟨a1, c1, rfl, hU⟩ := hU'.list
  obtain ⟨a2, c2, rfl, hV⟩ := hV'.list
  obtain ⟨a3, c3, rfl, hP⟩ := hP'.list
  clear hU' hV' hP'
  simp only at h2 hc2 hU hV hP ⊢
  have k1 : (txts uses).length = uses.length := by simp [txts]
  have k2 : (vars.map Va.fl).length = vars.length := by simp
  have k3 : (procs.map Pr.fl).length = procs.length := by simp
  have n1 : uses.length ≤ 9223372036854775807 := by have h5 := hU.cap; have h6 := hU.most; unfold maxLen at h6; omega
  have n2 : vars.length ≤ 9223372036854775807 := by have h5 := hV.cap; have h6 := hV.most; unfold maxLen at h6; omega
  have n3 : procs.length ≤ 9223372036854775807 := by have h5 := hP.cap; have h6 := hP.most; unfold maxLen at h6; omega
  rw [k1, k2, k3]
  simp only [agg]
  have hgl := hp.blk.lt
  have hgx : some w.heap.size ≠ some g := by simp; omega
  have hgk : ∀ k, some g = some k → w0.heap.size ≤ k := by intro k e; cases e; omega
  have x0 := Blk.new w 29 [.slice a0 name.length c0, .slice a1 uses.length c1, .slice a2 vars.length c2, .slice a3 procs.length c3]
  have hw : Wrote base (some g) w (w.alloc (.cells #[.slice a0 name.length c0, .slice a1 uses.length c1, .slice a2 vars.length c2, .slice a3 procs.length c3] 29 (0, 0))) := Wrote.of (grown_alloc w _ none)
  replace hb : Below w0.heap.size w0 (w.alloc (.cells #[.slice a0 name.length c0, .slice a1 uses.length c1, .slice a2 vars.length c2, .slice a3 procs.length c3] 29 (0, 0))) := hb.alloc hb.size _
  replace hp := hp.grown (grown_alloc w (.cells #[.slice a0 name.length c0, .slice a1 uses.length c1, .slice a2 vars.length c2, .slice a3 procs.length c3] 29 (0, 0)) none)
  go_enter Tryz.func55, Tryz.ntmps55
  go_upto_region 1 with fail
  generalize w.alloc (.cells #[.slice a0 name.length c0, .slice a1 uses.length c1, .slice a2 vars.length c2, .slice a3 procs.length c3] 29 (0, 0)) = w1 at *
  generalize w.heap.size = gx at *
  clear hgl
  simp only [prM, List.length_append, List.length_cons, List.length_nil] at hsz
  have hpn := put_one_name (g := true) h2.2.1 hnm
  have q0 := x0.cell (i := 0) rfl
  have q1 := x0.cell (i := 1) rfl
  have q2 := x0.cell (i := 2) rfl
  have q3 := x0.cell (i := 3) rfl
  have kc := conv_bytes c0 (h2.below hb)
  have hall : putAll [⟨#[77, 79, 68, 85, 76, 69]⟩, (strOfNums name), ⟨#[59]⟩] = ([77, 79, 68, 85, 76, 69, 32]) ++ (name ++ [32]) ++ ([59, 10]) := by rw [putAll_3, put_77_79_68_85_76_69, hpn, put_59]
  have HQ := putC [⟨#[77, 79, 68, 85, 76, 69]⟩, (strOfNums name), ⟨#[59]⟩] w1.heap.size 3 3 (w1.alloc (.cells #[.string ⟨#[77, 79, 68, 85, 76, 69]⟩, .string (strOfNums name), .string ⟨#[59]⟩] 9)) base g _ _ (hp.grown (grown_alloc w1 _ none)) rfl (Blk.new w1 9 [.string ⟨#[77, 79, 68, 85, 76, 69]⟩, .string (strOfNums name), .string ⟨#[59]⟩]) (by have := hp.blk.lt; omega) (by rw [hall]; first | (simp only [List.length_append, List.length_cons, List.length_nil]; omega) | omega) hg
  rw [hall] at HQ
  clear hall
  go_wp2_with fail
  refine HQ.mono ?_
  rintro e w2 ⟨rfl, ⟨v', hp'⟩, hq⟩
  clear q0 q1 q2 q3
  replace hq := (Wrote.of (grown_alloc w1 (.cells #[.string ⟨#[77, 79, 68, 85, 76, 69]⟩, .string (strOfNums name), .string ⟨#[59]⟩] 9) none)).trans hq
  clear HQ hp
  have hp := hp'
  clear hp'
  replace x0 := hq.blk x0 (by decide) (by first | assumption | exact hgx)
  replace hb := hq.below hb h0 hgk
  replace hw := hw.trans hq
  clear hq
  have q0 := x0.cell (i := 0) rfl
  have q1 := x0.cell (i := 1) rfl
  have q2 := x0.cell (i := 2) rfl
  have q3 := x0.cell (i := 3) rfl
  clear kc
  have HXL : Hid (LRow w0 a1 c1 1 (txts uses)) := hU
  have HXN : Hid ((txts uses).length = uses.length) := k1
  have HOK : Hid (∀ x ∈ uses, nameOk x true = true) := huok
  go_wp2_with fail
  clear q0 q1 q2 q3
  obtain ⟨LA, hLA⟩ : ∃ z, z = l ++ (([77, 79, 68, 85, 76, 69, 32]) ++ (name ++ [32]) ++ ([59, 10])) := ⟨_, rfl⟩
  rw [← hLA] at hp
  have hlA := congrArg List.length hLA
  simp only [List.length_append, List.length_cons, List.length_nil] at hlA
  have HSX : Hid (Wrote base (some g) w w2) := hw
  have HSB : Hid (Below w0.heap.size w0 w2) := hb
  have HSx : Hid _ := x0
  have HSp : Hid (∃ v', Pg w2 base g (LA ++ (uses.take 0).flatMap prUse) v') := ⟨_, by simpa using hp⟩
  clear hp hw hb x0
  go_loopw [5, 19] (fun _ i wr => ∃ j : Nat, j ≤ uses.length ∧ i = .int .i64 j ∧ Hid (∃ v', Pg wr base g (LA ++ (uses.take j).flatMap prUse) v') ∧ Hid (Wrote base (some g) w2 wr)) (fun _ i _ => uses.length - (intOf i).toNat)
  case atStart => exact ⟨0, Nat.zero_le _, rfl, HSp, Wrote.refl _ _ _⟩
  case round =>
    obtain ⟨j, hj, rfl, hpj, hwj⟩ := hrel
    clear HSp
    by_cases hlt : j < uses.length
    · obtain ⟨v1, hp⟩ := hpj.out
      have hw := hwj.out
      obtain ⟨x, hx⟩ : ∃ x, uses[j]? = some x := ⟨uses[j], List.getElem?_eq_getElem _⟩
      have hb := hw.below HSB.out h0 hgk
      have HJ : Hid ((uses.take (j + 1)).flatMap prUse = (uses.take j).flatMap prUse ++ prUse x) := flat_next hx
      have hlen : ((uses.take j).flatMap prUse).length + (prUse x).length ≤ (uses.flatMap prUse).length := by have h1 := flat_take prUse uses (j + 1); rw [flat_next hx, List.length_append] at h1; exact h1
      obtain ⟨bx, offx, rfl⟩ := LRow.addr HXL.out (by rw [HXN.out]; omega)
      obtain ⟨vs, hvs, hcl⟩ := (LRow.el HXL.out (show _ = some [Fl.b x] by unfold txts; rw [List.getElem?_map, hx]; rfl)).vals
      obtain ⟨y0, us, rfl, ⟨ax, cx, rfl, hbx, _⟩, rfl⟩ := hvs
      have hxo := HOK.out x (List.mem_of_getElem? hx)
      have hpn := put_one_name (g := true) hbx.2.1 hxo
      have r0 := cell_on (hcl 0 _ rfl) hb
      simp only [Nat.add_zero, Nat.mul_one] at r0
      have kc := conv_bytes cx (hbx.below hb)
      clear hcl hx hpj hwj
      simp only [prUse, List.length_append, List.length_cons, List.length_nil] at hlen
      have hall : putAll [⟨#[73, 77, 80, 79, 82, 84]⟩, (strOfNums x), ⟨#[59]⟩] = prUse x := by rw [putAll_3, put_73_77_80_79_82_84, hpn, put_59]; rfl
      have HQ := putC [⟨#[73, 77, 80, 79, 82, 84]⟩, (strOfNums x), ⟨#[59]⟩] wr.heap.size 3 3 (wr.alloc (.cells #[.string ⟨#[73, 77, 80, 79, 82, 84]⟩, .string (strOfNums x), .string ⟨#[59]⟩] 9)) base g _ _ (hp.grown (grown_alloc wr _ none)) rfl (Blk.new wr 9 [.string ⟨#[73, 77, 80, 79, 82, 84]⟩, .string (strOfNums x), .string ⟨#[59]⟩]) (by have := hp.blk.lt; omega) (by rw [hall]; simp only [prUse, List.length_append, List.length_cons, List.length_nil]; omega) hg
      rw [hall] at HQ
      clear hall
      go_wp2_with fail
      refine HQ.mono ?_
      rintro e wq ⟨rfl, ⟨v', hp'⟩, hq⟩
      have HP3 : Hid _ := hp'
      have HW3 : Hid (Wrote base (some g) w2 wq) := hw.trans ((Wrote.of (grown_alloc wr (.cells #[.string ⟨#[73, 77, 80, 79, 82, 84]⟩, .string (strOfNums x), .string ⟨#[59]⟩] 9) none)).trans hq)
      clear HQ hp hp' hq hw hb r0 kc
      go_wp2_with fail
      go_roundw
      case rel => exact ⟨j + 1, by omega, by go_num, ⟨v', by rw [HJ.out, ← List.append_assoc]; exact HP3.out⟩, HW3⟩
      case measure => simp [intOf]; omega
    · have : j = uses.length := by omega
      subst this
      have hp : ∃ v', Pg wr base g (LA ++ uses.flatMap prUse) v' := by have := hpj.out; rwa [List.take_of_length_le (Nat.le_refl _)] at this
      obtain ⟨v1, hp⟩ := hp
      have hw : Wrote base (some g) w wr := HSX.out.trans hwj.out
      have hb := hwj.out.below HSB.out h0 hgk
      have x0 := hwj.out.blk HSx.out (by decide) hgx
      clear hpj hwj HSX HSB HSx
      generalize wr = w3 at *
      have q0 := x0.cell (i := 0) rfl
      have q1 := x0.cell (i := 1) rfl
      have q2 := x0.cell (i := 2) rfl
      have q3 := x0.cell (i := 3) rfl
      clear HXL HXN HOK
      have HXL : Hid (LRow w0 a2 c2 2 (vars.map Va.fl)) := hV
      have HXN : Hid ((vars.map Va.fl).length = vars.length) := k2
      have HOK : Hid (∀ x ∈ vars, vaOk x = true) := hvok
      go_wp2_with fail
      clear q0 q1 q2 q3
      obtain ⟨LB, hLB⟩ : ∃ z, z = LA ++ uses.flatMap prUse := ⟨_, rfl⟩
      rw [← hLB] at hp
      have hlB := congrArg List.length hLB
      simp only [List.length_append, List.length_cons, List.length_nil] at hlB
      have HSX : Hid (Wrote base (some g) w w3) := hw
      have HSB : Hid (Below w0.heap.size w0 w3) := hb
      have HSx : Hid _ := x0
      have HSp : Hid (∃ v', Pg w3 base g (LB ++ (vars.take 0).flatMap prVar) v') := ⟨_, by simpa using hp⟩
      clear hp hw hb x0
      go_loopw [7, 32] (fun _ i wr => ∃ j : Nat, j ≤ vars.length ∧ i = .int .i64 j ∧ Hid (∃ v', Pg wr base g (LB ++ (vars.take j).flatMap prVar) v') ∧ Hid (Wrote base (some g) w3 wr)) (fun _ i _ => vars.length - (intOf i).toNat)
      case atStart => exact ⟨0, Nat.zero_le _, rfl, HSp, Wrote.refl _ _ _⟩
      case round =>
        obtain ⟨j, hj, rfl, hpj, hwj⟩ := hrel
        clear HSp
        by_cases hlt : j < vars.length
        · obtain ⟨v1, hp⟩ := hpj.out
          have hw := hwj.out
          obtain ⟨x, hx⟩ : ∃ x, vars[j]? = some x := ⟨vars[j], List.getElem?_eq_getElem _⟩
          have hb := hw.below HSB.out h0 hgk
          have HJ : Hid ((vars.take (j + 1)).flatMap prVar = (vars.take j).flatMap prVar ++ prVar x) := flat_next hx
          have hlen : ((vars.take j).flatMap prVar).length + (prVar x).length ≤ (vars.flatMap prVar).length := by have h1 := flat_take prVar vars (j + 1); rw [flat_next hx, List.length_append] at h1; exact h1
          obtain ⟨bx, offx, rfl⟩ := LRow.addr HXL.out (by rw [HXN.out]; omega)
          obtain ⟨vs, hvs, hcl⟩ := (LRow.el HXL.out (show _ = some (Va.fl x) by rw [List.getElem?_map, hx]; rfl)).vals
          have HX := prVariable x (HOK.out x (List.mem_of_getElem? hx))
          have HC : ∀ wz Lz vz, Below w0.heap.size w0 wz → Pg wz base g Lz vz → Lz.length + (prVar x).length ≤ 1000000000 → Calls Tryz.prog 93 #[.pointer (some ⟨g, 0, none⟩), agg vs] wz fun e w' => e = .returned (.tuple #[]) ∧ (∃ v', Pg w' base g (Lz ++ prVar x) v') ∧ Wrote base (some g) wz w' := fun wz Lz vz h1 h2 h3 => HX w0 wz vs base g Lz vz hT hvs h1 h0 hg h2 h3
          clear HX hx hpj hwj
          generalize prVar x = txx at *
          obtain ⟨x0, x1⟩ := x
          obtain ⟨y0, _, rfl, ⟨b0, d0, rfl, _⟩, y1, _, rfl, rfl, rfl⟩ := hvs
          skip
          replace hcl : ∀ i v, _ → _ := fun i v hv => cell_on (hcl i v hv) hb
          have r0 : wr.cell? ⟨bx, offx + j * 2, none⟩ = some (.slice b0 x0.length d0) := hcl 0 _ rfl
          have r1 : wr.cell? ⟨bx, offx + j * 2 + 1, none⟩ = some (.int .i64 x1) := hcl 1 _ rfl
          clear hcl
          have xb := Blk.new wr 59 [.slice b0 x0.length d0, .int .i64 x1]
          have hwa : Wrote base (some g) w3 (wr.alloc (.cells #[.slice b0 x0.length d0, .int .i64 x1] 59 (0, 0))) := hw.trans (Wrote.of (grown_alloc wr _ none))
          have hpa := hp.grown (grown_alloc wr (.cells #[.slice b0 x0.length d0, .int .i64 x1] 59 (0, 0)) none)
          simp only [agg] at HC
          go_upto_region 10 with fail
          generalize wr.alloc (.cells #[.slice b0 x0.length d0, .int .i64 x1] 59 (0, 0)) = wA at *
          generalize wr.heap.size = gX at *
          clear r0 r1 hp hw hb
          have HQ := HC wA _ _ (hwa.below HSB.out h0 hgk) hpa (by simp only [List.length_append]; omega)
          clear HC
          have s0 := xb.cell (i := 0) rfl
          have s1 := xb.cell (i := 1) rfl
          go_wp2_with fail
          refine HQ.mono ?_
          rintro e wq ⟨rfl, ⟨v', hp'⟩, hq⟩
          clear HQ s0 s1
          have HP3 : Hid _ := hp'
          have HW3 : Hid (Wrote base (some g) w3 wq) := hwa.trans hq
          clear hp' hq hwa hpa xb
          go_wp2_with fail
          go_roundw
          case rel => exact ⟨j + 1, by omega, by go_num, ⟨v', by rw [HJ.out, ← List.append_assoc]; exact HP3.out⟩, HW3⟩
          case measure => simp [intOf]; omega
        · have : j = vars.length := by omega
          subst this
          have hp : ∃ v', Pg wr base g (LB ++ vars.flatMap prVar) v' := by have := hpj.out; rwa [List.take_of_length_le (Nat.le_refl _)] at this
          obtain ⟨v1, hp⟩ := hp
          have hw : Wrote base (some g) w wr := HSX.out.trans hwj.out
          have hb := hwj.out.below HSB.out h0 hgk
          have x0 := hwj.out.blk HSx.out (by decide) hgx
          clear hpj hwj HSX HSB HSx
          generalize wr = w4 at *
          have q0 := x0.cell (i := 0) rfl
          have q1 := x0.cell (i := 1) rfl
          have q2 := x0.cell (i := 2) rfl
          have q3 := x0.cell (i := 3) rfl
          clear HXL HXN HOK
          have HXL : Hid (LRow w0 a3 c3 5 (procs.map Pr.fl)) := hP
          have HXN : Hid ((procs.map Pr.fl).length = procs.length) := k3
          have HOK : Hid (∀ x ∈ procs, hdOk x = true ∧ okSts x.body = true) := hpok
          go_wp2_with fail
          clear q0 q1 q2 q3
          obtain ⟨LC, hLC⟩ : ∃ z, z = LB ++ vars.flatMap prVar := ⟨_, rfl⟩
          rw [← hLC] at hp
          have hlC := congrArg List.length hLC
          simp only [List.length_append, List.length_cons, List.length_nil] at hlC
          have HSX : Hid (Wrote base (some g) w w4) := hw
          have HSB : Hid (Below w0.heap.size w0 w4) := hb
          have HSx : Hid _ := x0
          have HSp : Hid (∃ v', Pg w4 base g (LC ++ (procs.take 0).flatMap prProc) v') := ⟨_, by simpa using hp⟩
          clear hp hw hb x0
          go_loopw [9, 43] (fun _ i wr => ∃ j : Nat, j ≤ procs.length ∧ i = .int .i64 j ∧ Hid (∃ v', Pg wr base g (LC ++ (procs.take j).flatMap prProc) v') ∧ Hid (Wrote base (some g) w4 wr)) (fun _ i _ => procs.length - (intOf i).toNat)
          case atStart => exact ⟨0, Nat.zero_le _, rfl, HSp, Wrote.refl _ _ _⟩
          case round =>
            obtain ⟨j, hj, rfl, hpj, hwj⟩ := hrel
            clear HSp
            by_cases hlt : j < procs.length
            · obtain ⟨v1, hp⟩ := hpj.out
              have hw := hwj.out
              obtain ⟨x, hx⟩ : ∃ x, procs[j]? = some x := ⟨procs[j], List.getElem?_eq_getElem _⟩
              have hb := hw.below HSB.out h0 hgk
              have HJ : Hid ((procs.take (j + 1)).flatMap prProc = (procs.take j).flatMap prProc ++ prProc x) := flat_next hx
              have hlen : ((procs.take j).flatMap prProc).length + (prProc x).length ≤ (procs.flatMap prProc).length := by have h1 := flat_take prProc procs (j + 1); rw [flat_next hx, List.length_append] at h1; exact h1
              obtain ⟨bx, offx, rfl⟩ := LRow.addr HXL.out (by rw [HXN.out]; omega)
              obtain ⟨vs, hvs, hcl⟩ := (LRow.el HXL.out (show _ = some (Pr.fl x) by rw [List.getElem?_map, hx]; rfl)).vals
              have HX := prProcedure x (HOK.out x (List.mem_of_getElem? hx))
              have HC : ∀ wz Lz vz, Below w0.heap.size w0 wz → Pg wz base g Lz vz → Lz.length + (prProc x).length ≤ 1000000000 → Calls Tryz.prog 94 #[.pointer (some ⟨g, 0, none⟩), agg vs] wz fun e w' => e = .returned (.tuple #[]) ∧ (∃ v', Pg w' base g (Lz ++ prProc x) v') ∧ Wrote base (some g) wz w' := fun wz Lz vz h1 h2 h3 => HX w0 wz vs base g Lz vz hT hvs h1 h0 hg h2 h3
              clear HX hx hpj hwj
              generalize prProc x = txx at *
              obtain ⟨x0, x1, x2, x3, x4⟩ := x
              obtain ⟨y0, _, rfl, ⟨b0, d0, rfl, _⟩, y1, _, rfl, rfl, y2, _, rfl, ⟨b2, d2, rfl, _⟩, y3, _, rfl, ⟨b3, d3, rfl, _⟩, y4, _, rfl, ⟨b4, d4, rfl, _⟩, rfl⟩ := hvs
              generalize (List.map Pa.fl x2).length = m2 at *
              generalize (txts x3).length = m3 at *
              generalize (sts x4).length = m4 at *
              replace hcl : ∀ i v, _ → _ := fun i v hv => cell_on (hcl i v hv) hb
              have r0 : wr.cell? ⟨bx, offx + j * 5, none⟩ = some (.slice b0 x0.length d0) := hcl 0 _ rfl
              have r1 : wr.cell? ⟨bx, offx + j * 5 + 1, none⟩ = some (.bool x1) := hcl 1 _ rfl
              have r2 : wr.cell? ⟨bx, offx + j * 5 + 2, none⟩ = some (.slice b2 m2 d2) := hcl 2 _ rfl
              have r3 : wr.cell? ⟨bx, offx + j * 5 + 3, none⟩ = some (.slice b3 m3 d3) := hcl 3 _ rfl
              have r4 : wr.cell? ⟨bx, offx + j * 5 + 4, none⟩ = some (.slice b4 m4 d4) := hcl 4 _ rfl
              clear hcl
              have xb := Blk.new wr 64 [.slice b0 x0.length d0, .bool x1, .slice b2 m2 d2, .slice b3 m3 d3, .slice b4 m4 d4]
              have hwa : Wrote base (some g) w4 (wr.alloc (.cells #[.slice b0 x0.length d0, .bool x1, .slice b2 m2 d2, .slice b3 m3 d3, .slice b4 m4 d4] 64 (0, 0))) := hw.trans (Wrote.of (grown_alloc wr _ none))
              have hpa := hp.grown (grown_alloc wr (.cells #[.slice b0 x0.length d0, .bool x1, .slice b2 m2 d2, .slice b3 m3 d3, .slice b4 m4 d4] 64 (0, 0)) none)
              simp only [agg] at HC
              go_upto_region 15 with fail
              generalize wr.alloc (.cells #[.slice b0 x0.length d0, .bool x1, .slice b2 m2 d2, .slice b3 m3 d3, .slice b4 m4 d4] 64 (0, 0)) = wA at *
              generalize wr.heap.size = gX at *
              clear r0 r1 r2 r3 r4 hp hw hb
              have HQ := HC wA _ _ (hwa.below HSB.out h0 hgk) hpa (by simp only [List.length_append]; omega)
              clear HC
              have s0 := xb.cell (i := 0) rfl
              have s1 := xb.cell (i := 1) rfl
              have s2 := xb.cell (i := 2) rfl
              have s3 := xb.cell (i := 3) rfl
              have s4 := xb.cell (i := 4) rfl
              go_wp2_with fail
              refine HQ.mono ?_
              rintro e wq ⟨rfl, ⟨v', hp'⟩, hq⟩
              clear HQ s0 s1 s2 s3 s4
              have HP3 : Hid _ := hp'
              have HW3 : Hid (Wrote base (some g) w4 wq) := hwa.trans hq
              clear hp' hq hwa hpa xb
              go_wp2_with fail
              go_roundw
              case rel => exact ⟨j + 1, by omega, by go_num, ⟨v', by rw [HJ.out, ← List.append_assoc]; exact HP3.out⟩, HW3⟩
              case measure => simp [intOf]; omega
            · have : j = procs.length := by omega
              subst this
              have hp : ∃ v', Pg wr base g (LC ++ procs.flatMap prProc) v' := by have := hpj.out; rwa [List.take_of_length_le (Nat.le_refl _)] at this
              obtain ⟨v1, hp⟩ := hp
              have hw : Wrote base (some g) w wr := HSX.out.trans hwj.out
              have hb := hwj.out.below HSB.out h0 hgk
              have x0 := hwj.out.blk HSx.out (by decide) hgx
              clear hpj hwj HSX HSB HSx
              generalize wr = w5 at *
              have q0 := x0.cell (i := 0) rfl
              have q1 := x0.cell (i := 1) rfl
              have q2 := x0.cell (i := 2) rfl
              have q3 := x0.cell (i := 3) rfl
              have hall : putAll [⟨#[69, 78, 68]⟩] = ([69, 78, 68, 32]) := by rw [put_69_78_68]
              have HQ := putC [⟨#[69, 78, 68]⟩] w5.heap.size 1 1 (w5.alloc (.cells #[.string ⟨#[69, 78, 68]⟩] 9)) base g _ _ (hp.grown (grown_alloc w5 _ none)) rfl (Blk.new w5 9 [.string ⟨#[69, 78, 68]⟩]) (by have := hp.blk.lt; omega) (by rw [hall]; first | (simp only [List.length_append, List.length_cons, List.length_nil]; omega) | omega) hg
              rw [hall] at HQ
              clear hall
              go_wp2_with fail
              refine HQ.mono ?_
              rintro e w6 ⟨rfl, ⟨v', hp'⟩, hq⟩
              clear q0 q1 q2 q3
              replace hq := (Wrote.of (grown_alloc w5 (.cells #[.string ⟨#[69, 78, 68]⟩] 9) none)).trans hq
              clear HQ hp
              have hp := hp'
              clear hp'
              replace x0 := hq.blk x0 (by decide) (by first | assumption | exact hgx)
              replace hb := hq.below hb h0 hgk
              replace hw := hw.trans hq
              clear hq
              have q0 := x0.cell (i := 0) rfl
              have q1 := x0.cell (i := 1) rfl
              have q2 := x0.cell (i := 2) rfl
              have q3 := x0.cell (i := 3) rfl
              clear q0 q1 q2 q3
              obtain ⟨LZ, hLZ⟩ : ∃ z, z = LC ++ procs.flatMap prProc ++ (([69, 78, 68, 32])) := ⟨_, rfl⟩
              rw [← hLZ] at hp
              have hlZ := congrArg List.length hLZ
              simp only [List.length_append, List.length_cons, List.length_nil] at hlZ
              obtain ⟨hk, ho, hle⟩ := hp
              generalize hnZ : LZ.length = nZ at *
              have HNZ : Hid (LZ.length = nZ) := hnZ
              clear hnZ
              obtain ⟨aZ, cZ, rfl, _⟩ := ho.shape
              have z0 := hk.cell (i := 0) rfl
              have z1 := hk.free 0
              have hse : (⟨#[46, 10]⟩ : ByteArray).size = 2 := rfl
              have hs9 : nZ + (⟨#[46, 10]⟩ : ByteArray).size ≤ 1099511627776 := by rw [hse]; omega
              have HLs : Hid (l ++ prM ⟨name, uses, vars, procs⟩ = LZ ++ [46, 10]) := by show _ = _; rw [hLZ, hLC, hLB, hLA]; simp [prM, List.append_assoc]
              clear hlZ hlA hlB hlC hLZ hLC hLB hLA hsz
              go_wp2_with (at_builtin; refine wpList_appendS rfl _ _ rfl base _ nZ LZ rfl ho ⟨#[46, 10]⟩ rfl hs9 hle ?_)
              intro vZ wZ hoZ hgZ
              replace hoZ : Own wZ base vZ (nZ + 2) (LZ ++ [46, 10]) := hoZ
              have hbZ := hk.below_row hgZ (ho.free hk (by decide))
              have hwZ := hw.trans (Wrote.own (x := some g) ho hgZ)
              have y0 := hbZ.cell (i := 0) rfl
              have y1 := hbZ.free 0
              obtain ⟨aY, cY, rfl, _⟩ := hoZ.shape
              have hneY := hoZ.free hbZ (by decide)
              have kY := hbZ.set (i := 0) (.slice aY (nZ + 2) cY)
              have oY := hoZ.setOther (g := g) (i := 0) (u := .slice aY (nZ + 2) cY) hneY
              have wY := hwZ.trans (Wrote.put (base := base) (g := g) (i := 0) (w := wZ) (v := .slice aY (nZ + 2) cY))
              have lY : base ≤ (wZ.setCell ⟨g, 0, none⟩ (.slice aY (nZ + 2) cY)).heap.size := by have := hgZ.size; simp; omega
              clear z0 z1
              go_wp2_with fail
              have hfin : ∃ v', Pg (wZ.setCell ⟨g, 0, none⟩ (.slice aY (nZ + 2) cY)) base g (l ++ prM ⟨name, uses, vars, procs⟩) v' := by
                have e1 := HLs.out
                have e2 : (l ++ prM ⟨name, uses, vars, procs⟩).length = nZ + 2 := by rw [e1, List.length_append, HNZ.out]; rfl
                refine ⟨_, kY, ?_, lY⟩
                rw [e2, e1]
                exact oY
              exact bodyPost_end (results_none rfl _ _ _) rfl ⟨rfl, hfin, wY⟩


def sumL : List (List Int) → Nat
  | [] => 0
  | t :: l => t.length + sumL l
theorem sumL_0 (ts : List (List Int)) : (ts[0]?.getD []).length ≤ sumL ts := by
  cases ts with
  | nil => simp
  | cons a l => simp [sumL]
theorem sumL_01 (ts : List (List Int)) : (ts[0]?.getD []).length + (ts[1]?.getD []).length ≤ sumL ts := by
  match ts with
  | [] => simp
  | [a] => simp [sumL]
  | a :: b :: l => simp [sumL]
theorem join_le (s : List Int) : ∀ ts : List (List Int), (joinI s ts).length ≤ sumL ts + s.length * ts.length := by
  intro ts
  induction ts with
  | nil => simp [joinI]
  | cons a l ih =>
    cases l with
    | nil => simp [joinI, sumL]
    | cons b l =>
      simp only [joinI, sumL, List.length_append, List.length_cons] at ih ⊢
      rw [Nat.mul_add]
      omega
theorem modI_le (m : List Int) : (if m.length = 0 then [] else m ++ [32] ++ [46, 32] : List Int).length ≤ m.length + 3 := by split <;> simp
theorem opI_le (n : Int) : (opI n).length ≤ 1 := by
  unfold opI
  split
  · simp
  split
  · simp
  split
  · simp
  split
  · simp
  split <;> simp

theorem exText_le {k n : Int} {mod name : List Int} {nk : Nat} {ts : List (List Int)} (h : exLoc k n mod name nk = true) : (exText k n mod name ts).length ≤ 40 + mod.length + name.length + sumL ts + 2 * ts.length := by
  have h1 := sumL_0 ts
  have h2 := sumL_01 ts
  have h3 := join_le [44, 32] ts
  have h4 := modI_le mod
  have h5 := opI_le n
  simp only [List.length_cons, List.length_nil] at h3
  unfold exText
  split
  · rename_i h0
    subst h0
    have hb : -9223372036854775808 ≤ n ∧ n ≤ 9223372036854775807 := by simp [exLoc, inB, exLow, exHigh] at h; omega
    have := num_len hb.1 hb.2
    simp only [List.length_append, List.length_cons, List.length_nil]; omega
  split
  · simp only [List.length_append, List.length_cons, List.length_nil]; omega
  split
  · simp only [List.length_append, List.length_cons, List.length_nil]; omega
  split
  · simp only [List.length_append, List.length_cons, List.length_nil]; omega
  split
  · simp only [List.length_append, List.length_cons, List.length_nil]; omega
  split
  · simp only [List.length_append, List.length_cons, List.length_nil]; omega
  split
  · simp only [List.length_append, List.length_cons, List.length_nil] at h4 ⊢; omega
  · simp only [List.length_append, List.length_cons, List.length_nil]; omega

mutual
theorem prE_le : ∀ x : Ex, okEx x = true → (prE x).length ≤ 40 + 50 * recLen x.fl
  | .mk k n m a ks, h => by
    obtain ⟨h1, h2⟩ := okEx_loc h
    have h3 := prEs_le ks h2
    have h4 := exText_le (ts := prEs ks) h1
    have e : recLen (Ex.mk k n m a ks).fl = m.length + a.length + ((exs ks).length + rowsLen (exs ks)) := by simp [Ex.fl, recLen, Fl.len] <;> omega
    have e2 : (exs ks).length = ks.length := by simp [exs_map]
    have e3 : (prEs ks).length = ks.length := by simp [prEs_map]
    rw [e, e2]
    rw [prE]
    rw [e3] at h4
    omega
theorem prEs_le : ∀ l : List Ex, okExs l = true → sumL (prEs l) ≤ 40 * l.length + 50 * rowsLen (exs l)
  | [], _ => by simp [prEs, sumL]
  | x :: l, h => by
    simp only [okExs, Bool.and_eq_true] at h
    have h1 := prE_le x h.1
    have h2 := prEs_le l h.2
    simp only [prEs, sumL, exs, rowsLen, List.length_cons]
    omega
end

theorem stText_le {k n : Int} {name : List Int} {ks : List Ex} {nb ne : Nat} {ts : List (List Int)} {b e : List Int} (h : stLoc k n name ks nb ne = true) : (stText k n name ts b e).length ≤ 60 + name.length + sumL ts + b.length + e.length := by
  have h1 := sumL_0 ts
  have h2 := sumL_01 ts
  unfold stText
  split
  · simp only [List.length_append, List.length_cons, List.length_nil]; omega
  split
  · simp only [List.length_append, List.length_cons, List.length_nil]; omega
  split
  · simp only [List.length_append, List.length_cons, List.length_nil]; omega
  split
  · simp only [List.length_append, List.length_cons, List.length_nil]; omega
  split
  · simp only [List.length_append, List.length_cons, List.length_nil]; omega
  split
  · simp only [List.length_append, List.length_cons, List.length_nil]; omega
  split
  · rename_i h0
    subst h0
    have hb := sloc_len h
    simp [stHigh] at hb
    have := num_len (n := n) (by omega) (by omega)
    simp only [List.length_append, List.length_cons, List.length_nil]; omega
  · simp only [List.length_append, List.length_cons, List.length_nil]; omega

mutual
theorem prS_le : ∀ x : St, okSt x = true → (prS x).length ≤ 60 + 60 * recLen x.fl
  | .mk k n a ks bs es, h => by
    obtain ⟨h1, h2, h3, h4⟩ := okSt_parts h
    have h5 := prEs_le ks h2
    have h6 := prB_le bs h3
    have h7 := prB_le es h4
    have h8 := stText_le (ts := prEs ks) (b := prB bs) (e := prB es) h1
    have e : recLen (St.mk k n a ks bs es).fl = a.length + ((exs ks).length + rowsLen (exs ks)) + ((sts bs).length + rowsLen (sts bs)) + ((sts es).length + rowsLen (sts es)) := by simp [St.fl, recLen, Fl.len] <;> omega
    have e2 : (exs ks).length = ks.length := by simp [exs_map]
    have e3 : (sts bs).length = bs.length := by simp [sts_map]
    have e4 : (sts es).length = es.length := by simp [sts_map]
    rw [e, e2, e3, e4, prS]
    omega
theorem prB_le : ∀ l : List St, okSts l = true → (prB l).length ≤ 60 * l.length + 60 * rowsLen (sts l)
  | [], _ => by simp [prB]
  | x :: l, h => by
    simp only [okSts, Bool.and_eq_true] at h
    have h1 := prS_le x h.1
    have h2 := prB_le l h.2
    simp only [prB, sts, rowsLen, List.length_cons, List.length_append]
    omega
end

theorem flat_le {α : Type} {f : α → List Int} {g : α → List Fl} {c d : Nat} : ∀ {l : List α}, (∀ x ∈ l, (f x).length ≤ c + d * recLen (g x)) → (l.flatMap f).length ≤ c * l.length + d * rowsLen (l.map g) := by
  intro l
  induction l with
  | nil => intro _; simp
  | cons x l ih =>
    intro h
    have h1 := h x (by simp)
    have h2 := ih fun y hy => h y (by simp [hy])
    simp only [List.flatMap_cons, List.length_append, List.length_cons, List.map_cons, rowsLen, Nat.mul_add]
    omega
theorem sum_le {α : Type} {f : α → List Int} {g : α → List Fl} {c d : Nat} : ∀ {l : List α}, (∀ x ∈ l, (f x).length ≤ c + d * recLen (g x)) → sumL (l.map f) ≤ c * l.length + d * rowsLen (l.map g) := by
  intro l
  induction l with
  | nil => intro _; simp [sumL]
  | cons x l ih =>
    intro h
    have h1 := h x (by simp)
    have h2 := ih fun y hy => h y (by simp [hy])
    simp only [List.map_cons, sumL, List.length_cons, rowsLen, Nat.mul_add]
    omega

theorem prProc_le (q : Pr) (h : okSts q.body = true) : (prProc q).length ≤ 100 + 100 * recLen q.fl := by
  have e2 : recLen q.fl = q.name.length + ((q.params.map Pa.fl).length + rowsLen (q.params.map Pa.fl)) + ((txts q.locals).length + rowsLen (txts q.locals)) + ((sts q.body).length + rowsLen (sts q.body)) := by simp [Pr.fl, recLen, Fl.len] <;> omega
  have k2 : (q.params.map Pa.fl).length = q.params.length := by simp
  have k3 : (txts q.locals).length = q.locals.length := by simp [txts]
  have k4 : (sts q.body).length = q.body.length := by simp [sts_map]
  have h1 := prB_le q.body h
  have h2 := join_le [44, 32] (q.params.map prPa)
  have h3 : sumL (q.params.map prPa) ≤ 3 * q.params.length + 1 * rowsLen (q.params.map Pa.fl) := sum_le fun x _ => by
    simp only [prPa, Pa.fl, recLen, Fl.len, List.length_append, List.length_cons, List.length_nil]
    cases x.arr <;> simp <;> omega
  have h4 : (q.locals.flatMap prLocal).length ≤ 10 * q.locals.length + 1 * rowsLen (txts q.locals) := flat_le (g := fun x => [Fl.b x]) fun x _ => by
    simp only [prLocal, recLen, Fl.len, List.length_append, List.length_cons, List.length_nil]
    omega
  have h5 : (if q.opn then [42, 32] else [] : List Int).length ≤ 2 := by cases q.opn <;> simp
  simp only [List.length_cons, List.length_nil, List.length_map] at h2
  rw [e2, k2, k3, k4]
  simp only [prProc, List.length_append, List.length_cons, List.length_nil]
  omega

theorem prM_le (m : Mo) (hs : recLen m.fl ≤ 1048576) (hv : ∀ x ∈ m.vars, vaOk x = true) (hp : ∀ x ∈ m.procs, okSts x.body = true) : (prM m).length ≤ 500000000 := by
  have e : recLen m.fl = m.name.length + ((txts m.uses).length + rowsLen (txts m.uses)) + ((m.vars.map Va.fl).length + rowsLen (m.vars.map Va.fl)) + ((m.procs.map Pr.fl).length + rowsLen (m.procs.map Pr.fl)) := by simp [Mo.fl, recLen, Fl.len] <;> omega
  have k1 : (txts m.uses).length = m.uses.length := by simp [txts]
  have k2 : (m.vars.map Va.fl).length = m.vars.length := by simp
  have k3 : (m.procs.map Pr.fl).length = m.procs.length := by simp
  have h1 : (m.uses.flatMap prUse).length ≤ 20 * m.uses.length + 1 * rowsLen (txts m.uses) := flat_le (g := fun x => [Fl.b x]) fun x _ => by
    simp only [prUse, recLen, Fl.len, List.length_append, List.length_cons, List.length_nil]
    omega
  have h2 : (m.vars.flatMap prVar).length ≤ 50 * m.vars.length + 1 * rowsLen (m.vars.map Va.fl) := flat_le fun x hx => by
    have h9 := hv x hx
    simp only [vaOk, inB, Bool.and_eq_true, decide_eq_true_eq] at h9
    have h8 := num_len (n := x.size) (by omega) (by omega)
    have h7 : (if 0 < x.size then [91, 32] ++ (numI x.size ++ [32]) ++ [93, 32] else [] : List Int).length ≤ 26 := by
      split
      · simp only [List.length_append, List.length_cons, List.length_nil]; omega
      · simp
    simp only [prVar, Va.fl, recLen, Fl.len]
    rw [List.length_append, List.length_append, List.length_append, List.length_append]
    simp only [List.length_cons, List.length_nil]
    omega
  have h3 : (m.procs.flatMap prProc).length ≤ 100 * m.procs.length + 100 * rowsLen (m.procs.map Pr.fl) := flat_le fun x hx => prProc_le x (hp x hx)
  rw [e, k1, k2, k3] at hs
  simp only [prM, List.length_append, List.length_cons, List.length_nil]
  omega

def moOk (m : Mo) : Bool := formed m && decide ((prM m).length ≤ 3000)

theorem fitPrs_ok {l : List Pr} {left : Int} (h : fitPrs l left = true) : ∀ x ∈ l, okSts x.body = true := by
  intro x hx
  obtain ⟨j, hj⟩ := List.getElem?_of_mem hx
  unfold fitPrs at h
  rw [List.all_eq_true] at h
  have := h j (by have := (List.getElem?_eq_some_iff.1 hj).1; simpa using this)
  rw [hj] at this
  unfold fitSts at this
  simp only [Option.getD_some, Bool.and_eq_true] at this
  exact this.1.1
theorem formed_parts {m : Mo} (h : formed m = true) : nameOk m.name true = true ∧ (∀ x ∈ m.uses, greatOk x = true) ∧ (∀ x ∈ m.vars, vaOk x = true) ∧ (∀ x ∈ m.procs, hdOk x = true ∧ okSts x.body = true) := by
  unfold formed at h
  simp only [Bool.and_eq_true, List.all_eq_true] at h
  exact ⟨h.1.1.1.1.1.1.1, h.1.1.1.1.1.2, h.1.1.1.2, fun x hx => ⟨h.1.2 x hx, fitPrs_ok h.2 x hx⟩⟩

theorem own_none (w : World) (base : Nat) : Own w base (.slice none 0 0) 0 [] := ⟨⟨by simp, .inl ⟨rfl, rfl⟩⟩, by simp⟩

theorem four_of {α : Type} {l : List α} (h : l.length = 4) : ∃ a b c d, l = [a, b, c, d] := by
  match l, h with
  | [a, b, c, d], _ => exact ⟨a, b, c, d, rfl⟩

/-- What Print tells: a text of its own, or nothing. -/
structure Printed (w w' : World) (m : Mo) (v : Value) : Prop where
  no : moOk m = false → v = .slice none 0 0
  yes : moOk m = true → Own w' w.heap.size v (prM m).length (prM m)
  grown : w.grownBy w' none

set_option maxHeartbeats 4000000 in
theorem printC (m : Mo) (vs : List Value) (w : World) (hT : Tabs w) (h : RdVals w m.fl vs) (hs : recLen m.fl ≤ 1048576) :
    Calls Tryz.prog 24 #[agg vs] w fun e w' => ∃ v, e = .returned (.tuple #[v, .bool (moOk m)]) ∧ Printed w w' m v := by
  have HF : ∀ w1, Below w.heap.size w w1 → Calls Tryz.prog 54 #[agg vs] w1 fun e w' => e = .returned (.bool (formed m)) ∧ w1.grownBy w' none := fun w1 h1 => formedC m vs w1 (hT.below h1) (h.below h1) hs
  have HM : formed m = true → ∀ (w1 : World) (g : Nat) (v : Value), Below w.heap.size w w1 → w.heap.size ≤ g → Pg w1 w.heap.size g [] v → Calls Tryz.prog 55 #[.pointer (some ⟨g, 0, none⟩), agg vs] w1 fun e w' => e = .returned (.tuple #[]) ∧ (∃ v', Pg w' w.heap.size g (prM m) v') ∧ Wrote w.heap.size (some g) w1 w' := by
    intro hf w1 g v h1 h2 h3
    obtain ⟨p1, p2, p3, p4⟩ := formed_parts hf
    have hl := prM_le m hs p3 (fun x hx => (p4 x hx).2)
    have := prMoR m.name m.uses m.vars m.procs p1 p2 p3 p4 w w1 vs w.heap.size g [] v hT h h1 (Nat.le_refl _) h2 h3 (by rw [List.length_nil, Nat.zero_add]; exact Nat.le_trans hl (by omega))
    exact this
  have hlM : formed m = true → (prM m).length ≤ 500000000 := fun hf => by
    obtain ⟨_, _, p3, p4⟩ := formed_parts hf
    exact prM_le m hs p3 (fun x hx => (p4 x hx).2)
  obtain ⟨u0, u1, u2, u3, rfl⟩ := four_of (h.len.trans (show m.fl.length = 4 from rfl))
  simp only [agg] at HF HM ⊢
  have yy := grown_alloc w (.cells #[u0, u1, u2, u3] 29 (0, 0)) none
  have x0 := Blk.new w 29 [u0, u1, u2, u3]
  have HD : Hid (moOk m = (formed m && decide ((prM m).length ≤ 3000))) := rfl
  clear hT h hs
  go_enter Tryz.func24, Tryz.ntmps24
  go_upto_region 1 with fail
  generalize w.alloc (.cells #[u0, u1, u2, u3] 29 (0, 0)) = w1 at *
  have q0 := x0.cell (i := 0) rfl
  have q1 := x0.cell (i := 1) rfl
  have q2 := x0.cell (i := 2) rfl
  have q3 := x0.cell (i := 3) rfl
  have H1 := HF w1 (below_grown yy)
  clear HF
  go_wp2_with fail
  refine H1.mono ?_
  rintro e w2 ⟨rfl, hq⟩
  replace x0 := x0.below (below_grown hq) x0.lt
  replace yy := grown_trans yy hq
  clear H1 hq q0 q1 q2 q3
  cases hf : formed m
  · have he : Hid (moOk m = false) := by show _ = _; rw [HD.out, hf]; rfl
    clear HM hlM
    go_wp2_with fail
    refine bodyPost_ret (v := .tuple #[.slice none 0 0, .bool false]) (by simp only [results, Tryz.results24]; simp [go_sem]) rfl ⟨.slice none 0 0, by rw [he.out], ⟨fun _ => rfl, fun h => absurd (he.out.symm.trans h) (by simp), yy⟩⟩
  · have HM2 := HM hf
    have hl := hlM hf
    have he : Hid (moOk m = decide ((prM m).length ≤ 3000)) := by show _ = _; rw [HD.out, hf]; rfl
    clear HM hlM HD hf
    have hP : Pg (w2.alloc (.cells #[.slice none 0 0] 102 (0, 0))) w.heap.size w2.heap.size [] (.slice none 0 0) := ⟨Blk.new w2 102 [.slice none 0 0], own_none _ _, by have := yy.size; simp; omega⟩
    have y3 := grown_trans yy (grown_alloc w2 (.cells #[.slice none 0 0] 102 (0, 0)) none)
    have x3 := x0.old (o := .cells #[.slice none 0 0] 102 (0, 0))
    have HQ := HM2 _ w2.heap.size _ (below_grown y3) yy.size hP
    clear HM2
    have hgx : some w.heap.size ≠ some w2.heap.size := by have := x0.lt; simp; omega
    have hle2 : w.heap.size ≤ w2.heap.size := yy.size
    go_upto_region 4 with fail
    generalize w2.alloc (.cells #[.slice none 0 0] 102 (0, 0)) = w3 at *
    generalize w2.heap.size = g at *
    have q0 := x3.cell (i := 0) rfl
    have q1 := x3.cell (i := 1) rfl
    have q2 := x3.cell (i := 2) rfl
    have q3 := x3.cell (i := 3) rfl
    go_wp2_with fail
    refine HQ.mono ?_
    rintro e w4 ⟨rfl, ⟨v4, hp4⟩, hw⟩
    have y4 : w.grownBy w4 none := grown_below (hw.below (below_grown y3) (Nat.le_refl _) (by intro k e; cases e; exact hle2)) none
    obtain ⟨hk4, ho4, _⟩ := hp4
    clear HQ q0 q1 q2 q3 x3 y3 hP hw x0 yy
    have HO : Hid (Own w4 w.heap.size v4 (prM m).length (prM m)) := ho4
    obtain ⟨a4, c4, e4, _⟩ := ho4.shape
    subst e4
    clear ho4
    have z0 := hk4.cell (i := 0) rfl
    generalize hn : (prM m).length = n at *
    have HN : Hid ((prM m).length = n) := hn
    clear hn
    by_cases h3 : n ≤ 3000
    · have h3' : ¬ (3000 : Int) < (n : Int) := by omega
      have hm : Hid (moOk m = true) := by show _ = _; rw [he.out]; exact decide_eq_true h3
      go_wp2_with fail
      refine bodyPost_ret (v := .tuple #[.slice a4 n c4, .bool true]) (by simp only [results, Tryz.results24]; simp [go_sem]) rfl ⟨.slice a4 n c4, by rw [hm.out], ⟨fun h => absurd (hm.out.symm.trans h) (by simp), fun _ => (by rw [HN.out]; exact HO.out), y4⟩⟩
    · have h3' : (3000 : Int) < (n : Int) := by omega
      have hm : Hid (moOk m = false) := by show _ = _; rw [he.out]; exact decide_eq_false h3
      go_wp2_with fail
      refine bodyPost_ret (v := .tuple #[.slice none 0 0, .bool false]) (by simp only [results, Tryz.results24]; simp [go_sem]) rfl ⟨.slice none 0 0, by rw [hm.out], ⟨fun _ => rfl, fun h => absurd (hm.out.symm.trans h) (by simp), y4⟩⟩

theorem implModB (m : Mo) (w : World) (vs : List Value) (hT : Tabs w) (h : RdVals w m.fl vs) (hs : recLen m.fl ≤ 1048576) :
    Calls Tryz.prog 10 #[.agg vs.toArray] w fun e w' => e = .returned (.bool (moOk m)) ∧ w.grownBy w' none := by
  have yy := grown_alloc w (.cells vs.toArray 29 (0, 0)) none
  have HP := printC m vs (w.alloc (.cells vs.toArray 29 (0, 0))) (hT.below (below_grown yy)) (h.below (below_grown yy)) hs
  have x0 := Blk.new w 29 vs
  obtain ⟨u0, u1, u2, u3, rfl⟩ := four_of (h.len.trans (show m.fl.length = 4 from rfl))
  simp only [agg] at HP
  clear h hs hT
  generalize moOk m = r at *
  go_enter Tryz.func10, Tryz.ntmps10
  go_upto_region 1 with fail
  generalize w.alloc (.cells #[u0, u1, u2, u3] 29 (0, 0)) = w1 at *
  have q0 := x0.cell (i := 0) rfl
  have q1 := x0.cell (i := 1) rfl
  have q2 := x0.cell (i := 2) rfl
  have q3 := x0.cell (i := 3) rfl
  go_wp2_with fail
  refine HP.mono ?_
  rintro e w2 ⟨v, rfl, hp⟩
  go_wp2_with fail
  go_ret
  exact ⟨rfl, grown_trans yy hp.grown⟩
end Go.Proofs.YtajnfknldofjlaaGreatDoor

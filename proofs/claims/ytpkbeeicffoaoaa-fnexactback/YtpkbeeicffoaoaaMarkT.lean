/- Trees of one's own are marked: what else there is stays. By mkmarkt.py. -/
import Derived.Test.YtpkbeeicffoaoaaTreeTo2
import Derived.Test.YtpkbeeicffoaoaaAll
namespace Go.Proofs.Ytpkbeeicffoaoaa
open Go.RowKit
set_option linter.unusedVariables false
set_option linter.unusedSimpArgs false
set_option maxRecDepth 100000

/-- Nothing that was there has changed but blocks from lo up to hi. -/
structure Out (lo hi : Nat) (w w' : World) : Prop where
  os : w'.os = w.os
  tape : w'.tape = w.tape
  output : w'.output = w.output
  size : w.heap.size ≤ w'.heap.size
  block : ∀ g, g < w.heap.size → (g < lo ∨ hi ≤ g) → w'.heap[g]? = w.heap[g]?
theorem Out.refl (lo hi : Nat) (w : World) : Out lo hi w w := ⟨rfl, rfl, rfl, Nat.le_refl _, fun _ _ _ => rfl⟩
theorem Out.trans {lo hi : Nat} {a b c : World} (h : Out lo hi a b) (k : Out lo hi b c) : Out lo hi a c :=
  ⟨k.os.trans h.os, k.tape.trans h.tape, k.output.trans h.output, Nat.le_trans h.size k.size, fun g hg ho => (k.block g (Nat.lt_of_lt_of_le hg h.size) ho).trans (h.block g hg ho)⟩
theorem Out.wide {lo hi lo' hi' : Nat} {a b : World} (h : Out lo hi a b) (h1 : lo' ≤ lo) (h2 : hi ≤ hi') : Out lo' hi' a b := ⟨h.os, h.tape, h.output, h.size, fun g hg ho => h.block g hg (by omega)⟩
theorem Out.put {lo hi g i : Nat} {w : World} {v : Value} (h1 : lo ≤ g) (h2 : g < hi) : Out lo hi w (w.setCell ⟨g, i, none⟩ v) :=
  ⟨rfl, rfl, rfl, by simp, fun k hk ho => heap_setCell_other w ⟨g, i, none⟩ k v (by simp; omega)⟩
theorem Out.stays {a b lo hi : Nat} {w w' : World} (h : Out a b w w') (hs : hi ≤ w.heap.size) (hd : hi ≤ a ∨ b ≤ lo) : Stays lo hi w w' := fun g h1 h2 => h.block g (by omega) (by omega)
theorem Out.blk {a b g : Nat} {w w' : World} {T : TypeId} {vs : List Value} (h : Out a b w w') (hb : Blk w g T vs) (hd : g < a ∨ b ≤ g) : Blk w' g T vs := (h.block g hb.lt hd).trans hb
theorem Out.grown {lo hi : Nat} {w w' : World} (h : w.grownBy w' none) : Out lo hi w w' := ⟨h.os, h.tape, h.output, h.size, fun g hg _ => h.block g hg (by simp)⟩
theorem Stays.put9 {lo hi g i : Nat} {w : World} {v : Value} (h : g < lo) : Stays lo hi w (w.setCell ⟨g, i, none⟩ v) := Stays.put (.inl h)

/-- The function F marks a field of one's own. -/
def MkF (F : Nat) (f : Fl) : Prop := ∀ (w : World) (lo hi : Nat) (v : Value) (k : Int), f.Has w lo hi v → hi ≤ w.heap.size → 0 ≤ k → k + 8 * (f.len : Int) ≤ 1073741824 →
  Calls Try.prog F #[v, .int .i64 k] w fun e w' => (∃ k' : Int, e = .returned (.int .i64 k') ∧ k ≤ k' ∧ k' ≤ k + 8 * (f.len : Int)) ∧ Out lo hi w w'

theorem mkInt (l : List Int) (hl : l.length ≤ 1073741824) : MkF 31 (.i l) := by
  intro w lo hi v k hv hh h0 h1
  unfold Fl.Has at hv
  obtain ⟨g, rfl, h2, h3, h4, h5, h6⟩ := hv
  simp only [Fl.len] at h1
  obtain ⟨n, hn⟩ : ∃ z, z = l.length := ⟨_, rfl⟩
  have HN : Hid (l.length = n) := hn.symm
  have hB : Hid (∃ vs : List Value, vs.length = n ∧ Blk w g 3 vs) := ⟨l.map (Value.int .i64), by rw [List.length_map, hn], h4⟩
  rw [← hn] at hl h1 h6 ⊢
  clear hn h4 h5
  have hn9 : n ≤ 9223372036854775807 := by omega
  go_enter Try.func31, Try.ntmps31
  go_wp2_with fail
  go_loopw [1, 5] (fun kk i wr => ∃ (j : Nat), j ≤ n ∧ i = .int .i64 j ∧ kk = .int .i64 (k + j) ∧ Hid (∃ vs : List Value, vs.length = n ∧ Blk wr g 3 vs) ∧ Hid (Out lo hi w wr)) (fun _ i _ => n - (intOf i).toNat)
  case atStart => exact ⟨0, Nat.zero_le _, rfl, by simp, hB, Out.refl _ _ _⟩
  case round =>
    obtain ⟨j, hj, rfl, rfl, hb, hO⟩ := hrel
    by_cases hlt : j < n
    · obtain ⟨vs, hvl, hb⟩ := hb.out
      have z := hb.free j
      have q : wr.cell? ⟨g, j, none⟩ = some (vs[j]'(by omega)) := hb.cell (List.getElem?_eq_getElem _)
      have HB2 : Hid (∃ us : List Value, us.length = n ∧ Blk (wr.setCell ⟨g, j, none⟩ (.int .i64 (k + j))) g 3 us) := ⟨vs.set j (.int .i64 (k + j)), by simpa using hvl, hb.set _⟩
      have HO2 : Hid (Out lo hi w (wr.setCell ⟨g, j, none⟩ (.int .i64 (k + j)))) := hO.out.trans (Out.put h2 h3)
      go_wp2_with fail
      go_roundw
      case rel => exact ⟨j + 1, by omega, by go_num, by go_num, HB2, HO2⟩
      case measure => simp [intOf]; omega
    · have : n = j := by omega
      subst this
      go_wp2_with fail
      go_ret
      exact ⟨⟨_, rfl, by omega, by simp only [Fl.len]; rw [HN.out]; omega⟩, hO.out⟩

/-- How far a row of records has been marked. -/
structure MkSt (K : Nat) (rs : List (List Fl)) (w : World) (lo hi g : Nat) (T : TypeId) (wr : World) (j : Nat) : Prop where
  ex : ∃ (pre rest : List Value) (mid : Nat), Blk wr g T (pre ++ rest) ∧ pre.length = j * K ∧ RowsHas wr K mid hi (rs.drop j) rest ∧ g < mid ∧ mid ≤ hi
  out : Out lo hi w wr

theorem at_mid {pre us rest : List Value} {i n : Nat} {u : Value} (hp : pre.length = n) (h : us[i]? = some u) : (pre ++ (us ++ rest))[n + i]? = some u := by
  have hi := (List.getElem?_eq_some_iff.1 h).1
  rw [← hp, List.getElem?_append_right (by omega), Nat.add_sub_cancel_left, List.getElem?_append_left hi]
  exact h
theorem set_mid {pre us rest : List Value} {i n : Nat} {u : Value} (hp : pre.length = n) (hi : i < us.length) : (pre ++ (us ++ rest)).set (n + i) u = pre ++ (us.set i u ++ rest) := by
  rw [← hp, List.set_append_right _ _ (by omega), Nat.add_sub_cancel_left, List.set_append_left _ _ hi]
theorem drop_at {α : Type} {l : List α} {j : Nat} {x : α} (h : l[j]? = some x) : l.drop j = x :: l.drop (j + 1) := by
  obtain ⟨hj, rfl⟩ := List.getElem?_eq_some_iff.1 h
  exact List.drop_eq_getElem_cons hj










set_option maxHeartbeats 8000000 in
theorem mkArgS (l : List (Ag)) : MkF 32 (.l 2 (l.map Ag.fl)) := by
  intro w lo hi v k hv hh hk0 hk1
  unfold Fl.Has at hv
  obtain ⟨g, vs, T, rfl, hg1, hg2, hgb, hm, hrows⟩ := hv
  have hml : (l.map Ag.fl).length = l.length := by simp [exs_map, sts_map, txts]
  simp only [Fl.len] at hk1 ⊢
  rw [hml] at hk1 hm ⊢
  obtain ⟨n, hn⟩ : ∃ z, z = l.length := ⟨_, rfl⟩
  rw [← hn] at hk1 hm hml ⊢
  have HNL : Hid (l.length = n) := hn.symm
  clear hn
  have hn9 : n ≤ 9223372036854775807 := by unfold maxLen at hm; omega
  generalize hRL : rowsLen (l.map Ag.fl) = RL at *
  have HRL : Hid (rowsLen (l.map Ag.fl) = RL) := hRL
  clear hRL
  have HS0 : Hid (MkSt 2 (l.map Ag.fl) w lo hi g T w 0) := ⟨⟨[], vs, g + 1, hgb, by simp, by simpa using hrows, by omega, by omega⟩, Out.refl _ _ _⟩
  clear hgb hrows hml
  go_enter Try.func32, Try.ntmps32
  go_wp2_with fail
  go_loopw [1, 5] (fun kk i wr => ∃ (j : Nat) (kc : Int), j ≤ n ∧ i = .int .i64 j ∧ kk = .int .i64 kc ∧ k ≤ kc ∧ Hid (kc ≤ k + 8 * ((j : Int) + (rowsLen ((l.map Ag.fl).take j) : Int))) ∧ Hid (MkSt 2 (l.map Ag.fl) w lo hi g T wr j)) (fun _ i _ => n - (intOf i).toNat)
  case atStart => exact ⟨0, k, Nat.zero_le _, rfl, rfl, Int.le_refl _, by show k ≤ _; simp [rowsLen], HS0⟩
  case round =>
    obtain ⟨j, kc, hj, rfl, rfl, hkc, hkd, hst⟩ := hrel
    clear HS0
    by_cases hlt : j < n
    · obtain ⟨x, hx⟩ : ∃ x, l[j]? = some x := ⟨l[j]'(by rw [HNL.out]; exact hlt), List.getElem?_eq_getElem _⟩
      have hxj : (l.map Ag.fl)[j]? = some x.fl := by rw [List.getElem?_map, hx]; rfl
      obtain ⟨⟨pre, rest, mid, XB, hp, hr, hm1, hm2⟩, HO⟩ := hst.out
      rw [drop_at hxj] at hr
      unfold RowsHas at hr
      obtain ⟨us, rest', mid', rfl, hul, hA, hB, hrec, hrest⟩ := hr
      have hnx := rowsLen_next hxj
      have htk := rowsLen_take (l.map Ag.fl) (j + 1)
      rw [hnx, HRL.out] at htk
      have hkd1 := hkd.out
      unfold Ag.fl at hrec
      simp only [RecHas] at hrec
      obtain ⟨u0, _, m0, rfl, ha0, hb0, h0, u1, _, m1, rfl, ha1, hb1, h1, rfl⟩ := hrec
      have hrl : recLen (x.fl) = Fl.len (.t x.arr) + Fl.len (.n x.n) := by simp [Ag.fl, recLen, Fl.len, Nat.add_assoc]
      have HNX : Hid (rowsLen ((l.map Ag.fl).take (j + 1)) = rowsLen ((l.map Ag.fl).take j) + (Fl.len (.t x.arr) + Fl.len (.n x.n))) := by show _ = _; rw [hnx, hrl]
      rw [hrl] at htk
      clear hx hxj hnx hrl hst
      have hgl := XB.lt
      have hsz := HO.size
      have hgpos : lo ≤ g ∧ g < hi := ⟨hg1, by omega⟩
      unfold Fl.Has at h0
      subst h0
      unfold Fl.Has at h1
      subst h1
      have hK0 : 0 ≤ kc := by omega
      have z := XB.free (j * 2)
      have q : wr.cell? ⟨g, j * 2, none⟩ = some (.bool x.arr) := XB.cell (at_mid (i := 0) hp rfl)
      have X1 : Blk (wr.setCell ⟨g, j * 2, none⟩ (.bool (kc % 3 == 0))) g T (pre ++ ([.bool (kc % 3 == 0), .int .i64 x.n] ++ rest')) := by
        have := XB.set (i := j * 2 + 0) (.bool (kc % 3 == 0))
        rw [set_mid hp (by simp)] at this
        exact this
      have O1 : Out lo hi w (wr.setCell ⟨g, j * 2, none⟩ (.bool (kc % 3 == 0))) := HO.trans (Out.put hgpos.1 hgpos.2)
      replace hrest := hrest.stays (Stays.put9 (g := g) (i := j * 2) (v := .bool (kc % 3 == 0)) (by omega))
      go_upto_region 6 with fail
      generalize wr.setCell ⟨g, j * 2, none⟩ (.bool (kc % 3 == 0)) = W1 at *
      clear z q XB HO
      obtain ⟨k1, hk1⟩ : ∃ z, z = kc + 1 := ⟨_, rfl⟩
      rw [← hk1]
      have kl1 : kc ≤ k1 ∧ k1 ≤ kc + 1 := by omega
      clear hk1
      have z := X1.free (j * 2 + 1)
      have q : W1.cell? ⟨g, j * 2 + 1, none⟩ = some (.int .i64 x.n) := X1.cell (at_mid (i := 1) hp rfl)
      have X2 : Blk (W1.setCell ⟨g, j * 2 + 1, none⟩ (.int .i64 k1)) g T (pre ++ ([.bool (kc % 3 == 0), .int .i64 k1] ++ rest')) := by
        have := X1.set (i := j * 2 + 1) (.int .i64 k1)
        rw [set_mid hp (by simp)] at this
        exact this
      have O2 : Out lo hi w (W1.setCell ⟨g, j * 2 + 1, none⟩ (.int .i64 k1)) := O1.trans (Out.put hgpos.1 hgpos.2)
      replace hrest := hrest.stays (Stays.put9 (g := g) (i := j * 2 + 1) (v := .int .i64 k1) (by omega))
      go_upto_region 8 with fail
      generalize W1.setCell ⟨g, j * 2 + 1, none⟩ (.int .i64 k1) = W2 at *
      clear z q X1 O1
      obtain ⟨k2, hk2⟩ : ∃ z, z = k1 + 1 := ⟨_, rfl⟩
      rw [← hk2]
      have kl2 : k1 ≤ k2 ∧ k2 ≤ k1 + 1 := by omega
      clear hk2
      have HS1 : Hid (MkSt 2 (l.map Ag.fl) w lo hi g T W2 (j + 1)) := ⟨⟨pre ++ [.bool (kc % 3 == 0), .int .i64 k1], rest', mid', by simpa [List.append_assoc] using X2, by simp [hp, Nat.add_mul], hrest, by omega, by omega⟩, O2⟩
      have HK1 : Hid (k2 ≤ k + 8 * (((j + 1 : Nat) : Int) + (rowsLen ((l.map Ag.fl).take (j + 1)) : Int))) := by show _ ≤ _; rw [HNX.out]; omega
      have hkf : k ≤ k2 := by omega
      clear X2 O2 hrest hkd hkd1
      go_wp2_with fail
      go_roundw
      case rel => exact ⟨j + 1, k2, by omega, by go_num, rfl, hkf, HK1, HS1⟩
      case measure => simp [intOf]; omega
    · have : n = j := by omega
      subst this
      have hkd1 := hkd.out
      rw [List.take_of_length_le (by rw [show (l.map Ag.fl).length = l.length by simp [exs_map, sts_map, txts], HNL.out]; exact Nat.le_refl _), HRL.out] at hkd1
      go_wp2_with fail
      go_ret
      exact ⟨⟨kc, rfl, hkc, by omega⟩, hst.out.out⟩


set_option maxHeartbeats 8000000 in
theorem mkWordS (l : List (Wo)) : MkF 30 (.l 7 (l.map Wo.fl)) := by
  intro w lo hi v k hv hh hk0 hk1
  unfold Fl.Has at hv
  obtain ⟨g, vs, T, rfl, hg1, hg2, hgb, hm, hrows⟩ := hv
  have hml : (l.map Wo.fl).length = l.length := by simp [exs_map, sts_map, txts]
  simp only [Fl.len] at hk1 ⊢
  rw [hml] at hk1 hm ⊢
  obtain ⟨n, hn⟩ : ∃ z, z = l.length := ⟨_, rfl⟩
  rw [← hn] at hk1 hm hml ⊢
  have HNL : Hid (l.length = n) := hn.symm
  clear hn
  have hn9 : n ≤ 9223372036854775807 := by unfold maxLen at hm; omega
  generalize hRL : rowsLen (l.map Wo.fl) = RL at *
  have HRL : Hid (rowsLen (l.map Wo.fl) = RL) := hRL
  clear hRL
  have HS0 : Hid (MkSt 7 (l.map Wo.fl) w lo hi g T w 0) := ⟨⟨[], vs, g + 1, hgb, by simp, by simpa using hrows, by omega, by omega⟩, Out.refl _ _ _⟩
  clear hgb hrows hml
  go_enter Try.func30, Try.ntmps30
  go_wp2_with fail
  go_loopw [1, 5] (fun kk i wr => ∃ (j : Nat) (kc : Int), j ≤ n ∧ i = .int .i64 j ∧ kk = .int .i64 kc ∧ k ≤ kc ∧ Hid (kc ≤ k + 8 * ((j : Int) + (rowsLen ((l.map Wo.fl).take j) : Int))) ∧ Hid (MkSt 7 (l.map Wo.fl) w lo hi g T wr j)) (fun _ i _ => n - (intOf i).toNat)
  case atStart => exact ⟨0, k, Nat.zero_le _, rfl, rfl, Int.le_refl _, by show k ≤ _; simp [rowsLen], HS0⟩
  case round =>
    obtain ⟨j, kc, hj, rfl, rfl, hkc, hkd, hst⟩ := hrel
    clear HS0
    by_cases hlt : j < n
    · obtain ⟨x, hx⟩ : ∃ x, l[j]? = some x := ⟨l[j]'(by rw [HNL.out]; exact hlt), List.getElem?_eq_getElem _⟩
      have hxj : (l.map Wo.fl)[j]? = some x.fl := by rw [List.getElem?_map, hx]; rfl
      obtain ⟨⟨pre, rest, mid, XB, hp, hr, hm1, hm2⟩, HO⟩ := hst.out
      rw [drop_at hxj] at hr
      unfold RowsHas at hr
      obtain ⟨us, rest', mid', rfl, hul, hA, hB, hrec, hrest⟩ := hr
      have hnx := rowsLen_next hxj
      have htk := rowsLen_take (l.map Wo.fl) (j + 1)
      rw [hnx, HRL.out] at htk
      have hkd1 := hkd.out
      unfold Wo.fl at hrec
      simp only [RecHas] at hrec
      obtain ⟨u0, _, m0, rfl, ha0, hb0, h0, u1, _, m1, rfl, ha1, hb1, h1, u2, _, m2, rfl, ha2, hb2, h2, u3, _, m3, rfl, ha3, hb3, h3, u4, _, m4, rfl, ha4, hb4, h4, u5, _, m5, rfl, ha5, hb5, h5, u6, _, m6, rfl, ha6, hb6, h6, rfl⟩ := hrec
      have hrl : recLen (x.fl) = Fl.len (.t x.t) + Fl.len (.n x.n) + Fl.len (.n x.l) + Fl.len (.n x.h) + Fl.len (.n x.a) + Fl.len (.n x.p) + Fl.len (.n x.s) := by simp [Wo.fl, recLen, Fl.len, Nat.add_assoc]
      have HNX : Hid (rowsLen ((l.map Wo.fl).take (j + 1)) = rowsLen ((l.map Wo.fl).take j) + (Fl.len (.t x.t) + Fl.len (.n x.n) + Fl.len (.n x.l) + Fl.len (.n x.h) + Fl.len (.n x.a) + Fl.len (.n x.p) + Fl.len (.n x.s))) := by show _ = _; rw [hnx, hrl]
      rw [hrl] at htk
      clear hx hxj hnx hrl hst
      have hgl := XB.lt
      have hsz := HO.size
      have hgpos : lo ≤ g ∧ g < hi := ⟨hg1, by omega⟩
      unfold Fl.Has at h0
      subst h0
      unfold Fl.Has at h1
      subst h1
      unfold Fl.Has at h2
      subst h2
      unfold Fl.Has at h3
      subst h3
      unfold Fl.Has at h4
      subst h4
      unfold Fl.Has at h5
      subst h5
      unfold Fl.Has at h6
      subst h6
      have hK0 : 0 ≤ kc := by omega
      have z := XB.free (j * 7)
      have q : wr.cell? ⟨g, j * 7, none⟩ = some (.bool x.t) := XB.cell (at_mid (i := 0) hp rfl)
      have X1 : Blk (wr.setCell ⟨g, j * 7, none⟩ (.bool (kc % 3 == 0))) g T (pre ++ ([.bool (kc % 3 == 0), .int .i64 x.n, .int .i64 x.l, .int .i64 x.h, .int .i64 x.a, .int .i64 x.p, .int .i64 x.s] ++ rest')) := by
        have := XB.set (i := j * 7 + 0) (.bool (kc % 3 == 0))
        rw [set_mid hp (by simp)] at this
        exact this
      have O1 : Out lo hi w (wr.setCell ⟨g, j * 7, none⟩ (.bool (kc % 3 == 0))) := HO.trans (Out.put hgpos.1 hgpos.2)
      replace hrest := hrest.stays (Stays.put9 (g := g) (i := j * 7) (v := .bool (kc % 3 == 0)) (by omega))
      go_upto_region 6 with fail
      generalize wr.setCell ⟨g, j * 7, none⟩ (.bool (kc % 3 == 0)) = W1 at *
      clear z q XB HO
      obtain ⟨k1, hk1⟩ : ∃ z, z = kc + 1 := ⟨_, rfl⟩
      rw [← hk1]
      have kl1 : kc ≤ k1 ∧ k1 ≤ kc + 1 := by omega
      clear hk1
      have z := X1.free (j * 7 + 1)
      have q : W1.cell? ⟨g, j * 7 + 1, none⟩ = some (.int .i64 x.n) := X1.cell (at_mid (i := 1) hp rfl)
      have X2 : Blk (W1.setCell ⟨g, j * 7 + 1, none⟩ (.int .i64 k1)) g T (pre ++ ([.bool (kc % 3 == 0), .int .i64 k1, .int .i64 x.l, .int .i64 x.h, .int .i64 x.a, .int .i64 x.p, .int .i64 x.s] ++ rest')) := by
        have := X1.set (i := j * 7 + 1) (.int .i64 k1)
        rw [set_mid hp (by simp)] at this
        exact this
      have O2 : Out lo hi w (W1.setCell ⟨g, j * 7 + 1, none⟩ (.int .i64 k1)) := O1.trans (Out.put hgpos.1 hgpos.2)
      replace hrest := hrest.stays (Stays.put9 (g := g) (i := j * 7 + 1) (v := .int .i64 k1) (by omega))
      go_upto_region 8 with fail
      generalize W1.setCell ⟨g, j * 7 + 1, none⟩ (.int .i64 k1) = W2 at *
      clear z q X1 O1
      obtain ⟨k2, hk2⟩ : ∃ z, z = k1 + 1 := ⟨_, rfl⟩
      rw [← hk2]
      have kl2 : k1 ≤ k2 ∧ k2 ≤ k1 + 1 := by omega
      clear hk2
      have z := X2.free (j * 7 + 2)
      have q : W2.cell? ⟨g, j * 7 + 2, none⟩ = some (.int .i64 x.l) := X2.cell (at_mid (i := 2) hp rfl)
      have X3 : Blk (W2.setCell ⟨g, j * 7 + 2, none⟩ (.int .i64 k2)) g T (pre ++ ([.bool (kc % 3 == 0), .int .i64 k1, .int .i64 k2, .int .i64 x.h, .int .i64 x.a, .int .i64 x.p, .int .i64 x.s] ++ rest')) := by
        have := X2.set (i := j * 7 + 2) (.int .i64 k2)
        rw [set_mid hp (by simp)] at this
        exact this
      have O3 : Out lo hi w (W2.setCell ⟨g, j * 7 + 2, none⟩ (.int .i64 k2)) := O2.trans (Out.put hgpos.1 hgpos.2)
      replace hrest := hrest.stays (Stays.put9 (g := g) (i := j * 7 + 2) (v := .int .i64 k2) (by omega))
      go_upto_region 10 with fail
      generalize W2.setCell ⟨g, j * 7 + 2, none⟩ (.int .i64 k2) = W3 at *
      clear z q X2 O2
      obtain ⟨k3, hk3⟩ : ∃ z, z = k2 + 1 := ⟨_, rfl⟩
      rw [← hk3]
      have kl3 : k2 ≤ k3 ∧ k3 ≤ k2 + 1 := by omega
      clear hk3
      have z := X3.free (j * 7 + 3)
      have q : W3.cell? ⟨g, j * 7 + 3, none⟩ = some (.int .i64 x.h) := X3.cell (at_mid (i := 3) hp rfl)
      have X4 : Blk (W3.setCell ⟨g, j * 7 + 3, none⟩ (.int .i64 k3)) g T (pre ++ ([.bool (kc % 3 == 0), .int .i64 k1, .int .i64 k2, .int .i64 k3, .int .i64 x.a, .int .i64 x.p, .int .i64 x.s] ++ rest')) := by
        have := X3.set (i := j * 7 + 3) (.int .i64 k3)
        rw [set_mid hp (by simp)] at this
        exact this
      have O4 : Out lo hi w (W3.setCell ⟨g, j * 7 + 3, none⟩ (.int .i64 k3)) := O3.trans (Out.put hgpos.1 hgpos.2)
      replace hrest := hrest.stays (Stays.put9 (g := g) (i := j * 7 + 3) (v := .int .i64 k3) (by omega))
      go_upto_region 12 with fail
      generalize W3.setCell ⟨g, j * 7 + 3, none⟩ (.int .i64 k3) = W4 at *
      clear z q X3 O3
      obtain ⟨k4, hk4⟩ : ∃ z, z = k3 + 1 := ⟨_, rfl⟩
      rw [← hk4]
      have kl4 : k3 ≤ k4 ∧ k4 ≤ k3 + 1 := by omega
      clear hk4
      have z := X4.free (j * 7 + 4)
      have q : W4.cell? ⟨g, j * 7 + 4, none⟩ = some (.int .i64 x.a) := X4.cell (at_mid (i := 4) hp rfl)
      have X5 : Blk (W4.setCell ⟨g, j * 7 + 4, none⟩ (.int .i64 k4)) g T (pre ++ ([.bool (kc % 3 == 0), .int .i64 k1, .int .i64 k2, .int .i64 k3, .int .i64 k4, .int .i64 x.p, .int .i64 x.s] ++ rest')) := by
        have := X4.set (i := j * 7 + 4) (.int .i64 k4)
        rw [set_mid hp (by simp)] at this
        exact this
      have O5 : Out lo hi w (W4.setCell ⟨g, j * 7 + 4, none⟩ (.int .i64 k4)) := O4.trans (Out.put hgpos.1 hgpos.2)
      replace hrest := hrest.stays (Stays.put9 (g := g) (i := j * 7 + 4) (v := .int .i64 k4) (by omega))
      go_upto_region 14 with fail
      generalize W4.setCell ⟨g, j * 7 + 4, none⟩ (.int .i64 k4) = W5 at *
      clear z q X4 O4
      obtain ⟨k5, hk5⟩ : ∃ z, z = k4 + 1 := ⟨_, rfl⟩
      rw [← hk5]
      have kl5 : k4 ≤ k5 ∧ k5 ≤ k4 + 1 := by omega
      clear hk5
      have z := X5.free (j * 7 + 5)
      have q : W5.cell? ⟨g, j * 7 + 5, none⟩ = some (.int .i64 x.p) := X5.cell (at_mid (i := 5) hp rfl)
      have X6 : Blk (W5.setCell ⟨g, j * 7 + 5, none⟩ (.int .i64 k5)) g T (pre ++ ([.bool (kc % 3 == 0), .int .i64 k1, .int .i64 k2, .int .i64 k3, .int .i64 k4, .int .i64 k5, .int .i64 x.s] ++ rest')) := by
        have := X5.set (i := j * 7 + 5) (.int .i64 k5)
        rw [set_mid hp (by simp)] at this
        exact this
      have O6 : Out lo hi w (W5.setCell ⟨g, j * 7 + 5, none⟩ (.int .i64 k5)) := O5.trans (Out.put hgpos.1 hgpos.2)
      replace hrest := hrest.stays (Stays.put9 (g := g) (i := j * 7 + 5) (v := .int .i64 k5) (by omega))
      go_upto_region 16 with fail
      generalize W5.setCell ⟨g, j * 7 + 5, none⟩ (.int .i64 k5) = W6 at *
      clear z q X5 O5
      obtain ⟨k6, hk6⟩ : ∃ z, z = k5 + 1 := ⟨_, rfl⟩
      rw [← hk6]
      have kl6 : k5 ≤ k6 ∧ k6 ≤ k5 + 1 := by omega
      clear hk6
      have z := X6.free (j * 7 + 6)
      have q : W6.cell? ⟨g, j * 7 + 6, none⟩ = some (.int .i64 x.s) := X6.cell (at_mid (i := 6) hp rfl)
      have X7 : Blk (W6.setCell ⟨g, j * 7 + 6, none⟩ (.int .i64 k6)) g T (pre ++ ([.bool (kc % 3 == 0), .int .i64 k1, .int .i64 k2, .int .i64 k3, .int .i64 k4, .int .i64 k5, .int .i64 k6] ++ rest')) := by
        have := X6.set (i := j * 7 + 6) (.int .i64 k6)
        rw [set_mid hp (by simp)] at this
        exact this
      have O7 : Out lo hi w (W6.setCell ⟨g, j * 7 + 6, none⟩ (.int .i64 k6)) := O6.trans (Out.put hgpos.1 hgpos.2)
      replace hrest := hrest.stays (Stays.put9 (g := g) (i := j * 7 + 6) (v := .int .i64 k6) (by omega))
      go_upto_region 18 with fail
      generalize W6.setCell ⟨g, j * 7 + 6, none⟩ (.int .i64 k6) = W7 at *
      clear z q X6 O6
      obtain ⟨k7, hk7⟩ : ∃ z, z = k6 + 1 := ⟨_, rfl⟩
      rw [← hk7]
      have kl7 : k6 ≤ k7 ∧ k7 ≤ k6 + 1 := by omega
      clear hk7
      have HS1 : Hid (MkSt 7 (l.map Wo.fl) w lo hi g T W7 (j + 1)) := ⟨⟨pre ++ [.bool (kc % 3 == 0), .int .i64 k1, .int .i64 k2, .int .i64 k3, .int .i64 k4, .int .i64 k5, .int .i64 k6], rest', mid', by simpa [List.append_assoc] using X7, by simp [hp, Nat.add_mul], hrest, by omega, by omega⟩, O7⟩
      have HK1 : Hid (k7 ≤ k + 8 * (((j + 1 : Nat) : Int) + (rowsLen ((l.map Wo.fl).take (j + 1)) : Int))) := by show _ ≤ _; rw [HNX.out]; omega
      have hkf : k ≤ k7 := by omega
      clear X7 O7 hrest hkd hkd1
      go_wp2_with fail
      go_roundw
      case rel => exact ⟨j + 1, k7, by omega, by go_num, rfl, hkf, HK1, HS1⟩
      case measure => simp [intOf]; omega
    · have : n = j := by omega
      subst this
      have hkd1 := hkd.out
      rw [List.take_of_length_le (by rw [show (l.map Wo.fl).length = l.length by simp [exs_map, sts_map, txts], HNL.out]; exact Nat.le_refl _), HRL.out] at hkd1
      go_wp2_with fail
      go_ret
      exact ⟨⟨kc, rfl, hkc, by omega⟩, hst.out.out⟩


set_option maxHeartbeats 8000000 in
theorem mkEventS (l : List (Ev)) : MkF 29 (.l 6 (l.map Ev.fl)) := by
  intro w lo hi v k hv hh hk0 hk1
  unfold Fl.Has at hv
  obtain ⟨g, vs, T, rfl, hg1, hg2, hgb, hm, hrows⟩ := hv
  have hml : (l.map Ev.fl).length = l.length := by simp [exs_map, sts_map, txts]
  simp only [Fl.len] at hk1 ⊢
  rw [hml] at hk1 hm ⊢
  obtain ⟨n, hn⟩ : ∃ z, z = l.length := ⟨_, rfl⟩
  rw [← hn] at hk1 hm hml ⊢
  have HNL : Hid (l.length = n) := hn.symm
  clear hn
  have hn9 : n ≤ 9223372036854775807 := by unfold maxLen at hm; omega
  generalize hRL : rowsLen (l.map Ev.fl) = RL at *
  have HRL : Hid (rowsLen (l.map Ev.fl) = RL) := hRL
  clear hRL
  have HS0 : Hid (MkSt 6 (l.map Ev.fl) w lo hi g T w 0) := ⟨⟨[], vs, g + 1, hgb, by simp, by simpa using hrows, by omega, by omega⟩, Out.refl _ _ _⟩
  clear hgb hrows hml
  go_enter Try.func29, Try.ntmps29
  go_wp2_with fail
  go_loopw [1, 5] (fun kk i wr => ∃ (j : Nat) (kc : Int), j ≤ n ∧ i = .int .i64 j ∧ kk = .int .i64 kc ∧ k ≤ kc ∧ Hid (kc ≤ k + 8 * ((j : Int) + (rowsLen ((l.map Ev.fl).take j) : Int))) ∧ Hid (MkSt 6 (l.map Ev.fl) w lo hi g T wr j)) (fun _ i _ => n - (intOf i).toNat)
  case atStart => exact ⟨0, k, Nat.zero_le _, rfl, rfl, Int.le_refl _, by show k ≤ _; simp [rowsLen], HS0⟩
  case round =>
    obtain ⟨j, kc, hj, rfl, rfl, hkc, hkd, hst⟩ := hrel
    clear HS0
    by_cases hlt : j < n
    · obtain ⟨x, hx⟩ : ∃ x, l[j]? = some x := ⟨l[j]'(by rw [HNL.out]; exact hlt), List.getElem?_eq_getElem _⟩
      have hxj : (l.map Ev.fl)[j]? = some x.fl := by rw [List.getElem?_map, hx]; rfl
      obtain ⟨⟨pre, rest, mid, XB, hp, hr, hm1, hm2⟩, HO⟩ := hst.out
      rw [drop_at hxj] at hr
      unfold RowsHas at hr
      obtain ⟨us, rest', mid', rfl, hul, hA, hB, hrec, hrest⟩ := hr
      have hnx := rowsLen_next hxj
      have htk := rowsLen_take (l.map Ev.fl) (j + 1)
      rw [hnx, HRL.out] at htk
      have hkd1 := hkd.out
      unfold Ev.fl at hrec
      simp only [RecHas] at hrec
      obtain ⟨u0, _, m0, rfl, ha0, hb0, h0, u1, _, m1, rfl, ha1, hb1, h1, u2, _, m2, rfl, ha2, hb2, h2, u3, _, m3, rfl, ha3, hb3, h3, u4, _, m4, rfl, ha4, hb4, h4, u5, _, m5, rfl, ha5, hb5, h5, rfl⟩ := hrec
      have hrl : recLen (x.fl) = Fl.len (.n x.kind) + Fl.len (.n x.fr) + Fl.len (.n x.to) + Fl.len (.n x.proc) + Fl.len (.l 2 (x.args.map Ag.fl)) + Fl.len (.n x.n) := by simp [Ev.fl, recLen, Fl.len, Nat.add_assoc]
      have HNX : Hid (rowsLen ((l.map Ev.fl).take (j + 1)) = rowsLen ((l.map Ev.fl).take j) + (Fl.len (.n x.kind) + Fl.len (.n x.fr) + Fl.len (.n x.to) + Fl.len (.n x.proc) + Fl.len (.l 2 (x.args.map Ag.fl)) + Fl.len (.n x.n))) := by show _ = _; rw [hnx, hrl]
      rw [hrl] at htk
      clear hx hxj hnx hrl hst
      have hgl := XB.lt
      have hsz := HO.size
      have hgpos : lo ≤ g ∧ g < hi := ⟨hg1, by omega⟩
      unfold Fl.Has at h0
      subst h0
      unfold Fl.Has at h1
      subst h1
      unfold Fl.Has at h2
      subst h2
      unfold Fl.Has at h3
      subst h3
      unfold Fl.Has at h5
      subst h5
      have hK0 : 0 ≤ kc := by omega
      have z := XB.free (j * 6)
      have q : wr.cell? ⟨g, j * 6, none⟩ = some (.int .i64 x.kind) := XB.cell (at_mid (i := 0) hp rfl)
      have X1 : Blk (wr.setCell ⟨g, j * 6, none⟩ (.int .i64 kc)) g T (pre ++ ([.int .i64 kc, .int .i64 x.fr, .int .i64 x.to, .int .i64 x.proc, u4, .int .i64 x.n] ++ rest')) := by
        have := XB.set (i := j * 6 + 0) (.int .i64 kc)
        rw [set_mid hp (by simp)] at this
        exact this
      have O1 : Out lo hi w (wr.setCell ⟨g, j * 6, none⟩ (.int .i64 kc)) := HO.trans (Out.put hgpos.1 hgpos.2)
      replace h4 := h4.stays (Stays.put9 (g := g) (i := j * 6) (v := .int .i64 kc) (by omega))
      replace hrest := hrest.stays (Stays.put9 (g := g) (i := j * 6) (v := .int .i64 kc) (by omega))
      go_upto_region 6 with fail
      generalize wr.setCell ⟨g, j * 6, none⟩ (.int .i64 kc) = W1 at *
      clear z q XB HO
      obtain ⟨k1, hk1⟩ : ∃ z, z = kc + 1 := ⟨_, rfl⟩
      rw [← hk1]
      have kl1 : kc ≤ k1 ∧ k1 ≤ kc + 1 := by omega
      clear hk1
      have z := X1.free (j * 6 + 1)
      have q : W1.cell? ⟨g, j * 6 + 1, none⟩ = some (.int .i64 x.fr) := X1.cell (at_mid (i := 1) hp rfl)
      have X2 : Blk (W1.setCell ⟨g, j * 6 + 1, none⟩ (.int .i64 k1)) g T (pre ++ ([.int .i64 kc, .int .i64 k1, .int .i64 x.to, .int .i64 x.proc, u4, .int .i64 x.n] ++ rest')) := by
        have := X1.set (i := j * 6 + 1) (.int .i64 k1)
        rw [set_mid hp (by simp)] at this
        exact this
      have O2 : Out lo hi w (W1.setCell ⟨g, j * 6 + 1, none⟩ (.int .i64 k1)) := O1.trans (Out.put hgpos.1 hgpos.2)
      replace h4 := h4.stays (Stays.put9 (g := g) (i := j * 6 + 1) (v := .int .i64 k1) (by omega))
      replace hrest := hrest.stays (Stays.put9 (g := g) (i := j * 6 + 1) (v := .int .i64 k1) (by omega))
      go_upto_region 8 with fail
      generalize W1.setCell ⟨g, j * 6 + 1, none⟩ (.int .i64 k1) = W2 at *
      clear z q X1 O1
      obtain ⟨k2, hk2⟩ : ∃ z, z = k1 + 1 := ⟨_, rfl⟩
      rw [← hk2]
      have kl2 : k1 ≤ k2 ∧ k2 ≤ k1 + 1 := by omega
      clear hk2
      have z := X2.free (j * 6 + 2)
      have q : W2.cell? ⟨g, j * 6 + 2, none⟩ = some (.int .i64 x.to) := X2.cell (at_mid (i := 2) hp rfl)
      have X3 : Blk (W2.setCell ⟨g, j * 6 + 2, none⟩ (.int .i64 k2)) g T (pre ++ ([.int .i64 kc, .int .i64 k1, .int .i64 k2, .int .i64 x.proc, u4, .int .i64 x.n] ++ rest')) := by
        have := X2.set (i := j * 6 + 2) (.int .i64 k2)
        rw [set_mid hp (by simp)] at this
        exact this
      have O3 : Out lo hi w (W2.setCell ⟨g, j * 6 + 2, none⟩ (.int .i64 k2)) := O2.trans (Out.put hgpos.1 hgpos.2)
      replace h4 := h4.stays (Stays.put9 (g := g) (i := j * 6 + 2) (v := .int .i64 k2) (by omega))
      replace hrest := hrest.stays (Stays.put9 (g := g) (i := j * 6 + 2) (v := .int .i64 k2) (by omega))
      go_upto_region 10 with fail
      generalize W2.setCell ⟨g, j * 6 + 2, none⟩ (.int .i64 k2) = W3 at *
      clear z q X2 O2
      obtain ⟨k3, hk3⟩ : ∃ z, z = k2 + 1 := ⟨_, rfl⟩
      rw [← hk3]
      have kl3 : k2 ≤ k3 ∧ k3 ≤ k2 + 1 := by omega
      clear hk3
      have z := X3.free (j * 6 + 3)
      have q : W3.cell? ⟨g, j * 6 + 3, none⟩ = some (.int .i64 x.proc) := X3.cell (at_mid (i := 3) hp rfl)
      have X4 : Blk (W3.setCell ⟨g, j * 6 + 3, none⟩ (.int .i64 k3)) g T (pre ++ ([.int .i64 kc, .int .i64 k1, .int .i64 k2, .int .i64 k3, u4, .int .i64 x.n] ++ rest')) := by
        have := X3.set (i := j * 6 + 3) (.int .i64 k3)
        rw [set_mid hp (by simp)] at this
        exact this
      have O4 : Out lo hi w (W3.setCell ⟨g, j * 6 + 3, none⟩ (.int .i64 k3)) := O3.trans (Out.put hgpos.1 hgpos.2)
      replace h4 := h4.stays (Stays.put9 (g := g) (i := j * 6 + 3) (v := .int .i64 k3) (by omega))
      replace hrest := hrest.stays (Stays.put9 (g := g) (i := j * 6 + 3) (v := .int .i64 k3) (by omega))
      go_upto_region 12 with fail
      generalize W3.setCell ⟨g, j * 6 + 3, none⟩ (.int .i64 k3) = W4 at *
      clear z q X3 O3
      obtain ⟨k4, hk4⟩ : ∃ z, z = k3 + 1 := ⟨_, rfl⟩
      rw [← hk4]
      have kl4 : k3 ≤ k4 ∧ k4 ≤ k3 + 1 := by omega
      clear hk4
      have q : W4.cell? ⟨g, j * 6 + 4, none⟩ = some u4 := X4.cell (at_mid (i := 4) hp rfl)
      have hsz5 := O4.size
      have HC := (mkArgS x.args) W4 m3 m4 u4 k4 h4 (by omega) (by omega) (by omega)
      clear h4
      go_wp2_with fail
      refine HC.mono ?_
      rintro e W5 ⟨⟨k5, rfl, kl5, km5⟩, hOut⟩
      have X5 := hOut.blk X4 (.inl (by omega))
      have O5 := O4.trans (hOut.wide (lo' := lo) (hi' := hi) (by omega) (by omega))
      replace hrest := hrest.stays (hOut.stays (by omega) (.inr (by omega)))
      clear HC q hOut X4 O4
      go_upto_region 13 with fail
      have z := X5.free (j * 6 + 5)
      have q : W5.cell? ⟨g, j * 6 + 5, none⟩ = some (.int .i64 x.n) := X5.cell (at_mid (i := 5) hp rfl)
      have X6 : Blk (W5.setCell ⟨g, j * 6 + 5, none⟩ (.int .i64 k5)) g T (pre ++ ([.int .i64 kc, .int .i64 k1, .int .i64 k2, .int .i64 k3, u4, .int .i64 k5] ++ rest')) := by
        have := X5.set (i := j * 6 + 5) (.int .i64 k5)
        rw [set_mid hp (by simp)] at this
        exact this
      have O6 : Out lo hi w (W5.setCell ⟨g, j * 6 + 5, none⟩ (.int .i64 k5)) := O5.trans (Out.put hgpos.1 hgpos.2)
      replace hrest := hrest.stays (Stays.put9 (g := g) (i := j * 6 + 5) (v := .int .i64 k5) (by omega))
      go_upto_region 15 with fail
      generalize W5.setCell ⟨g, j * 6 + 5, none⟩ (.int .i64 k5) = W6 at *
      clear z q X5 O5
      obtain ⟨k6, hk6⟩ : ∃ z, z = k5 + 1 := ⟨_, rfl⟩
      rw [← hk6]
      have kl6 : k5 ≤ k6 ∧ k6 ≤ k5 + 1 := by omega
      clear hk6
      have HS1 : Hid (MkSt 6 (l.map Ev.fl) w lo hi g T W6 (j + 1)) := ⟨⟨pre ++ [.int .i64 kc, .int .i64 k1, .int .i64 k2, .int .i64 k3, u4, .int .i64 k5], rest', mid', by simpa [List.append_assoc] using X6, by simp [hp, Nat.add_mul], hrest, by omega, by omega⟩, O6⟩
      have HK1 : Hid (k6 ≤ k + 8 * (((j + 1 : Nat) : Int) + (rowsLen ((l.map Ev.fl).take (j + 1)) : Int))) := by show _ ≤ _; rw [HNX.out]; omega
      have hkf : k ≤ k6 := by omega
      clear X6 O6 hrest hkd hkd1
      go_wp2_with fail
      go_roundw
      case rel => exact ⟨j + 1, k6, by omega, by go_num, rfl, hkf, HK1, HS1⟩
      case measure => simp [intOf]; omega
    · have : n = j := by omega
      subst this
      have hkd1 := hkd.out
      rw [List.take_of_length_le (by rw [show (l.map Ev.fl).length = l.length by simp [exs_map, sts_map, txts], HNL.out]; exact Nat.le_refl _), HRL.out] at hkd1
      go_wp2_with fail
      go_ret
      exact ⟨⟨kc, rfl, hkc, by omega⟩, hst.out.out⟩





set_option maxHeartbeats 4000000 in
theorem mkResult (x : Rs) (w : World) (lo hi : Nat) (us : List Value) (k : Int) (h : RecHas w lo hi x.fl us) (hh : hi ≤ w.heap.size) (hk0 : 0 ≤ k) (hk1 : k + 8 * (recLen x.fl : Int) ≤ 1073741824) :
    Calls Try.prog 12 #[.agg us.toArray, .int .i64 k] w fun e w' => (∃ k' : Int, e = .returned (.int .i64 k') ∧ k ≤ k' ∧ k' ≤ k + 8 * (recLen x.fl : Int)) ∧ Out lo hi w w' := by
  have hrl : recLen x.fl = Fl.len (.n x.fin) + Fl.len (.n x.code) + Fl.len (.n x.who) + Fl.len (.n x.mod) + Fl.len (.n x.low) + Fl.len (.n x.steps) + Fl.len (.l 6 (x.ev.map Ev.fl)) + Fl.len (.l 7 (x.regs.map Wo.fl)) + Fl.len (.l 7 (x.words.map Wo.fl)) + Fl.len (.i x.wrote) + Fl.len (.i x.read) := by simp [Rs.fl, recLen, Fl.len, Nat.add_assoc]
  rw [hrl] at hk1 ⊢
  unfold Rs.fl at h
  simp only [RecHas] at h
  obtain ⟨u0, _, m0, rfl, ha0, hb0, h0, u1, _, m1, rfl, ha1, hb1, h1, u2, _, m2, rfl, ha2, hb2, h2, u3, _, m3, rfl, ha3, hb3, h3, u4, _, m4, rfl, ha4, hb4, h4, u5, _, m5, rfl, ha5, hb5, h5, u6, _, m6, rfl, ha6, hb6, h6, u7, _, m7, rfl, ha7, hb7, h7, u8, _, m8, rfl, ha8, hb8, h8, u9, _, m9, rfl, ha9, hb9, h9, u10, _, m10, rfl, ha10, hb10, h10, rfl⟩ := h
  clear hrl
  have x0 := Blk.new w 35 [u0, u1, u2, u3, u4, u5, u6, u7, u8, u9, u10]
  have O0 : Out lo hi w (w.alloc (.cells #[u0, u1, u2, u3, u4, u5, u6, u7, u8, u9, u10] 35 (0, 0))) := Out.grown (grown_alloc w _ none)
  replace h6 := h6.stays (Stays.of (hi := m6) (below_grown (grown_alloc w (.cells #[u0, u1, u2, u3, u4, u5, u6, u7, u8, u9, u10] 35 (0, 0)) none)) (by omega))
  replace h7 := h7.stays (Stays.of (hi := m7) (below_grown (grown_alloc w (.cells #[u0, u1, u2, u3, u4, u5, u6, u7, u8, u9, u10] 35 (0, 0)) none)) (by omega))
  replace h8 := h8.stays (Stays.of (hi := m8) (below_grown (grown_alloc w (.cells #[u0, u1, u2, u3, u4, u5, u6, u7, u8, u9, u10] 35 (0, 0)) none)) (by omega))
  replace h9 := h9.stays (Stays.of (hi := m9) (below_grown (grown_alloc w (.cells #[u0, u1, u2, u3, u4, u5, u6, u7, u8, u9, u10] 35 (0, 0)) none)) (by omega))
  replace h10 := h10.stays (Stays.of (hi := m10) (below_grown (grown_alloc w (.cells #[u0, u1, u2, u3, u4, u5, u6, u7, u8, u9, u10] 35 (0, 0)) none)) (by omega))
  have hgx : hi ≤ w.heap.size := hh
  go_enter Try.func12, Try.ntmps12
  go_upto_region 1 with fail
  generalize w.alloc (.cells #[u0, u1, u2, u3, u4, u5, u6, u7, u8, u9, u10] 35 (0, 0)) = W0 at *
  obtain ⟨gx, hgx2⟩ : ∃ z, z = w.heap.size := ⟨_, rfl⟩
  rw [← hgx2] at x0 hgx ⊢
  clear hgx2
  have q := x0.cell (i := 6) rfl
  have hsz6 := O0.size
  have HC := (mkEventS x.ev) W0 m5 m6 u6 k h6 (by omega) (by omega) (by omega)
  clear h6
  go_wp2_with fail
  refine HC.mono ?_
  rintro e W1 ⟨⟨k1, rfl, kl1, km1⟩, hOut⟩
  replace x0 := hOut.blk x0 (.inr (by omega))
  have O1 := O0.trans (hOut.wide (lo' := lo) (hi' := hi) (by omega) (by omega))
  replace h7 := h7.stays (hOut.stays (by omega) (.inr (by omega)))
  replace h8 := h8.stays (hOut.stays (by omega) (.inr (by omega)))
  replace h9 := h9.stays (hOut.stays (by omega) (.inr (by omega)))
  replace h10 := h10.stays (hOut.stays (by omega) (.inr (by omega)))
  clear HC q hOut O0
  have q := x0.cell (i := 7) rfl
  have hsz7 := O1.size
  have HC := (mkWordS x.regs) W1 m6 m7 u7 k1 h7 (by omega) (by omega) (by omega)
  clear h7
  go_wp2_with fail
  refine HC.mono ?_
  rintro e W2 ⟨⟨k2, rfl, kl2, km2⟩, hOut⟩
  replace x0 := hOut.blk x0 (.inr (by omega))
  have O2 := O1.trans (hOut.wide (lo' := lo) (hi' := hi) (by omega) (by omega))
  replace h8 := h8.stays (hOut.stays (by omega) (.inr (by omega)))
  replace h9 := h9.stays (hOut.stays (by omega) (.inr (by omega)))
  replace h10 := h10.stays (hOut.stays (by omega) (.inr (by omega)))
  clear HC q hOut O1
  have q := x0.cell (i := 8) rfl
  have hsz8 := O2.size
  have HC := (mkWordS x.words) W2 m7 m8 u8 k2 h8 (by omega) (by omega) (by omega)
  clear h8
  go_wp2_with fail
  refine HC.mono ?_
  rintro e W3 ⟨⟨k3, rfl, kl3, km3⟩, hOut⟩
  replace x0 := hOut.blk x0 (.inr (by omega))
  have O3 := O2.trans (hOut.wide (lo' := lo) (hi' := hi) (by omega) (by omega))
  replace h9 := h9.stays (hOut.stays (by omega) (.inr (by omega)))
  replace h10 := h10.stays (hOut.stays (by omega) (.inr (by omega)))
  clear HC q hOut O2
  have q := x0.cell (i := 9) rfl
  have hsz9 := O3.size
  have HC := (mkInt x.wrote (by (try simp only [Fl.len] at hk1); omega)) W3 m8 m9 u9 k3 h9 (by omega) (by omega) (by omega)
  clear h9
  go_wp2_with fail
  refine HC.mono ?_
  rintro e W4 ⟨⟨k4, rfl, kl4, km4⟩, hOut⟩
  replace x0 := hOut.blk x0 (.inr (by omega))
  have O4 := O3.trans (hOut.wide (lo' := lo) (hi' := hi) (by omega) (by omega))
  replace h10 := h10.stays (hOut.stays (by omega) (.inr (by omega)))
  clear HC q hOut O3
  have q := x0.cell (i := 10) rfl
  have hsz10 := O4.size
  have HC := (mkInt x.read (by (try simp only [Fl.len] at hk1); omega)) W4 m9 m10 u10 k4 h10 (by omega) (by omega) (by omega)
  clear h10
  go_wp2_with fail
  refine HC.mono ?_
  rintro e W5 ⟨⟨k5, rfl, kl5, km5⟩, hOut⟩
  replace x0 := hOut.blk x0 (.inr (by omega))
  have O5 := O4.trans (hOut.wide (lo' := lo) (hi' := hi) (by omega) (by omega))
  clear HC q hOut O4
  have hf1 : k ≤ k5 := by omega
  have hf2 : k5 ≤ k + 8 * ((Fl.len (.n x.fin) + Fl.len (.n x.code) + Fl.len (.n x.who) + Fl.len (.n x.mod) + Fl.len (.n x.low) + Fl.len (.n x.steps) + Fl.len (.l 6 (x.ev.map Ev.fl)) + Fl.len (.l 7 (x.regs.map Wo.fl)) + Fl.len (.l 7 (x.words.map Wo.fl)) + Fl.len (.i x.wrote) + Fl.len (.i x.read) : Nat) : Int) := by omega
  go_wp2_with fail
  go_ret
  exact ⟨⟨k5, rfl, hf1, hf2⟩, O5⟩

end Go.Proofs.Ytpkbeeicffoaoaa

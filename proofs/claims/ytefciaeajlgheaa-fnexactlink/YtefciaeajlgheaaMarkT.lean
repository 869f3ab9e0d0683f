/- Trees of one's own are marked: what else there is stays. By mkmarkt.py. -/
import Derived.Test.YtefciaeajlgheaaTreeTo2
import Derived.Test.YtefciaeajlgheaaAll
namespace Go.Proofs.Ytefciaeajlgheaa
open Go.RowKit
set_option linter.unusedVariables false
set_option linter.unusedSimpArgs false
set_option maxRecDepth 100000

/-- Nothing that was there has changed but blocks from lo up to hi. -/
structure Out (lo hi : Nat) (w w' : World) : Prop where
  os : w'.os = w.os
  tape : w'.tape = w.tape
  output : w'.output = w.output
  size : w.heap.size ≤ w'.heap.size
  block : ∀ g, g < w.heap.size → (g < lo ∨ hi ≤ g) → w'.heap[g]? = w.heap[g]?
theorem Out.refl (lo hi : Nat) (w : World) : Out lo hi w w := ⟨rfl, rfl, rfl, Nat.le_refl _, fun _ _ _ => rfl⟩
theorem Out.trans {lo hi : Nat} {a b c : World} (h : Out lo hi a b) (k : Out lo hi b c) : Out lo hi a c :=
  ⟨k.os.trans h.os, k.tape.trans h.tape, k.output.trans h.output, Nat.le_trans h.size k.size, fun g hg ho => (k.block g (Nat.lt_of_lt_of_le hg h.size) ho).trans (h.block g hg ho)⟩
theorem Out.wide {lo hi lo' hi' : Nat} {a b : World} (h : Out lo hi a b) (h1 : lo' ≤ lo) (h2 : hi ≤ hi') : Out lo' hi' a b := ⟨h.os, h.tape, h.output, h.size, fun g hg ho => h.block g hg (by omega)⟩
theorem Out.put {lo hi g i : Nat} {w : World} {v : Value} (h1 : lo ≤ g) (h2 : g < hi) : Out lo hi w (w.setCell ⟨g, i, none⟩ v) :=
  ⟨rfl, rfl, rfl, by simp, fun k hk ho => heap_setCell_other w ⟨g, i, none⟩ k v (by simp; omega)⟩
theorem Out.stays {a b lo hi : Nat} {w w' : World} (h : Out a b w w') (hs : hi ≤ w.heap.size) (hd : hi ≤ a ∨ b ≤ lo) : Stays lo hi w w' := fun g h1 h2 => h.block g (by omega) (by omega)
theorem Out.blk {a b g : Nat} {w w' : World} {T : TypeId} {vs : List Value} (h : Out a b w w') (hb : Blk w g T vs) (hd : g < a ∨ b ≤ g) : Blk w' g T vs := (h.block g hb.lt hd).trans hb
theorem Out.grown {lo hi : Nat} {w w' : World} (h : w.grownBy w' none) : Out lo hi w w' := ⟨h.os, h.tape, h.output, h.size, fun g hg _ => h.block g hg (by simp)⟩
theorem Stays.put9 {lo hi g i : Nat} {w : World} {v : Value} (h : g < lo) : Stays lo hi w (w.setCell ⟨g, i, none⟩ v) := Stays.put (.inl h)

/-- The function F marks a field of one's own. -/
def MkF (F : Nat) (f : Fl) : Prop := ∀ (w : World) (lo hi : Nat) (v : Value) (k : Int), f.Has w lo hi v → hi ≤ w.heap.size → 0 ≤ k → k + 2 * (f.len : Int) ≤ 1073741824 →
  Calls Try.prog F #[v, .int .i64 k] w fun e w' => (∃ k' : Int, e = .returned (.int .i64 k') ∧ k ≤ k' ∧ k' ≤ k + 2 * (f.len : Int)) ∧ Out lo hi w w'

theorem mkByte (l : List Int) (hl : l.length ≤ 1073741824) : MkF 32 (.b l) := by
  intro w lo hi v k hv hh h0 h1
  unfold Fl.Has at hv
  obtain ⟨g, rfl, h2, h3, h4, h5, h6⟩ := hv
  have ho : Own w lo (.slice (some ⟨g, 0, none⟩) l.length l.length) l.length l := own_of_block h4 h2 h6 h5
  simp only [Fl.len] at h1
  refine (markM lo _ l.length l k w ho hl h0 (by omega)).mono ?_
  rintro e w' ⟨rfl, _, hg⟩
  refine ⟨⟨k + l.length, rfl, by omega, by simp only [Fl.len]; omega⟩, ⟨hg.os, hg.tape, hg.output, hg.size, fun i hi ho => hg.block i hi (fun e => ?_)⟩⟩
  simp only [Value.ownBlock, Option.some.injEq] at e
  omega


/-- How far a row of records has been marked. -/
structure MkSt (K : Nat) (rs : List (List Fl)) (w : World) (lo hi g : Nat) (T : TypeId) (wr : World) (j : Nat) : Prop where
  ex : ∃ (pre rest : List Value) (mid : Nat), Blk wr g T (pre ++ rest) ∧ pre.length = j * K ∧ RowsHas wr K mid hi (rs.drop j) rest ∧ g < mid ∧ mid ≤ hi
  out : Out lo hi w wr

theorem at_mid {pre us rest : List Value} {i n : Nat} {u : Value} (hp : pre.length = n) (h : us[i]? = some u) : (pre ++ (us ++ rest))[n + i]? = some u := by
  have hi := (List.getElem?_eq_some_iff.1 h).1
  rw [← hp, List.getElem?_append_right (by omega), Nat.add_sub_cancel_left, List.getElem?_append_left hi]
  exact h
theorem set_mid {pre us rest : List Value} {i n : Nat} {u : Value} (hp : pre.length = n) (hi : i < us.length) : (pre ++ (us ++ rest)).set (n + i) u = pre ++ (us.set i u ++ rest) := by
  rw [← hp, List.set_append_right _ _ (by omega), Nat.add_sub_cancel_left, List.set_append_left _ _ hi]
theorem drop_at {α : Type} {l : List α} {j : Nat} {x : α} (h : l[j]? = some x) : l.drop j = x :: l.drop (j + 1) := by
  obtain ⟨hj, rfl⟩ := List.getElem?_eq_some_iff.1 h
  exact List.drop_eq_getElem_cons hj







set_option maxHeartbeats 8000000 in
theorem mkExportS (l : List (Xp)) : MkF 33 (.l 3 (l.map Xp.fl)) := by
  intro w lo hi v k hv hh hk0 hk1
  unfold Fl.Has at hv
  obtain ⟨g, vs, T, rfl, hg1, hg2, hgb, hm, hrows⟩ := hv
  have hml : (l.map Xp.fl).length = l.length := by simp [exs_map, sts_map, txts]
  simp only [Fl.len] at hk1 ⊢
  rw [hml] at hk1 hm ⊢
  obtain ⟨n, hn⟩ : ∃ z, z = l.length := ⟨_, rfl⟩
  rw [← hn] at hk1 hm hml ⊢
  have HNL : Hid (l.length = n) := hn.symm
  clear hn
  have hn9 : n ≤ 9223372036854775807 := by unfold maxLen at hm; omega
  generalize hRL : rowsLen (l.map Xp.fl) = RL at *
  have HRL : Hid (rowsLen (l.map Xp.fl) = RL) := hRL
  clear hRL
  have HS0 : Hid (MkSt 3 (l.map Xp.fl) w lo hi g T w 0) := ⟨⟨[], vs, g + 1, hgb, by simp, by simpa using hrows, by omega, by omega⟩, Out.refl _ _ _⟩
  clear hgb hrows hml
  go_enter Try.func33, Try.ntmps33
  go_wp2_with fail
  go_loopw [1, 5] (fun kk i wr => ∃ (j : Nat) (kc : Int), j ≤ n ∧ i = .int .i64 j ∧ kk = .int .i64 kc ∧ k ≤ kc ∧ Hid (kc ≤ k + 2 * ((j : Int) + (rowsLen ((l.map Xp.fl).take j) : Int))) ∧ Hid (MkSt 3 (l.map Xp.fl) w lo hi g T wr j)) (fun _ i _ => n - (intOf i).toNat)
  case atStart => exact ⟨0, k, Nat.zero_le _, rfl, rfl, Int.le_refl _, by show k ≤ _; simp [rowsLen], HS0⟩
  case round =>
    obtain ⟨j, kc, hj, rfl, rfl, hkc, hkd, hst⟩ := hrel
    clear HS0
    by_cases hlt : j < n
    · obtain ⟨x, hx⟩ : ∃ x, l[j]? = some x := ⟨l[j]'(by rw [HNL.out]; exact hlt), List.getElem?_eq_getElem _⟩
      have hxj : (l.map Xp.fl)[j]? = some x.fl := by rw [List.getElem?_map, hx]; rfl
      obtain ⟨⟨pre, rest, mid, XB, hp, hr, hm1, hm2⟩, HO⟩ := hst.out
      rw [drop_at hxj] at hr
      unfold RowsHas at hr
      obtain ⟨us, rest', mid', rfl, hul, hA, hB, hrec, hrest⟩ := hr
      have hnx := rowsLen_next hxj
      have htk := rowsLen_take (l.map Xp.fl) (j + 1)
      rw [hnx, HRL.out] at htk
      have hkd1 := hkd.out
      unfold Xp.fl at hrec
      simp only [RecHas] at hrec
      obtain ⟨u0, _, m0, rfl, ha0, hb0, h0, u1, _, m1, rfl, ha1, hb1, h1, u2, _, m2, rfl, ha2, hb2, h2, rfl⟩ := hrec
      have hrl : recLen (x.fl) = Fl.len (.b x.name) + Fl.len (.n x.print) + Fl.len (.n x.pos) := by simp [Xp.fl, recLen, Fl.len, Nat.add_assoc]
      have HNX : Hid (rowsLen ((l.map Xp.fl).take (j + 1)) = rowsLen ((l.map Xp.fl).take j) + (Fl.len (.b x.name) + Fl.len (.n x.print) + Fl.len (.n x.pos))) := by show _ = _; rw [hnx, hrl]
      rw [hrl] at htk
      clear hx hxj hnx hrl hst
      have hgl := XB.lt
      have hsz := HO.size
      have hgpos : lo ≤ g ∧ g < hi := ⟨hg1, by omega⟩
      unfold Fl.Has at h1
      subst h1
      unfold Fl.Has at h2
      subst h2
      have hK0 : 0 ≤ kc := by omega
      have q : wr.cell? ⟨g, j * 3, none⟩ = some u0 := XB.cell (at_mid (i := 0) hp rfl)
      have hsz1 := HO.size
      have HC := (mkByte x.name (by simp only [Fl.len] at htk; omega)) wr mid m0 u0 kc h0 (by omega) (by omega) (by omega)
      clear h0
      go_wp2_with fail
      refine HC.mono ?_
      rintro e W1 ⟨⟨k1, rfl, kl1, km1⟩, hOut⟩
      have X1 := hOut.blk XB (.inl (by omega))
      have O1 := HO.trans (hOut.wide (lo' := lo) (hi' := hi) (by omega) (by omega))
      replace hrest := hrest.stays (hOut.stays (by omega) (.inr (by omega)))
      clear HC q hOut XB HO
      go_upto_region 5 with fail
      have z := X1.free (j * 3 + 1)
      have q : W1.cell? ⟨g, j * 3 + 1, none⟩ = some (.int .i64 x.print) := X1.cell (at_mid (i := 1) hp rfl)
      have X2 : Blk (W1.setCell ⟨g, j * 3 + 1, none⟩ (.int .i64 k1)) g T (pre ++ ([u0, .int .i64 k1, .int .i64 x.pos] ++ rest')) := by
        have := X1.set (i := j * 3 + 1) (.int .i64 k1)
        rw [set_mid hp (by simp)] at this
        exact this
      have O2 : Out lo hi w (W1.setCell ⟨g, j * 3 + 1, none⟩ (.int .i64 k1)) := O1.trans (Out.put hgpos.1 hgpos.2)
      replace hrest := hrest.stays (Stays.put9 (g := g) (i := j * 3 + 1) (v := .int .i64 k1) (by omega))
      go_upto_region 7 with fail
      generalize W1.setCell ⟨g, j * 3 + 1, none⟩ (.int .i64 k1) = W2 at *
      clear z q X1 O1
      obtain ⟨k2, hk2⟩ : ∃ z, z = k1 + 1 := ⟨_, rfl⟩
      rw [← hk2]
      have kl2 : k1 ≤ k2 ∧ k2 ≤ k1 + 1 := by omega
      clear hk2
      have z := X2.free (j * 3 + 2)
      have q : W2.cell? ⟨g, j * 3 + 2, none⟩ = some (.int .i64 x.pos) := X2.cell (at_mid (i := 2) hp rfl)
      have X3 : Blk (W2.setCell ⟨g, j * 3 + 2, none⟩ (.int .i64 k2)) g T (pre ++ ([u0, .int .i64 k1, .int .i64 k2] ++ rest')) := by
        have := X2.set (i := j * 3 + 2) (.int .i64 k2)
        rw [set_mid hp (by simp)] at this
        exact this
      have O3 : Out lo hi w (W2.setCell ⟨g, j * 3 + 2, none⟩ (.int .i64 k2)) := O2.trans (Out.put hgpos.1 hgpos.2)
      replace hrest := hrest.stays (Stays.put9 (g := g) (i := j * 3 + 2) (v := .int .i64 k2) (by omega))
      go_upto_region 9 with fail
      generalize W2.setCell ⟨g, j * 3 + 2, none⟩ (.int .i64 k2) = W3 at *
      clear z q X2 O2
      obtain ⟨k3, hk3⟩ : ∃ z, z = k2 + 1 := ⟨_, rfl⟩
      rw [← hk3]
      have kl3 : k2 ≤ k3 ∧ k3 ≤ k2 + 1 := by omega
      clear hk3
      have HS1 : Hid (MkSt 3 (l.map Xp.fl) w lo hi g T W3 (j + 1)) := ⟨⟨pre ++ [u0, .int .i64 k1, .int .i64 k2], rest', mid', by simpa [List.append_assoc] using X3, by simp [hp, Nat.add_mul], hrest, by omega, by omega⟩, O3⟩
      have HK1 : Hid (k3 ≤ k + 2 * (((j + 1 : Nat) : Int) + (rowsLen ((l.map Xp.fl).take (j + 1)) : Int))) := by show _ ≤ _; rw [HNX.out]; omega
      have hkf : k ≤ k3 := by omega
      clear X3 O3 hrest hkd hkd1
      go_wp2_with fail
      go_roundw
      case rel => exact ⟨j + 1, k3, by omega, by go_num, rfl, hkf, HK1, HS1⟩
      case measure => simp [intOf]; omega
    · have : n = j := by omega
      subst this
      have hkd1 := hkd.out
      rw [List.take_of_length_le (by rw [show (l.map Xp.fl).length = l.length by simp [exs_map, sts_map, txts], HNL.out]; exact Nat.le_refl _), HRL.out] at hkd1
      go_wp2_with fail
      go_ret
      exact ⟨⟨kc, rfl, hkc, by omega⟩, hst.out.out⟩


set_option maxHeartbeats 8000000 in
theorem mkImportS (l : List (Ip)) : MkF 34 (.l 3 (l.map Ip.fl)) := by
  intro w lo hi v k hv hh hk0 hk1
  unfold Fl.Has at hv
  obtain ⟨g, vs, T, rfl, hg1, hg2, hgb, hm, hrows⟩ := hv
  have hml : (l.map Ip.fl).length = l.length := by simp [exs_map, sts_map, txts]
  simp only [Fl.len] at hk1 ⊢
  rw [hml] at hk1 hm ⊢
  obtain ⟨n, hn⟩ : ∃ z, z = l.length := ⟨_, rfl⟩
  rw [← hn] at hk1 hm hml ⊢
  have HNL : Hid (l.length = n) := hn.symm
  clear hn
  have hn9 : n ≤ 9223372036854775807 := by unfold maxLen at hm; omega
  generalize hRL : rowsLen (l.map Ip.fl) = RL at *
  have HRL : Hid (rowsLen (l.map Ip.fl) = RL) := hRL
  clear hRL
  have HS0 : Hid (MkSt 3 (l.map Ip.fl) w lo hi g T w 0) := ⟨⟨[], vs, g + 1, hgb, by simp, by simpa using hrows, by omega, by omega⟩, Out.refl _ _ _⟩
  clear hgb hrows hml
  go_enter Try.func34, Try.ntmps34
  go_wp2_with fail
  go_loopw [1, 5] (fun kk i wr => ∃ (j : Nat) (kc : Int), j ≤ n ∧ i = .int .i64 j ∧ kk = .int .i64 kc ∧ k ≤ kc ∧ Hid (kc ≤ k + 2 * ((j : Int) + (rowsLen ((l.map Ip.fl).take j) : Int))) ∧ Hid (MkSt 3 (l.map Ip.fl) w lo hi g T wr j)) (fun _ i _ => n - (intOf i).toNat)
  case atStart => exact ⟨0, k, Nat.zero_le _, rfl, rfl, Int.le_refl _, by show k ≤ _; simp [rowsLen], HS0⟩
  case round =>
    obtain ⟨j, kc, hj, rfl, rfl, hkc, hkd, hst⟩ := hrel
    clear HS0
    by_cases hlt : j < n
    · obtain ⟨x, hx⟩ : ∃ x, l[j]? = some x := ⟨l[j]'(by rw [HNL.out]; exact hlt), List.getElem?_eq_getElem _⟩
      have hxj : (l.map Ip.fl)[j]? = some x.fl := by rw [List.getElem?_map, hx]; rfl
      obtain ⟨⟨pre, rest, mid, XB, hp, hr, hm1, hm2⟩, HO⟩ := hst.out
      rw [drop_at hxj] at hr
      unfold RowsHas at hr
      obtain ⟨us, rest', mid', rfl, hul, hA, hB, hrec, hrest⟩ := hr
      have hnx := rowsLen_next hxj
      have htk := rowsLen_take (l.map Ip.fl) (j + 1)
      rw [hnx, HRL.out] at htk
      have hkd1 := hkd.out
      unfold Ip.fl at hrec
      simp only [RecHas] at hrec
      obtain ⟨u0, _, m0, rfl, ha0, hb0, h0, u1, _, m1, rfl, ha1, hb1, h1, u2, _, m2, rfl, ha2, hb2, h2, rfl⟩ := hrec
      have hrl : recLen (x.fl) = Fl.len (.b x.mod) + Fl.len (.b x.name) + Fl.len (.n x.print) := by simp [Ip.fl, recLen, Fl.len, Nat.add_assoc]
      have HNX : Hid (rowsLen ((l.map Ip.fl).take (j + 1)) = rowsLen ((l.map Ip.fl).take j) + (Fl.len (.b x.mod) + Fl.len (.b x.name) + Fl.len (.n x.print))) := by show _ = _; rw [hnx, hrl]
      rw [hrl] at htk
      clear hx hxj hnx hrl hst
      have hgl := XB.lt
      have hsz := HO.size
      have hgpos : lo ≤ g ∧ g < hi := ⟨hg1, by omega⟩
      unfold Fl.Has at h2
      subst h2
      have hK0 : 0 ≤ kc := by omega
      have q : wr.cell? ⟨g, j * 3, none⟩ = some u0 := XB.cell (at_mid (i := 0) hp rfl)
      have hsz1 := HO.size
      have HC := (mkByte x.mod (by simp only [Fl.len] at htk; omega)) wr mid m0 u0 kc h0 (by omega) (by omega) (by omega)
      clear h0
      go_wp2_with fail
      refine HC.mono ?_
      rintro e W1 ⟨⟨k1, rfl, kl1, km1⟩, hOut⟩
      have X1 := hOut.blk XB (.inl (by omega))
      have O1 := HO.trans (hOut.wide (lo' := lo) (hi' := hi) (by omega) (by omega))
      replace h1 := h1.stays (hOut.stays (by omega) (.inr (by omega)))
      replace hrest := hrest.stays (hOut.stays (by omega) (.inr (by omega)))
      clear HC q hOut XB HO
      have q : W1.cell? ⟨g, j * 3 + 1, none⟩ = some u1 := X1.cell (at_mid (i := 1) hp rfl)
      have hsz2 := O1.size
      have HC := (mkByte x.name (by simp only [Fl.len] at htk; omega)) W1 m0 m1 u1 k1 h1 (by omega) (by omega) (by omega)
      clear h1
      go_wp2_with fail
      refine HC.mono ?_
      rintro e W2 ⟨⟨k2, rfl, kl2, km2⟩, hOut⟩
      have X2 := hOut.blk X1 (.inl (by omega))
      have O2 := O1.trans (hOut.wide (lo' := lo) (hi' := hi) (by omega) (by omega))
      replace hrest := hrest.stays (hOut.stays (by omega) (.inr (by omega)))
      clear HC q hOut X1 O1
      go_upto_region 6 with fail
      have z := X2.free (j * 3 + 2)
      have q : W2.cell? ⟨g, j * 3 + 2, none⟩ = some (.int .i64 x.print) := X2.cell (at_mid (i := 2) hp rfl)
      have X3 : Blk (W2.setCell ⟨g, j * 3 + 2, none⟩ (.int .i64 k2)) g T (pre ++ ([u0, u1, .int .i64 k2] ++ rest')) := by
        have := X2.set (i := j * 3 + 2) (.int .i64 k2)
        rw [set_mid hp (by simp)] at this
        exact this
      have O3 : Out lo hi w (W2.setCell ⟨g, j * 3 + 2, none⟩ (.int .i64 k2)) := O2.trans (Out.put hgpos.1 hgpos.2)
      replace hrest := hrest.stays (Stays.put9 (g := g) (i := j * 3 + 2) (v := .int .i64 k2) (by omega))
      go_upto_region 8 with fail
      generalize W2.setCell ⟨g, j * 3 + 2, none⟩ (.int .i64 k2) = W3 at *
      clear z q X2 O2
      obtain ⟨k3, hk3⟩ : ∃ z, z = k2 + 1 := ⟨_, rfl⟩
      rw [← hk3]
      have kl3 : k2 ≤ k3 ∧ k3 ≤ k2 + 1 := by omega
      clear hk3
      have HS1 : Hid (MkSt 3 (l.map Ip.fl) w lo hi g T W3 (j + 1)) := ⟨⟨pre ++ [u0, u1, .int .i64 k2], rest', mid', by simpa [List.append_assoc] using X3, by simp [hp, Nat.add_mul], hrest, by omega, by omega⟩, O3⟩
      have HK1 : Hid (k3 ≤ k + 2 * (((j + 1 : Nat) : Int) + (rowsLen ((l.map Ip.fl).take (j + 1)) : Int))) := by show _ ≤ _; rw [HNX.out]; omega
      have hkf : k ≤ k3 := by omega
      clear X3 O3 hrest hkd hkd1
      go_wp2_with fail
      go_roundw
      case rel => exact ⟨j + 1, k3, by omega, by go_num, rfl, hkf, HK1, HS1⟩
      case measure => simp [intOf]; omega
    · have : n = j := by omega
      subst this
      have hkd1 := hkd.out
      rw [List.take_of_length_le (by rw [show (l.map Ip.fl).length = l.length by simp [exs_map, sts_map, txts], HNL.out]; exact Nat.le_refl _), HRL.out] at hkd1
      go_wp2_with fail
      go_ret
      exact ⟨⟨kc, rfl, hkc, by omega⟩, hst.out.out⟩


set_option maxHeartbeats 8000000 in
theorem mkObjectS (l : List (Oj)) : MkF 10 (.l 5 (l.map Oj.fl)) := by
  intro w lo hi v k hv hh hk0 hk1
  unfold Fl.Has at hv
  obtain ⟨g, vs, T, rfl, hg1, hg2, hgb, hm, hrows⟩ := hv
  have hml : (l.map Oj.fl).length = l.length := by simp [exs_map, sts_map, txts]
  simp only [Fl.len] at hk1 ⊢
  rw [hml] at hk1 hm ⊢
  obtain ⟨n, hn⟩ : ∃ z, z = l.length := ⟨_, rfl⟩
  rw [← hn] at hk1 hm hml ⊢
  have HNL : Hid (l.length = n) := hn.symm
  clear hn
  have hn9 : n ≤ 9223372036854775807 := by unfold maxLen at hm; omega
  generalize hRL : rowsLen (l.map Oj.fl) = RL at *
  have HRL : Hid (rowsLen (l.map Oj.fl) = RL) := hRL
  clear hRL
  have HS0 : Hid (MkSt 5 (l.map Oj.fl) w lo hi g T w 0) := ⟨⟨[], vs, g + 1, hgb, by simp, by simpa using hrows, by omega, by omega⟩, Out.refl _ _ _⟩
  clear hgb hrows hml
  go_enter Try.func10, Try.ntmps10
  go_wp2_with fail
  go_loopw [1, 5] (fun kk i wr => ∃ (j : Nat) (kc : Int), j ≤ n ∧ i = .int .i64 j ∧ kk = .int .i64 kc ∧ k ≤ kc ∧ Hid (kc ≤ k + 2 * ((j : Int) + (rowsLen ((l.map Oj.fl).take j) : Int))) ∧ Hid (MkSt 5 (l.map Oj.fl) w lo hi g T wr j)) (fun _ i _ => n - (intOf i).toNat)
  case atStart => exact ⟨0, k, Nat.zero_le _, rfl, rfl, Int.le_refl _, by show k ≤ _; simp [rowsLen], HS0⟩
  case round =>
    obtain ⟨j, kc, hj, rfl, rfl, hkc, hkd, hst⟩ := hrel
    clear HS0
    by_cases hlt : j < n
    · obtain ⟨x, hx⟩ : ∃ x, l[j]? = some x := ⟨l[j]'(by rw [HNL.out]; exact hlt), List.getElem?_eq_getElem _⟩
      have hxj : (l.map Oj.fl)[j]? = some x.fl := by rw [List.getElem?_map, hx]; rfl
      obtain ⟨⟨pre, rest, mid, XB, hp, hr, hm1, hm2⟩, HO⟩ := hst.out
      rw [drop_at hxj] at hr
      unfold RowsHas at hr
      obtain ⟨us, rest', mid', rfl, hul, hA, hB, hrec, hrest⟩ := hr
      have hnx := rowsLen_next hxj
      have htk := rowsLen_take (l.map Oj.fl) (j + 1)
      rw [hnx, HRL.out] at htk
      have hkd1 := hkd.out
      unfold Oj.fl at hrec
      simp only [RecHas] at hrec
      obtain ⟨u0, _, m0, rfl, ha0, hb0, h0, u1, _, m1, rfl, ha1, hb1, h1, u2, _, m2, rfl, ha2, hb2, h2, u3, _, m3, rfl, ha3, hb3, h3, u4, _, m4, rfl, ha4, hb4, h4, rfl⟩ := hrec
      have hrl : recLen (x.fl) = Fl.len (.b x.name) + Fl.len (.l 3 (x.ex.map Xp.fl)) + Fl.len (.l 3 (x.im.map Ip.fl)) + Fl.len (.n x.data) + Fl.len (.b x.code) := by simp [Oj.fl, recLen, Fl.len, Nat.add_assoc]
      have HNX : Hid (rowsLen ((l.map Oj.fl).take (j + 1)) = rowsLen ((l.map Oj.fl).take j) + (Fl.len (.b x.name) + Fl.len (.l 3 (x.ex.map Xp.fl)) + Fl.len (.l 3 (x.im.map Ip.fl)) + Fl.len (.n x.data) + Fl.len (.b x.code))) := by show _ = _; rw [hnx, hrl]
      rw [hrl] at htk
      clear hx hxj hnx hrl hst
      have hgl := XB.lt
      have hsz := HO.size
      have hgpos : lo ≤ g ∧ g < hi := ⟨hg1, by omega⟩
      unfold Fl.Has at h3
      subst h3
      have hK0 : 0 ≤ kc := by omega
      have q : wr.cell? ⟨g, j * 5, none⟩ = some u0 := XB.cell (at_mid (i := 0) hp rfl)
      have hsz1 := HO.size
      have HC := (mkByte x.name (by simp only [Fl.len] at htk; omega)) wr mid m0 u0 kc h0 (by omega) (by omega) (by omega)
      clear h0
      go_wp2_with fail
      refine HC.mono ?_
      rintro e W1 ⟨⟨k1, rfl, kl1, km1⟩, hOut⟩
      have X1 := hOut.blk XB (.inl (by omega))
      have O1 := HO.trans (hOut.wide (lo' := lo) (hi' := hi) (by omega) (by omega))
      replace h1 := h1.stays (hOut.stays (by omega) (.inr (by omega)))
      replace h2 := h2.stays (hOut.stays (by omega) (.inr (by omega)))
      replace h4 := h4.stays (hOut.stays (by omega) (.inr (by omega)))
      replace hrest := hrest.stays (hOut.stays (by omega) (.inr (by omega)))
      clear HC q hOut XB HO
      have q : W1.cell? ⟨g, j * 5 + 1, none⟩ = some u1 := X1.cell (at_mid (i := 1) hp rfl)
      have hsz2 := O1.size
      have HC := (mkExportS x.ex) W1 m0 m1 u1 k1 h1 (by omega) (by omega) (by omega)
      clear h1
      go_wp2_with fail
      refine HC.mono ?_
      rintro e W2 ⟨⟨k2, rfl, kl2, km2⟩, hOut⟩
      have X2 := hOut.blk X1 (.inl (by omega))
      have O2 := O1.trans (hOut.wide (lo' := lo) (hi' := hi) (by omega) (by omega))
      replace h2 := h2.stays (hOut.stays (by omega) (.inr (by omega)))
      replace h4 := h4.stays (hOut.stays (by omega) (.inr (by omega)))
      replace hrest := hrest.stays (hOut.stays (by omega) (.inr (by omega)))
      clear HC q hOut X1 O1
      have q : W2.cell? ⟨g, j * 5 + 2, none⟩ = some u2 := X2.cell (at_mid (i := 2) hp rfl)
      have hsz3 := O2.size
      have HC := (mkImportS x.im) W2 m1 m2 u2 k2 h2 (by omega) (by omega) (by omega)
      clear h2
      go_wp2_with fail
      refine HC.mono ?_
      rintro e W3 ⟨⟨k3, rfl, kl3, km3⟩, hOut⟩
      have X3 := hOut.blk X2 (.inl (by omega))
      have O3 := O2.trans (hOut.wide (lo' := lo) (hi' := hi) (by omega) (by omega))
      replace h4 := h4.stays (hOut.stays (by omega) (.inr (by omega)))
      replace hrest := hrest.stays (hOut.stays (by omega) (.inr (by omega)))
      clear HC q hOut X2 O2
      go_upto_region 7 with fail
      have z := X3.free (j * 5 + 3)
      have q : W3.cell? ⟨g, j * 5 + 3, none⟩ = some (.int .i64 x.data) := X3.cell (at_mid (i := 3) hp rfl)
      have X4 : Blk (W3.setCell ⟨g, j * 5 + 3, none⟩ (.int .i64 k3)) g T (pre ++ ([u0, u1, u2, .int .i64 k3, u4] ++ rest')) := by
        have := X3.set (i := j * 5 + 3) (.int .i64 k3)
        rw [set_mid hp (by simp)] at this
        exact this
      have O4 : Out lo hi w (W3.setCell ⟨g, j * 5 + 3, none⟩ (.int .i64 k3)) := O3.trans (Out.put hgpos.1 hgpos.2)
      replace h4 := h4.stays (Stays.put9 (g := g) (i := j * 5 + 3) (v := .int .i64 k3) (by omega))
      replace hrest := hrest.stays (Stays.put9 (g := g) (i := j * 5 + 3) (v := .int .i64 k3) (by omega))
      go_upto_region 9 with fail
      generalize W3.setCell ⟨g, j * 5 + 3, none⟩ (.int .i64 k3) = W4 at *
      clear z q X3 O3
      obtain ⟨k4, hk4⟩ : ∃ z, z = k3 + 1 := ⟨_, rfl⟩
      rw [← hk4]
      have kl4 : k3 ≤ k4 ∧ k4 ≤ k3 + 1 := by omega
      clear hk4
      have q : W4.cell? ⟨g, j * 5 + 4, none⟩ = some u4 := X4.cell (at_mid (i := 4) hp rfl)
      have hsz5 := O4.size
      have HC := (mkByte x.code (by simp only [Fl.len] at htk; omega)) W4 m3 m4 u4 k4 h4 (by omega) (by omega) (by omega)
      clear h4
      go_wp2_with fail
      refine HC.mono ?_
      rintro e W5 ⟨⟨k5, rfl, kl5, km5⟩, hOut⟩
      have X5 := hOut.blk X4 (.inl (by omega))
      have O5 := O4.trans (hOut.wide (lo' := lo) (hi' := hi) (by omega) (by omega))
      replace hrest := hrest.stays (hOut.stays (by omega) (.inr (by omega)))
      clear HC q hOut X4 O4
      have HS1 : Hid (MkSt 5 (l.map Oj.fl) w lo hi g T W5 (j + 1)) := ⟨⟨pre ++ [u0, u1, u2, .int .i64 k3, u4], rest', mid', by simpa [List.append_assoc] using X5, by simp [hp, Nat.add_mul], hrest, by omega, by omega⟩, O5⟩
      have HK1 : Hid (k5 ≤ k + 2 * (((j + 1 : Nat) : Int) + (rowsLen ((l.map Oj.fl).take (j + 1)) : Int))) := by show _ ≤ _; rw [HNX.out]; omega
      have hkf : k ≤ k5 := by omega
      clear X5 O5 hrest hkd hkd1
      go_wp2_with fail
      go_roundw
      case rel => exact ⟨j + 1, k5, by omega, by go_num, rfl, hkf, HK1, HS1⟩
      case measure => simp [intOf]; omega
    · have : n = j := by omega
      subst this
      have hkd1 := hkd.out
      rw [List.take_of_length_le (by rw [show (l.map Oj.fl).length = l.length by simp [exs_map, sts_map, txts], HNL.out]; exact Nat.le_refl _), HRL.out] at hkd1
      go_wp2_with fail
      go_ret
      exact ⟨⟨kc, rfl, hkc, by omega⟩, hst.out.out⟩





end Go.Proofs.Ytefciaeajlgheaa

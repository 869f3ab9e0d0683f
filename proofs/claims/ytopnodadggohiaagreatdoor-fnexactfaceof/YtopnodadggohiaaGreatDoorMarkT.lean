/- Trees of one's own are marked: what else there is stays. By mkmarkt.py. -/
import Derived.Test.YtopnodadggohiaaGreatDoorTreeTo2
import Derived.Test.YtopnodadggohiaaGreatDoorAll
namespace Go.Proofs.YtopnodadggohiaaGreatDoor
open Go.RowKit
set_option linter.unusedVariables false
set_option linter.unusedSimpArgs false
set_option maxRecDepth 100000

/-- Nothing that was there has changed but blocks from lo up to hi. -/
structure Out (lo hi : Nat) (w w' : World) : Prop where
 os : w'.os = w.os
 tape : w'.tape = w.tape
 output : w'.output = w.output
 size : w.heap.size ≤ w'.heap.size
 block : ∀ g, g < w.heap.size → (g < lo ∨ hi ≤ g) → w'.heap[g]? = w.heap[g]?
theorem Out.refl (lo hi : Nat) (w : World) : Out lo hi w w := ⟨rfl, rfl, rfl, Nat.le_refl _, fun _ _ _ => rfl⟩
theorem Out.trans {lo hi : Nat} {a b c : World} (h : Out lo hi a b) (k : Out lo hi b c) : Out lo hi a c :=
 ⟨k.os.trans h.os, k.tape.trans h.tape, k.output.trans h.output, Nat.le_trans h.size k.size, fun g hg ho => (k.block g (Nat.lt_of_lt_of_le hg h.size) ho).trans (h.block g hg ho)⟩
theorem Out.wide {lo hi lo' hi' : Nat} {a b : World} (h : Out lo hi a b) (h1 : lo' ≤ lo) (h2 : hi ≤ hi') : Out lo' hi' a b := ⟨h.os, h.tape, h.output, h.size, fun g hg ho => h.block g hg (by omega)⟩
theorem Out.put {lo hi g i : Nat} {w : World} {v : Value} (h1 : lo ≤ g) (h2 : g < hi) : Out lo hi w (w.setCell ⟨g, i, none⟩ v) :=
 ⟨rfl, rfl, rfl, by simp, fun k hk ho => heap_setCell_other w ⟨g, i, none⟩ k v (by simp; omega)⟩
theorem Out.stays {a b lo hi : Nat} {w w' : World} (h : Out a b w w') (hs : hi ≤ w.heap.size) (hd : hi ≤ a ∨ b ≤ lo) : Stays lo hi w w' := fun g h1 h2 => h.block g (by omega) (by omega)
theorem Out.blk {a b g : Nat} {w w' : World} {T : TypeId} {vs : List Value} (h : Out a b w w') (hb : Blk w g T vs) (hd : g < a ∨ b ≤ g) : Blk w' g T vs := (h.block g hb.lt hd).trans hb
theorem Out.grown {lo hi : Nat} {w w' : World} (h : w.grownBy w' none) : Out lo hi w w' := ⟨h.os, h.tape, h.output, h.size, fun g hg _ => h.block g hg (by simp)⟩
theorem Stays.put9 {lo hi g i : Nat} {w : World} {v : Value} (h : g < lo) : Stays lo hi w (w.setCell ⟨g, i, none⟩ v) := Stays.put (.inl h)

/-- The function F marks a field of one's own. -/
def MkF (F : Nat) (f : Fl) : Prop := ∀ (w : World) (lo hi : Nat) (v : Value) (k : Int), f.Has w lo hi v → hi ≤ w.heap.size → 0 ≤ k → k + 2 * (f.len : Int) ≤ 1073741824 →
 Calls Tryz.prog F #[v, .int .i64 k] w fun e w' => (∃ k' : Int, e = .returned (.int .i64 k') ∧ k ≤ k' ∧ k' ≤ k + 2 * (f.len : Int)) ∧ Out lo hi w w'

theorem mkByte (l : List Int) (hl : l.length ≤ 1073741824) : MkF 37 (.b l) := by
 intro w lo hi v k hv hh h0 h1
 unfold Fl.Has at hv
 obtain ⟨g, rfl, h2, h3, h4, h5, h6⟩ := hv
 have ho : Own w lo (.slice (some ⟨g, 0, none⟩) l.length l.length) l.length l := own_of_block h4 h2 h6 h5
 simp only [Fl.len] at h1
 refine (markM lo _ l.length l k w ho hl h0 (by omega)).mono ?_
 rintro e w' ⟨rfl, _, hg⟩
 refine ⟨⟨k + l.length, rfl, by omega, by simp only [Fl.len]; omega⟩, ⟨hg.os, hg.tape, hg.output, hg.size, fun i hi ho => hg.block i hi (fun e => ?_)⟩⟩
 simp only [Value.ownBlock, Option.some.injEq] at e
 omega


/-- How far a row of records has been marked. -/
structure MkSt (K : Nat) (rs : List (List Fl)) (w : World) (lo hi g : Nat) (T : TypeId) (wr : World) (j : Nat) : Prop where
 ex : ∃ (pre rest : List Value) (mid : Nat), Blk wr g T (pre ++ rest) ∧ pre.length = j * K ∧ RowsHas wr K mid hi (rs.drop j) rest ∧ g < mid ∧ mid ≤ hi
 out : Out lo hi w wr

theorem at_mid {pre us rest : List Value} {i n : Nat} {u : Value} (hp : pre.length = n) (h : us[i]? = some u) : (pre ++ (us ++ rest))[n + i]? = some u := by
 have hi := (List.getElem?_eq_some_iff.1 h).1
 rw [← hp, List.getElem?_append_right (by omega), Nat.add_sub_cancel_left, List.getElem?_append_left hi]
 exact h
theorem set_mid {pre us rest : List Value} {i n : Nat} {u : Value} (hp : pre.length = n) (hi : i < us.length) : (pre ++ (us ++ rest)).set (n + i) u = pre ++ (us.set i u ++ rest) := by
 rw [← hp, List.set_append_right _ _ (by omega), Nat.add_sub_cancel_left, List.set_append_left _ _ hi]
theorem drop_at {α : Type} {l : List α} {j : Nat} {x : α} (h : l[j]? = some x) : l.drop j = x :: l.drop (j + 1) := by
 obtain ⟨hj, rfl⟩ := List.getElem?_eq_some_iff.1 h
 exact List.drop_eq_getElem_cons hj

set_option maxHeartbeats 8000000 in
theorem mkByteSS (l : List (List Int)) : MkF 38 (.l 1 (txts l)) := by
 intro w lo hi v k hv hh hk0 hk1
 unfold Fl.Has at hv
 obtain ⟨g, vs, T, rfl, hg1, hg2, hgb, hm, hrows⟩ := hv
 have hml : (txts l).length = l.length := by simp [exs_map, sts_map, txts]
 simp only [Fl.len] at hk1 ⊢
 rw [hml] at hk1 hm ⊢
 obtain ⟨n, hn⟩ : ∃ z, z = l.length := ⟨_, rfl⟩
 rw [← hn] at hk1 hm hml ⊢
 have HNL : Hid (l.length = n) := hn.symm
 clear hn
 have hn9 : n ≤ 9223372036854775807 := by unfold maxLen at hm; omega
 generalize hRL : rowsLen (txts l) = RL at *
 have HRL : Hid (rowsLen (txts l) = RL) := hRL
 clear hRL
 have HS0 : Hid (MkSt 1 (txts l) w lo hi g T w 0) := ⟨⟨[], vs, g + 1, hgb, by simp, by simpa using hrows, by omega, by omega⟩, Out.refl _ _ _⟩
 clear hgb hrows hml
 go_enter Tryz.func38, Tryz.ntmps38
 go_wp2_with fail
 go_loopw [1, 5] (fun kk i wr => ∃ (j : Nat) (kc : Int), j ≤ n ∧ i = .int .i64 j ∧ kk = .int .i64 kc ∧ k ≤ kc ∧ Hid (kc ≤ k + 2 * ((j : Int) + (rowsLen ((txts l).take j) : Int))) ∧ Hid (MkSt 1 (txts l) w lo hi g T wr j)) (fun _ i _ => n - (intOf i).toNat)
 case atStart => exact ⟨0, k, Nat.zero_le _, rfl, rfl, Int.le_refl _, by show k ≤ _; simp [rowsLen], HS0⟩
 case round =>
  obtain ⟨j, kc, hj, rfl, rfl, hkc, hkd, hst⟩ := hrel
  clear HS0
  by_cases hlt : j < n
  ·
   obtain ⟨x, hx⟩ : ∃ x, l[j]? = some x := ⟨l[j]'(by rw [HNL.out]; exact hlt), List.getElem?_eq_getElem _⟩
   have hxj : (txts l)[j]? = some [.b x] := by unfold txts; rw [List.getElem?_map, hx]; rfl
   obtain ⟨⟨pre, rest, mid, XB, hp, hr, hm1, hm2⟩, HO⟩ := hst.out
   rw [drop_at hxj] at hr
   unfold RowsHas at hr
   obtain ⟨us, rest', mid', rfl, hul, hA, hB, hrec, hrest⟩ := hr
   have hnx := rowsLen_next hxj
   have htk := rowsLen_take (txts l) (j + 1)
   rw [hnx, HRL.out] at htk
   have hkd1 := hkd.out

   simp only [RecHas] at hrec
   obtain ⟨u0, _, m0, rfl, ha0, hb0, h0, rfl⟩ := hrec
   have hrl : recLen ([Fl.b x]) = Fl.len (.b x) := by simp [recLen, Fl.len, Nat.add_assoc]
   have HNX : Hid (rowsLen ((txts l).take (j + 1)) = rowsLen ((txts l).take j) + (Fl.len (.b x))) := by show _ = _; rw [hnx, hrl]
   rw [hrl] at htk
   clear hx hxj hnx hrl hst
   have hgl := XB.lt
   have hsz := HO.size
   have hgpos : lo ≤ g ∧ g < hi := ⟨hg1, by omega⟩
   have hK0 : 0 ≤ kc := by omega
   have q : wr.cell? ⟨g, j, none⟩ = some u0 := by have := XB.cell (at_mid (i := 0) hp rfl); simpa using this
   have hsz1 := HO.size
   have HC := (mkByte x (by simp only [Fl.len] at htk; omega)) wr mid m0 u0 kc h0 (by omega) (by omega) (by omega)
   clear h0
   go_wp2_with fail
   refine HC.mono ?_
   rintro e W1 ⟨⟨k1, rfl, kl1, km1⟩, hOut⟩
   have X1 := hOut.blk XB (.inl (by omega))
   have O1 := HO.trans (hOut.wide (lo' := lo) (hi' := hi) (by omega) (by omega))
   replace hrest := hrest.stays (hOut.stays (by omega) (.inr (by omega)))
   clear HC q hOut XB HO
   have HS1 : Hid (MkSt 1 (txts l) w lo hi g T W1 (j + 1)) := ⟨⟨pre ++ [u0], rest', mid', by simpa [List.append_assoc] using X1, by simp [hp, Nat.add_mul], hrest, by omega, by omega⟩, O1⟩
   have HK1 : Hid (k1 ≤ k + 2 * (((j + 1 : Nat) : Int) + (rowsLen ((txts l).take (j + 1)) : Int))) := by show _ ≤ _; rw [HNX.out]; omega
   have hkf : k ≤ k1 := by omega
   clear X1 O1 hrest hkd hkd1
   go_wp2_with fail
   go_roundw
   case rel => exact ⟨j + 1, k1, by omega, by go_num, rfl, hkf, HK1, HS1⟩
   case measure => simp [intOf]; omega
  ·
   have : n = j := by omega
   subst this
   have hkd1 := hkd.out
   rw [List.take_of_length_le (by rw [show (txts l).length = l.length by simp [exs_map, sts_map, txts], HNL.out]; exact Nat.le_refl _), HRL.out] at hkd1
   go_wp2_with fail
   go_ret
   exact ⟨⟨kc, rfl, hkc, by omega⟩, hst.out.out⟩


set_option maxHeartbeats 8000000 in
theorem mkVarS (l : List (Va)) : MkF 39 (.l 2 (l.map Va.fl)) := by
 intro w lo hi v k hv hh hk0 hk1
 unfold Fl.Has at hv
 obtain ⟨g, vs, T, rfl, hg1, hg2, hgb, hm, hrows⟩ := hv
 have hml : (l.map Va.fl).length = l.length := by simp [exs_map, sts_map, txts]
 simp only [Fl.len] at hk1 ⊢
 rw [hml] at hk1 hm ⊢
 obtain ⟨n, hn⟩ : ∃ z, z = l.length := ⟨_, rfl⟩
 rw [← hn] at hk1 hm hml ⊢
 have HNL : Hid (l.length = n) := hn.symm
 clear hn
 have hn9 : n ≤ 9223372036854775807 := by unfold maxLen at hm; omega
 generalize hRL : rowsLen (l.map Va.fl) = RL at *
 have HRL : Hid (rowsLen (l.map Va.fl) = RL) := hRL
 clear hRL
 have HS0 : Hid (MkSt 2 (l.map Va.fl) w lo hi g T w 0) := ⟨⟨[], vs, g + 1, hgb, by simp, by simpa using hrows, by omega, by omega⟩, Out.refl _ _ _⟩
 clear hgb hrows hml
 go_enter Tryz.func39, Tryz.ntmps39
 go_wp2_with fail
 go_loopw [1, 5] (fun kk i wr => ∃ (j : Nat) (kc : Int), j ≤ n ∧ i = .int .i64 j ∧ kk = .int .i64 kc ∧ k ≤ kc ∧ Hid (kc ≤ k + 2 * ((j : Int) + (rowsLen ((l.map Va.fl).take j) : Int))) ∧ Hid (MkSt 2 (l.map Va.fl) w lo hi g T wr j)) (fun _ i _ => n - (intOf i).toNat)
 case atStart => exact ⟨0, k, Nat.zero_le _, rfl, rfl, Int.le_refl _, by show k ≤ _; simp [rowsLen], HS0⟩
 case round =>
  obtain ⟨j, kc, hj, rfl, rfl, hkc, hkd, hst⟩ := hrel
  clear HS0
  by_cases hlt : j < n
  ·
   obtain ⟨x, hx⟩ : ∃ x, l[j]? = some x := ⟨l[j]'(by rw [HNL.out]; exact hlt), List.getElem?_eq_getElem _⟩
   have hxj : (l.map Va.fl)[j]? = some x.fl := by rw [List.getElem?_map, hx]; rfl
   obtain ⟨⟨pre, rest, mid, XB, hp, hr, hm1, hm2⟩, HO⟩ := hst.out
   rw [drop_at hxj] at hr
   unfold RowsHas at hr
   obtain ⟨us, rest', mid', rfl, hul, hA, hB, hrec, hrest⟩ := hr
   have hnx := rowsLen_next hxj
   have htk := rowsLen_take (l.map Va.fl) (j + 1)
   rw [hnx, HRL.out] at htk
   have hkd1 := hkd.out
   unfold Va.fl at hrec
   simp only [RecHas] at hrec
   obtain ⟨u0, _, m0, rfl, ha0, hb0, h0, u1, _, m1, rfl, ha1, hb1, h1, rfl⟩ := hrec
   have hrl : recLen (x.fl) = Fl.len (.b x.name) + Fl.len (.n x.size) := by simp [Va.fl, recLen, Fl.len, Nat.add_assoc]
   have HNX : Hid (rowsLen ((l.map Va.fl).take (j + 1)) = rowsLen ((l.map Va.fl).take j) + (Fl.len (.b x.name) + Fl.len (.n x.size))) := by show _ = _; rw [hnx, hrl]
   rw [hrl] at htk
   clear hx hxj hnx hrl hst
   have hgl := XB.lt
   have hsz := HO.size
   have hgpos : lo ≤ g ∧ g < hi := ⟨hg1, by omega⟩
   unfold Fl.Has at h1
   subst h1
   have hK0 : 0 ≤ kc := by omega
   have q : wr.cell? ⟨g, j * 2, none⟩ = some u0 := XB.cell (at_mid (i := 0) hp rfl)
   have hsz1 := HO.size
   have HC := (mkByte x.name (by simp only [Fl.len] at htk; omega)) wr mid m0 u0 kc h0 (by omega) (by omega) (by omega)
   clear h0
   go_wp2_with fail
   refine HC.mono ?_
   rintro e W1 ⟨⟨k1, rfl, kl1, km1⟩, hOut⟩
   have X1 := hOut.blk XB (.inl (by omega))
   have O1 := HO.trans (hOut.wide (lo' := lo) (hi' := hi) (by omega) (by omega))
   replace hrest := hrest.stays (hOut.stays (by omega) (.inr (by omega)))
   clear HC q hOut XB HO
   go_upto_region 5 with fail
   have z := X1.free (j * 2 + 1)
   have q : W1.cell? ⟨g, j * 2 + 1, none⟩ = some (.int .i64 x.size) := X1.cell (at_mid (i := 1) hp rfl)
   have X2 : Blk (W1.setCell ⟨g, j * 2 + 1, none⟩ (.int .i64 k1)) g T (pre ++ ([u0, .int .i64 k1] ++ rest')) := by
    have := X1.set (i := j * 2 + 1) (.int .i64 k1)
    rw [set_mid hp (by simp)] at this
    exact this
   have O2 : Out lo hi w (W1.setCell ⟨g, j * 2 + 1, none⟩ (.int .i64 k1)) := O1.trans (Out.put hgpos.1 hgpos.2)
   replace hrest := hrest.stays (Stays.put9 (g := g) (i := j * 2 + 1) (v := .int .i64 k1) (by omega))
   go_upto_region 7 with fail
   generalize W1.setCell ⟨g, j * 2 + 1, none⟩ (.int .i64 k1) = W2 at *
   clear z q X1 O1
   obtain ⟨k2, hk2⟩ : ∃ z, z = k1 + 1 := ⟨_, rfl⟩
   rw [← hk2]
   have kl2 : k1 ≤ k2 ∧ k2 ≤ k1 + 1 := by omega
   clear hk2
   have HS1 : Hid (MkSt 2 (l.map Va.fl) w lo hi g T W2 (j + 1)) := ⟨⟨pre ++ [u0, .int .i64 k1], rest', mid', by simpa [List.append_assoc] using X2, by simp [hp, Nat.add_mul], hrest, by omega, by omega⟩, O2⟩
   have HK1 : Hid (k2 ≤ k + 2 * (((j + 1 : Nat) : Int) + (rowsLen ((l.map Va.fl).take (j + 1)) : Int))) := by show _ ≤ _; rw [HNX.out]; omega
   have hkf : k ≤ k2 := by omega
   clear X2 O2 hrest hkd hkd1
   go_wp2_with fail
   go_roundw
   case rel => exact ⟨j + 1, k2, by omega, by go_num, rfl, hkf, HK1, HS1⟩
   case measure => simp [intOf]; omega
  ·
   have : n = j := by omega
   subst this
   have hkd1 := hkd.out
   rw [List.take_of_length_le (by rw [show (l.map Va.fl).length = l.length by simp [exs_map, sts_map, txts], HNL.out]; exact Nat.le_refl _), HRL.out] at hkd1
   go_wp2_with fail
   go_ret
   exact ⟨⟨kc, rfl, hkc, by omega⟩, hst.out.out⟩


set_option maxHeartbeats 8000000 in
theorem mkParamS (l : List (Pa)) : MkF 70 (.l 2 (l.map Pa.fl)) := by
 intro w lo hi v k hv hh hk0 hk1
 unfold Fl.Has at hv
 obtain ⟨g, vs, T, rfl, hg1, hg2, hgb, hm, hrows⟩ := hv
 have hml : (l.map Pa.fl).length = l.length := by simp [exs_map, sts_map, txts]
 simp only [Fl.len] at hk1 ⊢
 rw [hml] at hk1 hm ⊢
 obtain ⟨n, hn⟩ : ∃ z, z = l.length := ⟨_, rfl⟩
 rw [← hn] at hk1 hm hml ⊢
 have HNL : Hid (l.length = n) := hn.symm
 clear hn
 have hn9 : n ≤ 9223372036854775807 := by unfold maxLen at hm; omega
 generalize hRL : rowsLen (l.map Pa.fl) = RL at *
 have HRL : Hid (rowsLen (l.map Pa.fl) = RL) := hRL
 clear hRL
 have HS0 : Hid (MkSt 2 (l.map Pa.fl) w lo hi g T w 0) := ⟨⟨[], vs, g + 1, hgb, by simp, by simpa using hrows, by omega, by omega⟩, Out.refl _ _ _⟩
 clear hgb hrows hml
 go_enter Tryz.func70, Tryz.ntmps70
 go_wp2_with fail
 go_loopw [1, 5] (fun kk i wr => ∃ (j : Nat) (kc : Int), j ≤ n ∧ i = .int .i64 j ∧ kk = .int .i64 kc ∧ k ≤ kc ∧ Hid (kc ≤ k + 2 * ((j : Int) + (rowsLen ((l.map Pa.fl).take j) : Int))) ∧ Hid (MkSt 2 (l.map Pa.fl) w lo hi g T wr j)) (fun _ i _ => n - (intOf i).toNat)
 case atStart => exact ⟨0, k, Nat.zero_le _, rfl, rfl, Int.le_refl _, by show k ≤ _; simp [rowsLen], HS0⟩
 case round =>
  obtain ⟨j, kc, hj, rfl, rfl, hkc, hkd, hst⟩ := hrel
  clear HS0
  by_cases hlt : j < n
  ·
   obtain ⟨x, hx⟩ : ∃ x, l[j]? = some x := ⟨l[j]'(by rw [HNL.out]; exact hlt), List.getElem?_eq_getElem _⟩
   have hxj : (l.map Pa.fl)[j]? = some x.fl := by rw [List.getElem?_map, hx]; rfl
   obtain ⟨⟨pre, rest, mid, XB, hp, hr, hm1, hm2⟩, HO⟩ := hst.out
   rw [drop_at hxj] at hr
   unfold RowsHas at hr
   obtain ⟨us, rest', mid', rfl, hul, hA, hB, hrec, hrest⟩ := hr
   have hnx := rowsLen_next hxj
   have htk := rowsLen_take (l.map Pa.fl) (j + 1)
   rw [hnx, HRL.out] at htk
   have hkd1 := hkd.out
   unfold Pa.fl at hrec
   simp only [RecHas] at hrec
   obtain ⟨u0, _, m0, rfl, ha0, hb0, h0, u1, _, m1, rfl, ha1, hb1, h1, rfl⟩ := hrec
   have hrl : recLen (x.fl) = Fl.len (.b x.name) + Fl.len (.t x.arr) := by simp [Pa.fl, recLen, Fl.len, Nat.add_assoc]
   have HNX : Hid (rowsLen ((l.map Pa.fl).take (j + 1)) = rowsLen ((l.map Pa.fl).take j) + (Fl.len (.b x.name) + Fl.len (.t x.arr))) := by show _ = _; rw [hnx, hrl]
   rw [hrl] at htk
   clear hx hxj hnx hrl hst
   have hgl := XB.lt
   have hsz := HO.size
   have hgpos : lo ≤ g ∧ g < hi := ⟨hg1, by omega⟩
   unfold Fl.Has at h1
   subst h1
   have hK0 : 0 ≤ kc := by omega
   have q : wr.cell? ⟨g, j * 2, none⟩ = some u0 := XB.cell (at_mid (i := 0) hp rfl)
   have hsz1 := HO.size
   have HC := (mkByte x.name (by simp only [Fl.len] at htk; omega)) wr mid m0 u0 kc h0 (by omega) (by omega) (by omega)
   clear h0
   go_wp2_with fail
   refine HC.mono ?_
   rintro e W1 ⟨⟨k1, rfl, kl1, km1⟩, hOut⟩
   have X1 := hOut.blk XB (.inl (by omega))
   have O1 := HO.trans (hOut.wide (lo' := lo) (hi' := hi) (by omega) (by omega))
   replace hrest := hrest.stays (hOut.stays (by omega) (.inr (by omega)))
   clear HC q hOut XB HO
   go_upto_region 5 with fail
   have z := X1.free (j * 2 + 1)
   have q : W1.cell? ⟨g, j * 2 + 1, none⟩ = some (.bool x.arr) := X1.cell (at_mid (i := 1) hp rfl)
   have X2 : Blk (W1.setCell ⟨g, j * 2 + 1, none⟩ (.bool (k1 % 3 == 0))) g T (pre ++ ([u0, .bool (k1 % 3 == 0)] ++ rest')) := by
    have := X1.set (i := j * 2 + 1) (.bool (k1 % 3 == 0))
    rw [set_mid hp (by simp)] at this
    exact this
   have O2 : Out lo hi w (W1.setCell ⟨g, j * 2 + 1, none⟩ (.bool (k1 % 3 == 0))) := O1.trans (Out.put hgpos.1 hgpos.2)
   replace hrest := hrest.stays (Stays.put9 (g := g) (i := j * 2 + 1) (v := .bool (k1 % 3 == 0)) (by omega))
   go_upto_region 7 with fail
   generalize W1.setCell ⟨g, j * 2 + 1, none⟩ (.bool (k1 % 3 == 0)) = W2 at *
   clear z q X1 O1
   obtain ⟨k2, hk2⟩ : ∃ z, z = k1 + 1 := ⟨_, rfl⟩
   rw [← hk2]
   have kl2 : k1 ≤ k2 ∧ k2 ≤ k1 + 1 := by omega
   clear hk2
   have HS1 : Hid (MkSt 2 (l.map Pa.fl) w lo hi g T W2 (j + 1)) := ⟨⟨pre ++ [u0, .bool (k1 % 3 == 0)], rest', mid', by simpa [List.append_assoc] using X2, by simp [hp, Nat.add_mul], hrest, by omega, by omega⟩, O2⟩
   have HK1 : Hid (k2 ≤ k + 2 * (((j + 1 : Nat) : Int) + (rowsLen ((l.map Pa.fl).take (j + 1)) : Int))) := by show _ ≤ _; rw [HNX.out]; omega
   have hkf : k ≤ k2 := by omega
   clear X2 O2 hrest hkd hkd1
   go_wp2_with fail
   go_roundw
   case rel => exact ⟨j + 1, k2, by omega, by go_num, rfl, hkf, HK1, HS1⟩
   case measure => simp [intOf]; omega
  ·
   have : n = j := by omega
   subst this
   have hkd1 := hkd.out
   rw [List.take_of_length_le (by rw [show (l.map Pa.fl).length = l.length by simp [exs_map, sts_map, txts], HNL.out]; exact Nat.le_refl _), HRL.out] at hkd1
   go_wp2_with fail
   go_ret
   exact ⟨⟨kc, rfl, hkc, by omega⟩, hst.out.out⟩


set_option maxHeartbeats 8000000 in
theorem mkExprSR (l : List (Ex)) (H : ∀ k n m a ks, Ex.mk k n m a ks ∈ l → MkF 117 (.l 5 (exs ks))) : MkF 117 (.l 5 (exs l)) := by
 intro w lo hi v k hv hh hk0 hk1
 unfold Fl.Has at hv
 obtain ⟨g, vs, T, rfl, hg1, hg2, hgb, hm, hrows⟩ := hv
 have hml : (exs l).length = l.length := by simp [exs_map, sts_map, txts]
 simp only [Fl.len] at hk1 ⊢
 rw [hml] at hk1 hm ⊢
 obtain ⟨n, hn⟩ : ∃ z, z = l.length := ⟨_, rfl⟩
 rw [← hn] at hk1 hm hml ⊢
 have HNL : Hid (l.length = n) := hn.symm
 clear hn
 have hn9 : n ≤ 9223372036854775807 := by unfold maxLen at hm; omega
 generalize hRL : rowsLen (exs l) = RL at *
 have HRL : Hid (rowsLen (exs l) = RL) := hRL
 clear hRL
 have HS0 : Hid (MkSt 5 (exs l) w lo hi g T w 0) := ⟨⟨[], vs, g + 1, hgb, by simp, by simpa using hrows, by omega, by omega⟩, Out.refl _ _ _⟩
 clear hgb hrows hml
 have HH : Hid _ := H
 clear H
 go_enter Tryz.func117, Tryz.ntmps117
 go_wp2_with fail
 go_loopw [1, 5] (fun kk i wr => ∃ (j : Nat) (kc : Int), j ≤ n ∧ i = .int .i64 j ∧ kk = .int .i64 kc ∧ k ≤ kc ∧ Hid (kc ≤ k + 2 * ((j : Int) + (rowsLen ((exs l).take j) : Int))) ∧ Hid (MkSt 5 (exs l) w lo hi g T wr j)) (fun _ i _ => n - (intOf i).toNat)
 case atStart => exact ⟨0, k, Nat.zero_le _, rfl, rfl, Int.le_refl _, by show k ≤ _; simp [rowsLen], HS0⟩
 case round =>
  obtain ⟨j, kc, hj, rfl, rfl, hkc, hkd, hst⟩ := hrel
  clear HS0
  by_cases hlt : j < n
  ·
   obtain ⟨x, hx⟩ : ∃ x, l[j]? = some x := ⟨l[j]'(by rw [HNL.out]; exact hlt), List.getElem?_eq_getElem _⟩
   have hxj : (exs l)[j]? = some x.fl := by rw [exs_map, List.getElem?_map, hx]; rfl
   obtain ⟨⟨pre, rest, mid, XB, hp, hr, hm1, hm2⟩, HO⟩ := hst.out
   rw [drop_at hxj] at hr
   unfold RowsHas at hr
   obtain ⟨us, rest', mid', rfl, hul, hA, hB, hrec, hrest⟩ := hr
   have hnx := rowsLen_next hxj
   have htk := rowsLen_take (exs l) (j + 1)
   rw [hnx, HRL.out] at htk
   have hkd1 := hkd.out
   obtain ⟨x0, x1, x2, x3, x4⟩ := x
   have H4 := HH.out x0 x1 x2 x3 x4 (List.mem_of_getElem? hx)
   unfold Ex.fl at hrec
   simp only [RecHas] at hrec
   obtain ⟨u0, _, m0, rfl, ha0, hb0, h0, u1, _, m1, rfl, ha1, hb1, h1, u2, _, m2, rfl, ha2, hb2, h2, u3, _, m3, rfl, ha3, hb3, h3, u4, _, m4, rfl, ha4, hb4, h4, rfl⟩ := hrec
   have hrl : recLen (Ex.fl ⟨x0, x1, x2, x3, x4⟩) = Fl.len (.n x0) + Fl.len (.n x1) + Fl.len (.b x2) + Fl.len (.b x3) + Fl.len (.l 5 (exs x4)) := by simp [Ex.fl, recLen, Fl.len, Nat.add_assoc]
   have HNX : Hid (rowsLen ((exs l).take (j + 1)) = rowsLen ((exs l).take j) + (Fl.len (.n x0) + Fl.len (.n x1) + Fl.len (.b x2) + Fl.len (.b x3) + Fl.len (.l 5 (exs x4)))) := by show _ = _; rw [hnx, hrl]
   rw [hrl] at htk
   clear hx hxj hnx hrl hst
   have hgl := XB.lt
   have hsz := HO.size
   have hgpos : lo ≤ g ∧ g < hi := ⟨hg1, by omega⟩
   unfold Fl.Has at h0
   subst h0
   unfold Fl.Has at h1
   subst h1
   have hK0 : 0 ≤ kc := by omega
   have z := XB.free (j * 5)
   have q : wr.cell? ⟨g, j * 5, none⟩ = some (.int .i64 x0) := XB.cell (at_mid (i := 0) hp rfl)
   have X1 : Blk (wr.setCell ⟨g, j * 5, none⟩ (.int .i64 kc)) g T (pre ++ ([.int .i64 kc, .int .i64 x1, u2, u3, u4] ++ rest')) := by
    have := XB.set (i := j * 5 + 0) (.int .i64 kc)
    rw [set_mid hp (by simp)] at this
    exact this
   have O1 : Out lo hi w (wr.setCell ⟨g, j * 5, none⟩ (.int .i64 kc)) := HO.trans (Out.put hgpos.1 hgpos.2)
   replace h2 := h2.stays (Stays.put9 (g := g) (i := j * 5) (v := .int .i64 kc) (by omega))
   replace h3 := h3.stays (Stays.put9 (g := g) (i := j * 5) (v := .int .i64 kc) (by omega))
   replace h4 := h4.stays (Stays.put9 (g := g) (i := j * 5) (v := .int .i64 kc) (by omega))
   replace hrest := hrest.stays (Stays.put9 (g := g) (i := j * 5) (v := .int .i64 kc) (by omega))
   go_upto_region 6 with fail
   generalize wr.setCell ⟨g, j * 5, none⟩ (.int .i64 kc) = W1 at *
   clear z q XB HO
   obtain ⟨k1, hk1⟩ : ∃ z, z = kc + 1 := ⟨_, rfl⟩
   rw [← hk1]
   have kl1 : kc ≤ k1 ∧ k1 ≤ kc + 1 := by omega
   clear hk1
   have z := X1.free (j * 5 + 1)
   have q : W1.cell? ⟨g, j * 5 + 1, none⟩ = some (.int .i64 x1) := X1.cell (at_mid (i := 1) hp rfl)
   have X2 : Blk (W1.setCell ⟨g, j * 5 + 1, none⟩ (.int .i64 k1)) g T (pre ++ ([.int .i64 kc, .int .i64 k1, u2, u3, u4] ++ rest')) := by
    have := X1.set (i := j * 5 + 1) (.int .i64 k1)
    rw [set_mid hp (by simp)] at this
    exact this
   have O2 : Out lo hi w (W1.setCell ⟨g, j * 5 + 1, none⟩ (.int .i64 k1)) := O1.trans (Out.put hgpos.1 hgpos.2)
   replace h2 := h2.stays (Stays.put9 (g := g) (i := j * 5 + 1) (v := .int .i64 k1) (by omega))
   replace h3 := h3.stays (Stays.put9 (g := g) (i := j * 5 + 1) (v := .int .i64 k1) (by omega))
   replace h4 := h4.stays (Stays.put9 (g := g) (i := j * 5 + 1) (v := .int .i64 k1) (by omega))
   replace hrest := hrest.stays (Stays.put9 (g := g) (i := j * 5 + 1) (v := .int .i64 k1) (by omega))
   go_upto_region 8 with fail
   generalize W1.setCell ⟨g, j * 5 + 1, none⟩ (.int .i64 k1) = W2 at *
   clear z q X1 O1
   obtain ⟨k2, hk2⟩ : ∃ z, z = k1 + 1 := ⟨_, rfl⟩
   rw [← hk2]
   have kl2 : k1 ≤ k2 ∧ k2 ≤ k1 + 1 := by omega
   clear hk2
   have q : W2.cell? ⟨g, j * 5 + 2, none⟩ = some u2 := X2.cell (at_mid (i := 2) hp rfl)
   have hsz3 := O2.size
   have HC := (mkByte x2 (by simp only [Fl.len] at htk; omega)) W2 m1 m2 u2 k2 h2 (by omega) (by omega) (by omega)
   clear h2
   go_wp2_with fail
   refine HC.mono ?_
   rintro e W3 ⟨⟨k3, rfl, kl3, km3⟩, hOut⟩
   have X3 := hOut.blk X2 (.inl (by omega))
   have O3 := O2.trans (hOut.wide (lo' := lo) (hi' := hi) (by omega) (by omega))
   replace h3 := h3.stays (hOut.stays (by omega) (.inr (by omega)))
   replace h4 := h4.stays (hOut.stays (by omega) (.inr (by omega)))
   replace hrest := hrest.stays (hOut.stays (by omega) (.inr (by omega)))
   clear HC q hOut X2 O2
   have q : W3.cell? ⟨g, j * 5 + 3, none⟩ = some u3 := X3.cell (at_mid (i := 3) hp rfl)
   have hsz4 := O3.size
   have HC := (mkByte x3 (by simp only [Fl.len] at htk; omega)) W3 m2 m3 u3 k3 h3 (by omega) (by omega) (by omega)
   clear h3
   go_wp2_with fail
   refine HC.mono ?_
   rintro e W4 ⟨⟨k4, rfl, kl4, km4⟩, hOut⟩
   have X4 := hOut.blk X3 (.inl (by omega))
   have O4 := O3.trans (hOut.wide (lo' := lo) (hi' := hi) (by omega) (by omega))
   replace h4 := h4.stays (hOut.stays (by omega) (.inr (by omega)))
   replace hrest := hrest.stays (hOut.stays (by omega) (.inr (by omega)))
   clear HC q hOut X3 O3
   have q : W4.cell? ⟨g, j * 5 + 4, none⟩ = some u4 := X4.cell (at_mid (i := 4) hp rfl)
   have hsz5 := O4.size
   have HC := (H4) W4 m3 m4 u4 k4 h4 (by omega) (by omega) (by omega)
   clear h4
   go_wp2_with fail
   refine HC.mono ?_
   rintro e W5 ⟨⟨k5, rfl, kl5, km5⟩, hOut⟩
   have X5 := hOut.blk X4 (.inl (by omega))
   have O5 := O4.trans (hOut.wide (lo' := lo) (hi' := hi) (by omega) (by omega))
   replace hrest := hrest.stays (hOut.stays (by omega) (.inr (by omega)))
   clear HC q hOut X4 O4
   have HS1 : Hid (MkSt 5 (exs l) w lo hi g T W5 (j + 1)) := ⟨⟨pre ++ [.int .i64 kc, .int .i64 k1, u2, u3, u4], rest', mid', by simpa [List.append_assoc] using X5, by simp [hp, Nat.add_mul], hrest, by omega, by omega⟩, O5⟩
   have HK1 : Hid (k5 ≤ k + 2 * (((j + 1 : Nat) : Int) + (rowsLen ((exs l).take (j + 1)) : Int))) := by show _ ≤ _; rw [HNX.out]; omega
   have hkf : k ≤ k5 := by omega
   clear X5 O5 hrest hkd hkd1
   go_wp2_with fail
   go_roundw
   case rel => exact ⟨j + 1, k5, by omega, by go_num, rfl, hkf, HK1, HS1⟩
   case measure => simp [intOf]; omega
  ·
   have : n = j := by omega
   subst this
   have hkd1 := hkd.out
   rw [List.take_of_length_le (by rw [show (exs l).length = l.length by simp [exs_map, sts_map, txts], HNL.out]; exact Nat.le_refl _), HRL.out] at hkd1
   go_wp2_with fail
   go_ret
   exact ⟨⟨kc, rfl, hkc, by omega⟩, hst.out.out⟩

mutual
theorem mkExA : ∀ x : Ex, ∀ k n m a ks, x = Ex.mk k n m a ks → MkF 117 (.l 5 (exs ks))
 | .mk _ _ _ _ k1, k, n, m, a, ks, h => by
  have h1 := mkExprSR k1 (mkExsA k1)
  cases h
  exact h1
theorem mkExsA : ∀ l : List Ex, ∀ k n m a ks, Ex.mk k n m a ks ∈ l → MkF 117 (.l 5 (exs ks))
 | [], k, n, m, a, ks, h => by simp at h
 | y :: l, k, n, m, a, ks, h => by
  rcases List.mem_cons.1 h with h | h
  ·
   exact mkExA y k n m a ks h.symm
  ·
   exact mkExsA l k n m a ks h
end
theorem mkExprS (l : List Ex) : MkF 117 (.l 5 (exs l)) := mkExprSR l (mkExsA l)


set_option maxHeartbeats 8000000 in
theorem mkStmtSR (l : List (St)) (H : ∀ k n a ks bs es, St.mk k n a ks bs es ∈ l → MkF 71 (.l 6 (sts bs)) ∧ MkF 71 (.l 6 (sts es))) : MkF 71 (.l 6 (sts l)) := by
 intro w lo hi v k hv hh hk0 hk1
 unfold Fl.Has at hv
 obtain ⟨g, vs, T, rfl, hg1, hg2, hgb, hm, hrows⟩ := hv
 have hml : (sts l).length = l.length := by simp [exs_map, sts_map, txts]
 simp only [Fl.len] at hk1 ⊢
 rw [hml] at hk1 hm ⊢
 obtain ⟨n, hn⟩ : ∃ z, z = l.length := ⟨_, rfl⟩
 rw [← hn] at hk1 hm hml ⊢
 have HNL : Hid (l.length = n) := hn.symm
 clear hn
 have hn9 : n ≤ 9223372036854775807 := by unfold maxLen at hm; omega
 generalize hRL : rowsLen (sts l) = RL at *
 have HRL : Hid (rowsLen (sts l) = RL) := hRL
 clear hRL
 have HS0 : Hid (MkSt 6 (sts l) w lo hi g T w 0) := ⟨⟨[], vs, g + 1, hgb, by simp, by simpa using hrows, by omega, by omega⟩, Out.refl _ _ _⟩
 clear hgb hrows hml
 have HH : Hid _ := H
 clear H
 go_enter Tryz.func71, Tryz.ntmps71
 go_wp2_with fail
 go_loopw [1, 5] (fun kk i wr => ∃ (j : Nat) (kc : Int), j ≤ n ∧ i = .int .i64 j ∧ kk = .int .i64 kc ∧ k ≤ kc ∧ Hid (kc ≤ k + 2 * ((j : Int) + (rowsLen ((sts l).take j) : Int))) ∧ Hid (MkSt 6 (sts l) w lo hi g T wr j)) (fun _ i _ => n - (intOf i).toNat)
 case atStart => exact ⟨0, k, Nat.zero_le _, rfl, rfl, Int.le_refl _, by show k ≤ _; simp [rowsLen], HS0⟩
 case round =>
  obtain ⟨j, kc, hj, rfl, rfl, hkc, hkd, hst⟩ := hrel
  clear HS0
  by_cases hlt : j < n
  ·
   obtain ⟨x, hx⟩ : ∃ x, l[j]? = some x := ⟨l[j]'(by rw [HNL.out]; exact hlt), List.getElem?_eq_getElem _⟩
   have hxj : (sts l)[j]? = some x.fl := by rw [sts_map, List.getElem?_map, hx]; rfl
   obtain ⟨⟨pre, rest, mid, XB, hp, hr, hm1, hm2⟩, HO⟩ := hst.out
   rw [drop_at hxj] at hr
   unfold RowsHas at hr
   obtain ⟨us, rest', mid', rfl, hul, hA, hB, hrec, hrest⟩ := hr
   have hnx := rowsLen_next hxj
   have htk := rowsLen_take (sts l) (j + 1)
   rw [hnx, HRL.out] at htk
   have hkd1 := hkd.out
   obtain ⟨x0, x1, x2, x3, x4, x5⟩ := x
   obtain ⟨H4, H5⟩ := HH.out x0 x1 x2 x3 x4 x5 (List.mem_of_getElem? hx)
   unfold St.fl at hrec
   simp only [RecHas] at hrec
   obtain ⟨u0, _, m0, rfl, ha0, hb0, h0, u1, _, m1, rfl, ha1, hb1, h1, u2, _, m2, rfl, ha2, hb2, h2, u3, _, m3, rfl, ha3, hb3, h3, u4, _, m4, rfl, ha4, hb4, h4, u5, _, m5, rfl, ha5, hb5, h5, rfl⟩ := hrec
   have hrl : recLen (St.fl ⟨x0, x1, x2, x3, x4, x5⟩) = Fl.len (.n x0) + Fl.len (.n x1) + Fl.len (.b x2) + Fl.len (.l 5 (exs x3)) + Fl.len (.l 6 (sts x4)) + Fl.len (.l 6 (sts x5)) := by simp [St.fl, recLen, Fl.len, Nat.add_assoc]
   have HNX : Hid (rowsLen ((sts l).take (j + 1)) = rowsLen ((sts l).take j) + (Fl.len (.n x0) + Fl.len (.n x1) + Fl.len (.b x2) + Fl.len (.l 5 (exs x3)) + Fl.len (.l 6 (sts x4)) + Fl.len (.l 6 (sts x5)))) := by show _ = _; rw [hnx, hrl]
   rw [hrl] at htk
   clear hx hxj hnx hrl hst
   have hgl := XB.lt
   have hsz := HO.size
   have hgpos : lo ≤ g ∧ g < hi := ⟨hg1, by omega⟩
   unfold Fl.Has at h0
   subst h0
   unfold Fl.Has at h1
   subst h1
   have hK0 : 0 ≤ kc := by omega
   have z := XB.free (j * 6)
   have q : wr.cell? ⟨g, j * 6, none⟩ = some (.int .i64 x0) := XB.cell (at_mid (i := 0) hp rfl)
   have X1 : Blk (wr.setCell ⟨g, j * 6, none⟩ (.int .i64 kc)) g T (pre ++ ([.int .i64 kc, .int .i64 x1, u2, u3, u4, u5] ++ rest')) := by
    have := XB.set (i := j * 6 + 0) (.int .i64 kc)
    rw [set_mid hp (by simp)] at this
    exact this
   have O1 : Out lo hi w (wr.setCell ⟨g, j * 6, none⟩ (.int .i64 kc)) := HO.trans (Out.put hgpos.1 hgpos.2)
   replace h2 := h2.stays (Stays.put9 (g := g) (i := j * 6) (v := .int .i64 kc) (by omega))
   replace h3 := h3.stays (Stays.put9 (g := g) (i := j * 6) (v := .int .i64 kc) (by omega))
   replace h4 := h4.stays (Stays.put9 (g := g) (i := j * 6) (v := .int .i64 kc) (by omega))
   replace h5 := h5.stays (Stays.put9 (g := g) (i := j * 6) (v := .int .i64 kc) (by omega))
   replace hrest := hrest.stays (Stays.put9 (g := g) (i := j * 6) (v := .int .i64 kc) (by omega))
   go_upto_region 6 with fail
   generalize wr.setCell ⟨g, j * 6, none⟩ (.int .i64 kc) = W1 at *
   clear z q XB HO
   obtain ⟨k1, hk1⟩ : ∃ z, z = kc + 1 := ⟨_, rfl⟩
   rw [← hk1]
   have kl1 : kc ≤ k1 ∧ k1 ≤ kc + 1 := by omega
   clear hk1
   have z := X1.free (j * 6 + 1)
   have q : W1.cell? ⟨g, j * 6 + 1, none⟩ = some (.int .i64 x1) := X1.cell (at_mid (i := 1) hp rfl)
   have X2 : Blk (W1.setCell ⟨g, j * 6 + 1, none⟩ (.int .i64 k1)) g T (pre ++ ([.int .i64 kc, .int .i64 k1, u2, u3, u4, u5] ++ rest')) := by
    have := X1.set (i := j * 6 + 1) (.int .i64 k1)
    rw [set_mid hp (by simp)] at this
    exact this
   have O2 : Out lo hi w (W1.setCell ⟨g, j * 6 + 1, none⟩ (.int .i64 k1)) := O1.trans (Out.put hgpos.1 hgpos.2)
   replace h2 := h2.stays (Stays.put9 (g := g) (i := j * 6 + 1) (v := .int .i64 k1) (by omega))
   replace h3 := h3.stays (Stays.put9 (g := g) (i := j * 6 + 1) (v := .int .i64 k1) (by omega))
   replace h4 := h4.stays (Stays.put9 (g := g) (i := j * 6 + 1) (v := .int .i64 k1) (by omega))
   replace h5 := h5.stays (Stays.put9 (g := g) (i := j * 6 + 1) (v := .int .i64 k1) (by omega))
   replace hrest := hrest.stays (Stays.put9 (g := g) (i := j * 6 + 1) (v := .int .i64 k1) (by omega))
   go_upto_region 8 with fail
   generalize W1.setCell ⟨g, j * 6 + 1, none⟩ (.int .i64 k1) = W2 at *
   clear z q X1 O1
   obtain ⟨k2, hk2⟩ : ∃ z, z = k1 + 1 := ⟨_, rfl⟩
   rw [← hk2]
   have kl2 : k1 ≤ k2 ∧ k2 ≤ k1 + 1 := by omega
   clear hk2
   have q : W2.cell? ⟨g, j * 6 + 2, none⟩ = some u2 := X2.cell (at_mid (i := 2) hp rfl)
   have hsz3 := O2.size
   have HC := (mkByte x2 (by simp only [Fl.len] at htk; omega)) W2 m1 m2 u2 k2 h2 (by omega) (by omega) (by omega)
   clear h2
   go_wp2_with fail
   refine HC.mono ?_
   rintro e W3 ⟨⟨k3, rfl, kl3, km3⟩, hOut⟩
   have X3 := hOut.blk X2 (.inl (by omega))
   have O3 := O2.trans (hOut.wide (lo' := lo) (hi' := hi) (by omega) (by omega))
   replace h3 := h3.stays (hOut.stays (by omega) (.inr (by omega)))
   replace h4 := h4.stays (hOut.stays (by omega) (.inr (by omega)))
   replace h5 := h5.stays (hOut.stays (by omega) (.inr (by omega)))
   replace hrest := hrest.stays (hOut.stays (by omega) (.inr (by omega)))
   clear HC q hOut X2 O2
   have q : W3.cell? ⟨g, j * 6 + 3, none⟩ = some u3 := X3.cell (at_mid (i := 3) hp rfl)
   have hsz4 := O3.size
   have HC := (mkExprS x3) W3 m2 m3 u3 k3 h3 (by omega) (by omega) (by omega)
   clear h3
   go_wp2_with fail
   refine HC.mono ?_
   rintro e W4 ⟨⟨k4, rfl, kl4, km4⟩, hOut⟩
   have X4 := hOut.blk X3 (.inl (by omega))
   have O4 := O3.trans (hOut.wide (lo' := lo) (hi' := hi) (by omega) (by omega))
   replace h4 := h4.stays (hOut.stays (by omega) (.inr (by omega)))
   replace h5 := h5.stays (hOut.stays (by omega) (.inr (by omega)))
   replace hrest := hrest.stays (hOut.stays (by omega) (.inr (by omega)))
   clear HC q hOut X3 O3
   have q : W4.cell? ⟨g, j * 6 + 4, none⟩ = some u4 := X4.cell (at_mid (i := 4) hp rfl)
   have hsz5 := O4.size
   have HC := (H4) W4 m3 m4 u4 k4 h4 (by omega) (by omega) (by omega)
   clear h4
   go_wp2_with fail
   refine HC.mono ?_
   rintro e W5 ⟨⟨k5, rfl, kl5, km5⟩, hOut⟩
   have X5 := hOut.blk X4 (.inl (by omega))
   have O5 := O4.trans (hOut.wide (lo' := lo) (hi' := hi) (by omega) (by omega))
   replace h5 := h5.stays (hOut.stays (by omega) (.inr (by omega)))
   replace hrest := hrest.stays (hOut.stays (by omega) (.inr (by omega)))
   clear HC q hOut X4 O4
   have q : W5.cell? ⟨g, j * 6 + 5, none⟩ = some u5 := X5.cell (at_mid (i := 5) hp rfl)
   have hsz6 := O5.size
   have HC := (H5) W5 m4 m5 u5 k5 h5 (by omega) (by omega) (by omega)
   clear h5
   go_wp2_with fail
   refine HC.mono ?_
   rintro e W6 ⟨⟨k6, rfl, kl6, km6⟩, hOut⟩
   have X6 := hOut.blk X5 (.inl (by omega))
   have O6 := O5.trans (hOut.wide (lo' := lo) (hi' := hi) (by omega) (by omega))
   replace hrest := hrest.stays (hOut.stays (by omega) (.inr (by omega)))
   clear HC q hOut X5 O5
   have HS1 : Hid (MkSt 6 (sts l) w lo hi g T W6 (j + 1)) := ⟨⟨pre ++ [.int .i64 kc, .int .i64 k1, u2, u3, u4, u5], rest', mid', by simpa [List.append_assoc] using X6, by simp [hp, Nat.add_mul], hrest, by omega, by omega⟩, O6⟩
   have HK1 : Hid (k6 ≤ k + 2 * (((j + 1 : Nat) : Int) + (rowsLen ((sts l).take (j + 1)) : Int))) := by show _ ≤ _; rw [HNX.out]; omega
   have hkf : k ≤ k6 := by omega
   clear X6 O6 hrest hkd hkd1
   go_wp2_with fail
   go_roundw
   case rel => exact ⟨j + 1, k6, by omega, by go_num, rfl, hkf, HK1, HS1⟩
   case measure => simp [intOf]; omega
  ·
   have : n = j := by omega
   subst this
   have hkd1 := hkd.out
   rw [List.take_of_length_le (by rw [show (sts l).length = l.length by simp [exs_map, sts_map, txts], HNL.out]; exact Nat.le_refl _), HRL.out] at hkd1
   go_wp2_with fail
   go_ret
   exact ⟨⟨kc, rfl, hkc, by omega⟩, hst.out.out⟩

mutual
theorem mkStA : ∀ x : St, ∀ k n a ks bs es, x = St.mk k n a ks bs es → MkF 71 (.l 6 (sts bs)) ∧ MkF 71 (.l 6 (sts es))
 | .mk _ _ _ _ b1 e1, k, n, a, ks, bs, es, h => by
  have h1 := mkStmtSR b1 (mkStsA b1)
  have h2 := mkStmtSR e1 (mkStsA e1)
  cases h
  exact ⟨h1, h2⟩
theorem mkStsA : ∀ l : List St, ∀ k n a ks bs es, St.mk k n a ks bs es ∈ l → MkF 71 (.l 6 (sts bs)) ∧ MkF 71 (.l 6 (sts es))
 | [], k, n, a, ks, bs, es, h => by simp at h
 | y :: l, k, n, a, ks, bs, es, h => by
  rcases List.mem_cons.1 h with h | h
  ·
   exact mkStA y k n a ks bs es h.symm
  ·
   exact mkStsA l k n a ks bs es h
end
theorem mkStmtS (l : List St) : MkF 71 (.l 6 (sts l)) := mkStmtSR l (mkStsA l)


set_option maxHeartbeats 8000000 in
theorem mkProcS (l : List (Pr)) : MkF 40 (.l 5 (l.map Pr.fl)) := by
 intro w lo hi v k hv hh hk0 hk1
 unfold Fl.Has at hv
 obtain ⟨g, vs, T, rfl, hg1, hg2, hgb, hm, hrows⟩ := hv
 have hml : (l.map Pr.fl).length = l.length := by simp [exs_map, sts_map, txts]
 simp only [Fl.len] at hk1 ⊢
 rw [hml] at hk1 hm ⊢
 obtain ⟨n, hn⟩ : ∃ z, z = l.length := ⟨_, rfl⟩
 rw [← hn] at hk1 hm hml ⊢
 have HNL : Hid (l.length = n) := hn.symm
 clear hn
 have hn9 : n ≤ 9223372036854775807 := by unfold maxLen at hm; omega
 generalize hRL : rowsLen (l.map Pr.fl) = RL at *
 have HRL : Hid (rowsLen (l.map Pr.fl) = RL) := hRL
 clear hRL
 have HS0 : Hid (MkSt 5 (l.map Pr.fl) w lo hi g T w 0) := ⟨⟨[], vs, g + 1, hgb, by simp, by simpa using hrows, by omega, by omega⟩, Out.refl _ _ _⟩
 clear hgb hrows hml
 go_enter Tryz.func40, Tryz.ntmps40
 go_wp2_with fail
 go_loopw [1, 5] (fun kk i wr => ∃ (j : Nat) (kc : Int), j ≤ n ∧ i = .int .i64 j ∧ kk = .int .i64 kc ∧ k ≤ kc ∧ Hid (kc ≤ k + 2 * ((j : Int) + (rowsLen ((l.map Pr.fl).take j) : Int))) ∧ Hid (MkSt 5 (l.map Pr.fl) w lo hi g T wr j)) (fun _ i _ => n - (intOf i).toNat)
 case atStart => exact ⟨0, k, Nat.zero_le _, rfl, rfl, Int.le_refl _, by show k ≤ _; simp [rowsLen], HS0⟩
 case round =>
  obtain ⟨j, kc, hj, rfl, rfl, hkc, hkd, hst⟩ := hrel
  clear HS0
  by_cases hlt : j < n
  ·
   obtain ⟨x, hx⟩ : ∃ x, l[j]? = some x := ⟨l[j]'(by rw [HNL.out]; exact hlt), List.getElem?_eq_getElem _⟩
   have hxj : (l.map Pr.fl)[j]? = some x.fl := by rw [List.getElem?_map, hx]; rfl
   obtain ⟨⟨pre, rest, mid, XB, hp, hr, hm1, hm2⟩, HO⟩ := hst.out
   rw [drop_at hxj] at hr
   unfold RowsHas at hr
   obtain ⟨us, rest', mid', rfl, hul, hA, hB, hrec, hrest⟩ := hr
   have hnx := rowsLen_next hxj
   have htk := rowsLen_take (l.map Pr.fl) (j + 1)
   rw [hnx, HRL.out] at htk
   have hkd1 := hkd.out
   unfold Pr.fl at hrec
   simp only [RecHas] at hrec
   obtain ⟨u0, _, m0, rfl, ha0, hb0, h0, u1, _, m1, rfl, ha1, hb1, h1, u2, _, m2, rfl, ha2, hb2, h2, u3, _, m3, rfl, ha3, hb3, h3, u4, _, m4, rfl, ha4, hb4, h4, rfl⟩ := hrec
   have hrl : recLen (x.fl) = Fl.len (.b x.name) + Fl.len (.t x.opn) + Fl.len (.l 2 (x.params.map Pa.fl)) + Fl.len (.l 1 (txts x.locals)) + Fl.len (.l 6 (sts x.body)) := by simp [Pr.fl, recLen, Fl.len, Nat.add_assoc]
   have HNX : Hid (rowsLen ((l.map Pr.fl).take (j + 1)) = rowsLen ((l.map Pr.fl).take j) + (Fl.len (.b x.name) + Fl.len (.t x.opn) + Fl.len (.l 2 (x.params.map Pa.fl)) + Fl.len (.l 1 (txts x.locals)) + Fl.len (.l 6 (sts x.body)))) := by show _ = _; rw [hnx, hrl]
   rw [hrl] at htk
   clear hx hxj hnx hrl hst
   have hgl := XB.lt
   have hsz := HO.size
   have hgpos : lo ≤ g ∧ g < hi := ⟨hg1, by omega⟩
   unfold Fl.Has at h1
   subst h1
   have hK0 : 0 ≤ kc := by omega
   have q : wr.cell? ⟨g, j * 5, none⟩ = some u0 := XB.cell (at_mid (i := 0) hp rfl)
   have hsz1 := HO.size
   have HC := (mkByte x.name (by simp only [Fl.len] at htk; omega)) wr mid m0 u0 kc h0 (by omega) (by omega) (by omega)
   clear h0
   go_wp2_with fail
   refine HC.mono ?_
   rintro e W1 ⟨⟨k1, rfl, kl1, km1⟩, hOut⟩
   have X1 := hOut.blk XB (.inl (by omega))
   have O1 := HO.trans (hOut.wide (lo' := lo) (hi' := hi) (by omega) (by omega))
   replace h2 := h2.stays (hOut.stays (by omega) (.inr (by omega)))
   replace h3 := h3.stays (hOut.stays (by omega) (.inr (by omega)))
   replace h4 := h4.stays (hOut.stays (by omega) (.inr (by omega)))
   replace hrest := hrest.stays (hOut.stays (by omega) (.inr (by omega)))
   clear HC q hOut XB HO
   go_upto_region 5 with fail
   have z := X1.free (j * 5 + 1)
   have q : W1.cell? ⟨g, j * 5 + 1, none⟩ = some (.bool x.opn) := X1.cell (at_mid (i := 1) hp rfl)
   have X2 : Blk (W1.setCell ⟨g, j * 5 + 1, none⟩ (.bool (k1 % 3 == 0))) g T (pre ++ ([u0, .bool (k1 % 3 == 0), u2, u3, u4] ++ rest')) := by
    have := X1.set (i := j * 5 + 1) (.bool (k1 % 3 == 0))
    rw [set_mid hp (by simp)] at this
    exact this
   have O2 : Out lo hi w (W1.setCell ⟨g, j * 5 + 1, none⟩ (.bool (k1 % 3 == 0))) := O1.trans (Out.put hgpos.1 hgpos.2)
   replace h2 := h2.stays (Stays.put9 (g := g) (i := j * 5 + 1) (v := .bool (k1 % 3 == 0)) (by omega))
   replace h3 := h3.stays (Stays.put9 (g := g) (i := j * 5 + 1) (v := .bool (k1 % 3 == 0)) (by omega))
   replace h4 := h4.stays (Stays.put9 (g := g) (i := j * 5 + 1) (v := .bool (k1 % 3 == 0)) (by omega))
   replace hrest := hrest.stays (Stays.put9 (g := g) (i := j * 5 + 1) (v := .bool (k1 % 3 == 0)) (by omega))
   go_upto_region 7 with fail
   generalize W1.setCell ⟨g, j * 5 + 1, none⟩ (.bool (k1 % 3 == 0)) = W2 at *
   clear z q X1 O1
   obtain ⟨k2, hk2⟩ : ∃ z, z = k1 + 1 := ⟨_, rfl⟩
   rw [← hk2]
   have kl2 : k1 ≤ k2 ∧ k2 ≤ k1 + 1 := by omega
   clear hk2
   have q : W2.cell? ⟨g, j * 5 + 2, none⟩ = some u2 := X2.cell (at_mid (i := 2) hp rfl)
   have hsz3 := O2.size
   have HC := (mkParamS x.params) W2 m1 m2 u2 k2 h2 (by omega) (by omega) (by omega)
   clear h2
   go_wp2_with fail
   refine HC.mono ?_
   rintro e W3 ⟨⟨k3, rfl, kl3, km3⟩, hOut⟩
   have X3 := hOut.blk X2 (.inl (by omega))
   have O3 := O2.trans (hOut.wide (lo' := lo) (hi' := hi) (by omega) (by omega))
   replace h3 := h3.stays (hOut.stays (by omega) (.inr (by omega)))
   replace h4 := h4.stays (hOut.stays (by omega) (.inr (by omega)))
   replace hrest := hrest.stays (hOut.stays (by omega) (.inr (by omega)))
   clear HC q hOut X2 O2
   have q : W3.cell? ⟨g, j * 5 + 3, none⟩ = some u3 := X3.cell (at_mid (i := 3) hp rfl)
   have hsz4 := O3.size
   have HC := (mkByteSS x.locals) W3 m2 m3 u3 k3 h3 (by omega) (by omega) (by omega)
   clear h3
   go_wp2_with fail
   refine HC.mono ?_
   rintro e W4 ⟨⟨k4, rfl, kl4, km4⟩, hOut⟩
   have X4 := hOut.blk X3 (.inl (by omega))
   have O4 := O3.trans (hOut.wide (lo' := lo) (hi' := hi) (by omega) (by omega))
   replace h4 := h4.stays (hOut.stays (by omega) (.inr (by omega)))
   replace hrest := hrest.stays (hOut.stays (by omega) (.inr (by omega)))
   clear HC q hOut X3 O3
   have q : W4.cell? ⟨g, j * 5 + 4, none⟩ = some u4 := X4.cell (at_mid (i := 4) hp rfl)
   have hsz5 := O4.size
   have HC := (mkStmtS x.body) W4 m3 m4 u4 k4 h4 (by omega) (by omega) (by omega)
   clear h4
   go_wp2_with fail
   refine HC.mono ?_
   rintro e W5 ⟨⟨k5, rfl, kl5, km5⟩, hOut⟩
   have X5 := hOut.blk X4 (.inl (by omega))
   have O5 := O4.trans (hOut.wide (lo' := lo) (hi' := hi) (by omega) (by omega))
   replace hrest := hrest.stays (hOut.stays (by omega) (.inr (by omega)))
   clear HC q hOut X4 O4
   have HS1 : Hid (MkSt 5 (l.map Pr.fl) w lo hi g T W5 (j + 1)) := ⟨⟨pre ++ [u0, .bool (k1 % 3 == 0), u2, u3, u4], rest', mid', by simpa [List.append_assoc] using X5, by simp [hp, Nat.add_mul], hrest, by omega, by omega⟩, O5⟩
   have HK1 : Hid (k5 ≤ k + 2 * (((j + 1 : Nat) : Int) + (rowsLen ((l.map Pr.fl).take (j + 1)) : Int))) := by show _ ≤ _; rw [HNX.out]; omega
   have hkf : k ≤ k5 := by omega
   clear X5 O5 hrest hkd hkd1
   go_wp2_with fail
   go_roundw
   case rel => exact ⟨j + 1, k5, by omega, by go_num, rfl, hkf, HK1, HS1⟩
   case measure => simp [intOf]; omega
  ·
   have : n = j := by omega
   subst this
   have hkd1 := hkd.out
   rw [List.take_of_length_le (by rw [show (l.map Pr.fl).length = l.length by simp [exs_map, sts_map, txts], HNL.out]; exact Nat.le_refl _), HRL.out] at hkd1
   go_wp2_with fail
   go_ret
   exact ⟨⟨kc, rfl, hkc, by omega⟩, hst.out.out⟩



set_option maxHeartbeats 4000000 in
theorem mkModule (x : Mo) (w : World) (lo hi : Nat) (us : List Value) (k : Int) (h : RecHas w lo hi x.fl us) (hh : hi ≤ w.heap.size) (hk0 : 0 ≤ k) (hk1 : k + 2 * (recLen x.fl : Int) ≤ 1073741824) :
  Calls Tryz.prog 11 #[.agg us.toArray, .int .i64 k] w fun e w' => (∃ k' : Int, e = .returned (.int .i64 k') ∧ k ≤ k' ∧ k' ≤ k + 2 * (recLen x.fl : Int)) ∧ Out lo hi w w' := by
 have hrl : recLen x.fl = Fl.len (.b x.name) + Fl.len (.l 1 (txts x.uses)) + Fl.len (.l 2 (x.vars.map Va.fl)) + Fl.len (.l 5 (x.procs.map Pr.fl)) := by simp [Mo.fl, recLen, Fl.len, Nat.add_assoc]
 rw [hrl] at hk1 ⊢
 unfold Mo.fl at h
 simp only [RecHas] at h
 obtain ⟨u0, _, m0, rfl, ha0, hb0, h0, u1, _, m1, rfl, ha1, hb1, h1, u2, _, m2, rfl, ha2, hb2, h2, u3, _, m3, rfl, ha3, hb3, h3, rfl⟩ := h
 clear hrl
 have x0 := Blk.new w 36 [u0, u1, u2, u3]
 have O0 : Out lo hi w (w.alloc (.cells #[u0, u1, u2, u3] 36 (0, 0))) := Out.grown (grown_alloc w _ none)
 replace h0 := h0.stays (Stays.of (hi := m0) (below_grown (grown_alloc w (.cells #[u0, u1, u2, u3] 36 (0, 0)) none)) (by omega))
 replace h1 := h1.stays (Stays.of (hi := m1) (below_grown (grown_alloc w (.cells #[u0, u1, u2, u3] 36 (0, 0)) none)) (by omega))
 replace h2 := h2.stays (Stays.of (hi := m2) (below_grown (grown_alloc w (.cells #[u0, u1, u2, u3] 36 (0, 0)) none)) (by omega))
 replace h3 := h3.stays (Stays.of (hi := m3) (below_grown (grown_alloc w (.cells #[u0, u1, u2, u3] 36 (0, 0)) none)) (by omega))
 have hgx : hi ≤ w.heap.size := hh
 go_enter Tryz.func11, Tryz.ntmps11
 go_upto_region 1 with fail
 generalize w.alloc (.cells #[u0, u1, u2, u3] 36 (0, 0)) = W0 at *
 obtain ⟨gx, hgx2⟩ : ∃ z, z = w.heap.size := ⟨_, rfl⟩
 rw [← hgx2] at x0 hgx ⊢
 clear hgx2
 have q := x0.cell (i := 0) rfl
 have hsz0 := O0.size
 have HC := (mkByte x.name (by (try simp only [Fl.len] at hk1); omega)) W0 lo m0 u0 k h0 (by omega) (by omega) (by omega)
 clear h0
 go_wp2_with fail
 refine HC.mono ?_
 rintro e W1 ⟨⟨k1, rfl, kl1, km1⟩, hOut⟩
 replace x0 := hOut.blk x0 (.inr (by omega))
 have O1 := O0.trans (hOut.wide (lo' := lo) (hi' := hi) (by omega) (by omega))
 replace h1 := h1.stays (hOut.stays (by omega) (.inr (by omega)))
 replace h2 := h2.stays (hOut.stays (by omega) (.inr (by omega)))
 replace h3 := h3.stays (hOut.stays (by omega) (.inr (by omega)))
 clear HC q hOut O0
 have q := x0.cell (i := 1) rfl
 have hsz1 := O1.size
 have HC := (mkByteSS x.uses) W1 m0 m1 u1 k1 h1 (by omega) (by omega) (by omega)
 clear h1
 go_wp2_with fail
 refine HC.mono ?_
 rintro e W2 ⟨⟨k2, rfl, kl2, km2⟩, hOut⟩
 replace x0 := hOut.blk x0 (.inr (by omega))
 have O2 := O1.trans (hOut.wide (lo' := lo) (hi' := hi) (by omega) (by omega))
 replace h2 := h2.stays (hOut.stays (by omega) (.inr (by omega)))
 replace h3 := h3.stays (hOut.stays (by omega) (.inr (by omega)))
 clear HC q hOut O1
 have q := x0.cell (i := 2) rfl
 have hsz2 := O2.size
 have HC := (mkVarS x.vars) W2 m1 m2 u2 k2 h2 (by omega) (by omega) (by omega)
 clear h2
 go_wp2_with fail
 refine HC.mono ?_
 rintro e W3 ⟨⟨k3, rfl, kl3, km3⟩, hOut⟩
 replace x0 := hOut.blk x0 (.inr (by omega))
 have O3 := O2.trans (hOut.wide (lo' := lo) (hi' := hi) (by omega) (by omega))
 replace h3 := h3.stays (hOut.stays (by omega) (.inr (by omega)))
 clear HC q hOut O2
 have q := x0.cell (i := 3) rfl
 have hsz3 := O3.size
 have HC := (mkProcS x.procs) W3 m2 m3 u3 k3 h3 (by omega) (by omega) (by omega)
 clear h3
 go_wp2_with fail
 refine HC.mono ?_
 rintro e W4 ⟨⟨k4, rfl, kl4, km4⟩, hOut⟩
 replace x0 := hOut.blk x0 (.inr (by omega))
 have O4 := O3.trans (hOut.wide (lo' := lo) (hi' := hi) (by omega) (by omega))
 clear HC q hOut O3
 have hf1 : k ≤ k4 := by omega
 have hf2 : k4 ≤ k + 2 * ((Fl.len (.b x.name) + Fl.len (.l 1 (txts x.uses)) + Fl.len (.l 2 (x.vars.map Va.fl)) + Fl.len (.l 5 (x.procs.map Pr.fl)) : Nat) : Int) := by omega
 go_wp2_with fail
 go_ret
 exact ⟨⟨k4, rfl, hf1, hf2⟩, O4⟩


end Go.Proofs.YtopnodadggohiaaGreatDoor

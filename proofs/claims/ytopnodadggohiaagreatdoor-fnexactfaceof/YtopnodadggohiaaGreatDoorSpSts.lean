/- What the specification tells of blocks. -/
import Derived.Test.YtopnodadggohiaaGreatDoorSpSt
namespace Go.Proofs.YtopnodadggohiaaGreatDoor
open Go.RowKit
set_option linter.unusedVariables false
set_option linter.unusedSimpArgs false
set_option maxRecDepth 100000

theorem six_of {α : Type} {l : List α} (h : l.length = 6) : ∃ a b c d e f, l = [a, b, c, d, e, f] := by
 match l, h with
 | [a, b, c, d, e, f], _ => exact ⟨a, b, c, d, e, f, rfl⟩

set_option maxHeartbeats 40000000 in
theorem spStsR (l : List St) (S : ∀ x ∈ l, SpSt x) : SpSts l := by
 intro w0 w a c g left d h hb hg hL hl0 hl1 hd0 hd1 hs
 have hln : (sts l).length = l.length := by simp [sts_map]
 have h9 : l.length ≤ 9223372036854775807 := by have h7 := h.cap; have h6 := h.most; unfold maxLen at h6; omega
 obtain ⟨n, hn⟩ : ∃ z, z = l.length := ⟨_, rfl⟩
 rw [← hn] at h9 hln ⊢
 have HN : Hid (l.length = n) := hn.symm
 clear hn
 have HLF : Hid (Lft w g (left - (ndSts (l.take 0) : Int))) := by show Lft _ _ _; simpa [ndSts] using hL
 have HB : Hid (Below w0.heap.size w0 w) := hb
 have HR : Hid (LRow w0 a c 6 (sts l)) := h
 clear hb hL h
 go_enter Tryz.func106, Tryz.ntmps106
 go_wp2_with fail
 go_loopw [7] (fun i wr => ∃ j : Nat, j ≤ n ∧ i = .int .i64 j ∧ Hid (w.grownBy wr (some g)) ∧ Hid (Lft wr g (left - (ndSts (l.take j) : Int))) ∧ Hid ((ndSts (l.take j) : Int) ≤ left) ∧ Hid (∀ i x, i < j → l[i]? = some x → fitSt x d (left - (ndSts (l.take i) : Int)) = true)) (fun i _ => n - (intOf i).toNat)
 case atStart => exact ⟨0, Nat.zero_le _, rfl, grown_refl _ _, HLF, by show (_ : Int) ≤ _; simp [ndSts]; omega, by show ∀ _ _, _; omega⟩
 case round =>
  obtain ⟨j, hj, rfl, hgr, hLj, hnj, hyes⟩ := hrel
  clear HLF
  have hb := below_at HB.out hgr.out hg
  by_cases hlt : j < n
  ·
   obtain ⟨b3, o3, rfl⟩ := LRow.addr HR.out (by rw [hln]; omega)
   obtain ⟨x, hx⟩ : ∃ x, l[j]? = some x := ⟨l[j]'(by rw [HN.out]; exact hlt), List.getElem?_eq_getElem _⟩
   have hxj : (sts l)[j]? = some x.fl := by rw [sts_map, List.getElem?_map, hx]; rfl
   obtain ⟨us, hvs, hcl⟩ := (LRow.el HR.out hxj).vals
   obtain ⟨u0, u1, u2, u3, u4, u5, rfl⟩ := six_of (hvs.len.trans (sts_len x))
   replace hcl : ∀ i v, _ → _ := fun i v hv => cell_on (hcl i v hv) hb
   have t0 : wr.cell? ⟨b3, o3 + j * 6, none⟩ = some u0 := hcl 0 _ rfl
   have t1 : wr.cell? ⟨b3, o3 + j * 6 + 1, none⟩ = some u1 := hcl 1 _ rfl
   have t2 : wr.cell? ⟨b3, o3 + j * 6 + 2, none⟩ = some u2 := hcl 2 _ rfl
   have t3 : wr.cell? ⟨b3, o3 + j * 6 + 3, none⟩ = some u3 := hcl 3 _ rfl
   have t4 : wr.cell? ⟨b3, o3 + j * 6 + 4, none⟩ = some u4 := hcl 4 _ rfl
   have t5 : wr.cell? ⟨b3, o3 + j * 6 + 5, none⟩ = some u5 := hcl 5 _ rfl
   have hsx : recLen x.fl ≤ 1048576 := Nat.le_trans (recLen_le (List.mem_of_getElem? hxj)) hs
   have HC := S x (List.mem_of_getElem? hx) w0 wr [u0, u1, u2, u3, u4, u5] g (left - (ndSts (l.take j) : Int)) d hvs hb hg hLj.out (by have := hnj.out; omega) (by omega) hd0 hd1 hsx
   simp only [agg] at HC
   have HJ : Hid (l[j]? = some x) := hx
   have HNX : Hid (ndSts (l.take (j + 1)) = ndSts (l.take j) + ndSt x) := ndSts_next hx
   clear hcl hx hxj hsx hvs
   generalize hsp : fitSt x d (left - (ndSts (l.take j) : Int)) = rr at *
   have HSP : Hid (fitSt x d (left - (ndSts (l.take j) : Int)) = rr) := hsp
   clear hsp
   go_wp2_with fail
   refine HC.mono ?_
   rintro e w4 ⟨rfl, hg4, hL4⟩
   have HG4 : Hid (w.grownBy w4 (some g)) := grown_trans hgr.out hg4
   have HL4 : Hid (rr = true → Lft w4 g (left - (ndSts (l.take j) : Int) - (ndSt x : Int))) := hL4
   clear HC t0 t1 t2 t3 t4 t5 hb hg4 hL4
   cases rr
   ·
    have he : Hid (fitSts l d left = false) := fitSts_no HJ.out HSP.out
    go_wp2_with fail
    go_ret
    rw [he.out]
    exact ⟨rfl, HG4.out, by simp⟩
   ·
    have hle := fitSt_le HSP.out
    have HL5 : Hid (Lft w4 g (left - (ndSts (l.take (j + 1)) : Int))) := by
     have := HL4.out rfl
     rw [show left - (ndSts (l.take j) : Int) - (ndSt x : Int) = left - (ndSts (l.take (j + 1)) : Int) by rw [HNX.out]; omega] at this
     exact this
    go_wp2_with fail
    go_roundw
    case rel => exact ⟨j + 1, by omega, by go_num, HG4, HL5, (by show (_ : Int) ≤ _; rw [HNX.out]; omega), (show ∀ i x, i < j + 1 → _ from fun i y hi hy => (Nat.lt_or_ge i j).elim (fun h => hyes.out i y h hy) (fun h => by
     obtain rfl : i = j := by omega
     rw [HJ.out] at hy
     cases hy
     exact HSP.out))⟩
    case measure => simp [intOf]; omega
  ·
   have : j = n := by omega
   subst this
   have HSE : Hid (fitSts l d left = true) := fitSts_yes (fun i y hy => hyes.out i y (by have := (List.getElem?_eq_some_iff.1 hy).1; rw [HN.out] at this; exact this) hy) hl0
   have hLf := hLj.out
   rw [List.take_of_length_le (by rw [HN.out]; exact Nat.le_refl _)] at hLf
   go_wp2_with fail
   go_ret
   rw [HSE.out]
   exact ⟨rfl, hgr.out, fun _ => hLf⟩

mutual
theorem spStT : ∀ x : St, SpSt x
 | .mk k n m ks bs es => spStR k n m ks bs es (spExsT ks) (spStsR bs (spStA bs)) (spStsR es (spStA es))
theorem spStA : ∀ (l : List St), ∀ x ∈ l, SpSt x
 | [], x, h => by simp at h
 | y :: l, x, h => by
  rcases List.mem_cons.1 h with h | h
  ·
   rw [h]; exact spStT y
  ·
   exact spStA l x h
end
theorem spStsT (l : List St) : SpSts l := spStsR l (spStA l)

end Go.Proofs.YtopnodadggohiaaGreatDoor

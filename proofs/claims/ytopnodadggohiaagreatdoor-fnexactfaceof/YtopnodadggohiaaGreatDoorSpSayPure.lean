/- Texts as the specification writes them: a blank ahead of each word of an expression. No function is walked here. -/
import Derived.Test.YtopnodadggohiaaGreatDoorPackC
namespace Go.Proofs.YtopnodadggohiaaGreatDoor
open Go.RowKit
set_option linter.unusedVariables false
set_option linter.unusedSimpArgs false

def exSay (k n : Int) (mod name : List Int) (ss : List (List Int)) : List Int :=
 if k = 0 then [32] ++ numI n
 else if k = 1 then [32] ++ name
 else if k = 2 then [32] ++ name ++ [32, 91] ++ ss[0]?.getD [] ++ [32, 93]
 else if k = 3 then [32, 40] ++ ss[0]?.getD [] ++ [32] ++ opI n ++ ss[1]?.getD [] ++ [32, 41]
 else if k = 4 then [32, 73, 78]
 else if k = 5 then [32, 76, 69, 78, 32] ++ name
 else if k = 6 then (if mod.length = 0 then [] else [32] ++ mod ++ [32, 46]) ++ [32] ++ name ++ [32, 40] ++ joinI [32, 44] ss ++ [32, 41]
 else [32, 64, 32] ++ name

mutual
def sayE : Ex → List Int
 | .mk k n m a ks => exSay k n m a (sayEs ks)
def sayEs : List Ex → List (List Int)
 | [] => []
 | e :: l => sayE e :: sayEs l
end
theorem sayEs_map (l : List Ex) : sayEs l = l.map sayE := by
 induction l with
 | nil => rfl
 | cons x l ih => simp [sayEs, ih]

/-- A text, and the same with the blank ahead instead of behind. -/
def Sw (t s : List Int) : Prop := 32 :: t = s ++ [32]

theorem join_sw : ∀ (ts ss : List (List Int)), ts.length = ss.length → (∀ (i : Nat) (t s : List Int), ts[i]? = some t → ss[i]? = some s → Sw t s) → Sw (joinI [44, 32] ts) (joinI [32, 44] ss)
 | [], [], _, _ => rfl
 | [], _ :: _, h, _ => by simp at h
 | _ :: _, [], h, _ => by simp at h
 | [t], [s], _, H => H 0 t s rfl rfl
 | [t], _ :: _ :: _, h, _ => by simp at h
 | _ :: _ :: _, [s], h, _ => by simp at h
 | t :: t2 :: ts, s :: s2 :: ss, h, H => by
  have h1 : Sw t s := H 0 t s rfl rfl
  have h2 := join_sw (t2 :: ts) (s2 :: ss) (by simpa using h) (fun i a b ha hb => H (i + 1) a b (by simpa using ha) (by simpa using hb))
  unfold Sw at h1 h2 ⊢
  simp only [joinI]
  calc 32 :: (t ++ [44, 32] ++ joinI [44, 32] (t2 :: ts)) = (32 :: t) ++ [44] ++ (32 :: joinI [44, 32] (t2 :: ts)) := by simp
   _ = s ++ [32] ++ [44] ++ (joinI [32, 44] (s2 :: ss) ++ [32]) := by rw [h1, h2]
   _ = s ++ [32, 44] ++ joinI [32, 44] (s2 :: ss) ++ [32] := by simp

theorem ex_sw {k n : Int} {mod name : List Int} {ts ss : List (List Int)} (hl : ts.length = ss.length) (H : ∀ (i : Nat) (t s : List Int), ts[i]? = some t → ss[i]? = some s → Sw t s) (h2 : k = 2 → 1 ≤ ts.length) (h3 : k = 3 → 2 ≤ ts.length) : Sw (exText k n mod name ts) (exSay k n mod name ss) := by
 have h0 : 1 ≤ ts.length → Sw (ts[0]?.getD []) (ss[0]?.getD []) := fun h => by
  rw [List.getElem?_eq_getElem (show 0 < ts.length by omega), List.getElem?_eq_getElem (show 0 < ss.length by omega)]
  exact H 0 _ _ (List.getElem?_eq_getElem _) (List.getElem?_eq_getElem _)
 have h1 : 2 ≤ ts.length → Sw (ts[1]?.getD []) (ss[1]?.getD []) := fun h => by
  rw [List.getElem?_eq_getElem (show 1 < ts.length by omega), List.getElem?_eq_getElem (show 1 < ss.length by omega)]
  exact H 1 _ _ (List.getElem?_eq_getElem _) (List.getElem?_eq_getElem _)
 have hj := join_sw ts ss hl H
 unfold exText exSay
 split
 ·
  simp [Sw]
 split
 ·
  simp [Sw]
 split
 ·
  rename_i hk
  have e0 := h0 (h2 hk)
  generalize ts[0]?.getD [] = t0 at *
  generalize ss[0]?.getD [] = s0 at *
  unfold Sw at e0 ⊢
  calc 32 :: (name ++ [32] ++ [91, 32] ++ t0 ++ [93, 32]) = [32] ++ name ++ [32, 91] ++ (32 :: t0) ++ [93, 32] := by simp
   _ = _ := by rw [e0]; simp
 split
 ·
  rename_i hk
  have hk' := h3 hk
  have e0 := h0 (by omega)
  have e1 := h1 hk'
  generalize ts[0]?.getD [] = t0 at *
  generalize ss[0]?.getD [] = s0 at *
  generalize ts[1]?.getD [] = t1 at *
  generalize ss[1]?.getD [] = s1 at *
  unfold Sw at e0 e1 ⊢
  calc 32 :: ([40, 32] ++ t0 ++ (opI n ++ [32]) ++ t1 ++ [41, 32]) = [32, 40] ++ (32 :: t0) ++ opI n ++ (32 :: t1) ++ [41, 32] := by simp
   _ = _ := by rw [e0, e1]; simp
 split
 ·
  rfl
 split
 ·
  simp [Sw]
 split
 ·
  generalize joinI [44, 32] ts = jt at *
  generalize joinI [32, 44] ss = js at *
  unfold Sw at hj ⊢
  split
  ·
   calc 32 :: ([] ++ (name ++ [32]) ++ ([40, 32] ++ jt ++ [41, 32])) = [32] ++ name ++ [32, 40] ++ (32 :: jt) ++ [41, 32] := by simp
    _ = _ := by rw [hj]; simp
  ·
   calc 32 :: (mod ++ [32] ++ [46, 32] ++ (name ++ [32]) ++ ([40, 32] ++ jt ++ [41, 32])) = [32] ++ mod ++ [32, 46] ++ [32] ++ name ++ [32, 40] ++ (32 :: jt) ++ [41, 32] := by simp
    _ = _ := by rw [hj]; simp
 ·
  simp [Sw]

mutual
theorem say_pr : ∀ x : Ex, okEx x = true → Sw (prE x) (sayE x)
 | .mk k n m a ks, h => by
  obtain ⟨h1, h2⟩ := okEx_loc h
  have h3 := says_pr ks h2
  have h4 := k_len h1
  rw [prE, sayE]
  refine ex_sw (by simp [prEs_map, sayEs_map]) (fun i t s ht hs => ?_) (fun hk => ?_) (fun hk => ?_)
  ·
   rw [prEs_map, List.getElem?_map] at ht
   rw [sayEs_map, List.getElem?_map] at hs
   cases hx : ks[i]? with
   | none => rw [hx] at ht; cases ht
   | some x =>
    rw [hx] at ht hs
    simp only [Option.map_some, Option.some.injEq] at ht hs
    subst ht hs
    exact h3 x (List.mem_of_getElem? hx)
  ·
   subst hk; simp [exLeast] at h4; simp [prEs_map]; omega
  ·
   subst hk; simp [exLeast] at h4; simp [prEs_map]; omega
theorem says_pr : ∀ l : List Ex, okExs l = true → ∀ x ∈ l, Sw (prE x) (sayE x)
 | [], _ => by simp
 | y :: l, h => by
  simp only [okExs, Bool.and_eq_true] at h
  have h1 := say_pr y h.1
  have h2 := says_pr l h.2
  intro x hx
  rcases List.mem_cons.1 hx with rfl | hx
  ·
   exact h1
  ·
   exact h2 x hx
end
theorem say_len {x : Ex} (h : okEx x = true) : (sayE x).length = (prE x).length := by
 have := congrArg List.length (say_pr x h)
 simpa using this.symm
end Go.Proofs.YtopnodadggohiaaGreatDoor

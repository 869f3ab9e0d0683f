/- Texts of calls: the module's name ahead. -/
import Derived.Test.YtajnfknldofjlaaGreatDoorPrWords
namespace Go.Proofs.YtajnfknldofjlaaGreatDoor
open Go.RowKit
set_option linter.unusedVariables false
set_option linter.unusedSimpArgs false
set_option maxRecDepth 100000

def modI (mod : List Int) : List Int := if mod.length = 0 then [] else mod ++ [32] ++ [46, 32]

theorem modC (mod : List Int) (a : Option Addr) (c : Nat) (w : World) (base g : Nat) (l : List Int) (v : Value) (h : BRow w a mod.length mod) (hp : Pg w base g l v) (hg : base ≤ g) (hok : mod.length = 0 ∨ nameOk mod true = true) (hsz : l.length + (modI mod).length ≤ 1000000000) :
    Calls Tryz.prog 196 #[.pointer (some ⟨g, 0, none⟩), .slice a mod.length c] w fun e w' => e = .returned (.tuple #[]) ∧ (∃ v', Pg w' base g (l ++ modI mod) v') ∧ Wrote base (some g) w w' := by
  by_cases h0 : mod.length = 0
  · have he : Hid (modI mod = []) := if_pos h0
    rw [h0]
    go_enter Tryz.func196, Tryz.ntmps196
    go_wp2_with fail
    have hfin : ∃ v', Pg w base g (l ++ modI mod) v' := ⟨v, by rw [he.out]; simpa using hp⟩
    exact bodyPost_end (results_none rfl _ _ _) rfl ⟨rfl, hfin, Wrote.refl _ _ _⟩
  · have he : modI mod = mod ++ [32] ++ [46, 32] := if_neg h0
    have hnm : nameOk mod true = true := hok.resolve_left h0
    have hpn := put_one_name (g := true) h.2.1 hnm
    have hall : putAll [strOfNums mod, ⟨#[46]⟩] = mod ++ [32] ++ [46, 32] := by
      have h2 := put_46
      unfold putAll at hpn h2 ⊢
      rw [List.flatMap_cons, h2]
      simp only [List.flatMap_cons, List.flatMap_nil, List.append_nil] at hpn
      rw [hpn]
    have kc := conv_bytes c h
    have hgl := hp.blk.lt
    have HQ := putC [strOfNums mod, ⟨#[46]⟩] w.heap.size 2 2 (w.alloc (.cells #[.string (strOfNums mod), .string ⟨#[46]⟩] 9)) base g _ _ (hp.grown (grown_alloc w _ none)) rfl (Blk.new w 9 [.string (strOfNums mod), .string ⟨#[46]⟩]) (by omega) (by rw [hall, ← he]; exact hsz) hg
    rw [hall, ← he] at HQ
    have hpos : (0 : Int) < (mod.length : Int) := by omega
    go_enter Tryz.func196, Tryz.ntmps196
    go_wp2_with fail
    refine HQ.mono ?_
    rintro e w1 ⟨rfl, hfin, hq⟩
    go_wp2_with fail
    exact bodyPost_end (results_none rfl _ _ _) rfl ⟨rfl, hfin, (Wrote.of (grown_alloc w (.cells #[.string (strOfNums mod), .string ⟨#[46]⟩] 9) none)).trans hq⟩
end Go.Proofs.YtajnfknldofjlaaGreatDoor

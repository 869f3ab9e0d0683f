/- Texts as tokens: what scan tells, as a plain function. No function is walked here. -/
import Derived.Test.YtajnfknldofjlaaGreatDoorForms
import Derived.Test.YtajnfknldofjlaaGreatDoorBytesEq
namespace Go.Proofs.YtajnfknldofjlaaGreatDoor
open Go.RowKit
set_option linter.unusedVariables false

structure Tok where
  kind : Int
  text : List Int
  pos : Int

def wr32 (n : Int) : Int := wrap64 (wrap32 n)
/-- Is it an int of 32 bits? -/
def fitB (n : Int) : Bool := n == wr32 n

def pieceB (x : Int) : Bool := upB x || lowB x || digB x
def beginB (l : List Int) : Bool := pieceB (l[0]?.getD 0) || (decide (l[0]?.getD 0 = 45) && (decide (1 < l.length) && digB (l[1]?.getD 0)))
def pieceLen : List Int → Nat
  | [] => 0
  | x :: l => if pieceB x then 1 + pieceLen l else 0
def tokSize (l : List Int) : Nat := if beginB l then 1 + pieceLen l.tail else if Lib.hasPrefix (Lib.bytesOf l) (Lib.bytesOf [58, 61]) then 2 else 1
/-- The bytes of a token's text, as the library has them. -/
def tB (l : List Int) : List UInt8 := (strOfNums l).data.toList
def decB (l : List Int) : Bool :=
  match Lib.atoiAll (tB l) with
  | .ok n => fitB n && (Lib.itoa n == (strOfNums l).toList)
  | _ => false
def fixedT : ByteArray := ⟨#[32, 77, 79, 68, 85, 76, 69, 32, 73, 77, 80, 79, 82, 84, 32, 86, 65, 82, 32, 80, 82, 79, 67, 32, 66, 69, 71, 73, 78, 32, 69, 78, 68, 32, 73, 70, 32, 84, 72, 69, 78, 32, 69, 76, 83, 69, 32, 87, 72, 73, 76, 69, 32, 68, 79, 32, 82, 69, 84, 85, 82, 78, 32, 79, 85, 84, 32, 84, 82, 65, 80, 32, 67, 65, 76, 76, 32, 73, 78, 32, 76, 69, 78, 32, 58, 61, 32, 59, 32, 46, 32, 44, 32, 40, 32, 41, 32, 91, 32, 93, 32, 42, 32, 64, 32, 43, 32, 45, 32, 47, 32, 60, 32, 61, 32]⟩
def fixB (l : List Int) : Bool := Lib.contains fixedT.data.toList (⟨#[32]⟩ ++ strOfNums l ++ ⟨#[32]⟩ : ByteArray).data.toList
def tokKind (l : List Int) : Int := if nameOk l false then 3 else if nameOk l true then 4 else if decB l then 5 else if fixB l then 2 else 0

theorem pieceLen_le : ∀ l : List Int, pieceLen l ≤ l.length
  | [] => Nat.le_refl _
  | x :: l => by
    have := pieceLen_le l
    unfold pieceLen
    split <;> simp <;> omega

/-- All tokens of a text from a place on; n: at least as many as there are bytes. -/
def lexP : Nat → List Int → Nat → List Tok
  | 0, _, _ => []
  | n + 1, l, i =>
    match l with
    | [] => []
    | x :: r => if x = 32 ∨ x = 10 then lexP n r (i + 1) else ⟨tokKind (l.take (tokSize l)), l.take (tokSize l), i⟩ :: lexP n (l.drop (tokSize l)) (i + tokSize l)

/-- What the laid variables hold: the tables; the errors of strconv; how long a text may be that is looked for in another way. -/
structure TabsR (w : World) : Prop extends Tabs w where
  syn : ∃ ev, w.cell? ⟨4, 0, none⟩ = some ev ∧ (ev = .nilIface ∨ ∃ te pe, ev = .iface te pe)
  rng : ∃ ev, w.cell? ⟨5, 0, none⟩ = some ev ∧ (ev = .nilIface ∨ ∃ te pe, ev = .iface te pe)
  most : ∃ m : Int, w.cell? ⟨3, 0, none⟩ = some (.int .i64 m)

theorem TabsR.below {w w' : World} (h : TabsR w) (hb : Below w.heap.size w w') : TabsR w' := by
  obtain ⟨a, ha, ha'⟩ := h.syn
  obtain ⟨b, hb1, hb'⟩ := h.rng
  obtain ⟨c, hc⟩ := h.most
  exact ⟨h.toTabs.below hb, ⟨a, cell_on ha hb, ha'⟩, ⟨b, cell_on hb1 hb, hb'⟩, ⟨c, cell_on hc hb⟩⟩
end Go.Proofs.YtajnfknldofjlaaGreatDoor

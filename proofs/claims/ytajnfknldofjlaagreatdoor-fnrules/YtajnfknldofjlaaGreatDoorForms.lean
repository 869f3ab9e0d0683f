/- The tables of forms, and what the program's functions of a form tell. By mkforms.py. -/
import Derived.Test.YtajnfknldofjlaaGreatDoorModPure
import Derived.Test.YtajnfknldofjlaaGreatDoorTreeTo
import Derived.Test.YtajnfknldofjlaaGreatDoorShelf
import Derived.Deep.RegionHeld3
namespace Go.Proofs.YtajnfknldofjlaaGreatDoor
open Go.RowKit
set_option linter.unusedVariables false
set_option linter.unusedSimpArgs false
set_option maxRecDepth 100000

/-- A form: its text, N's bounds, how many Kids. -/
structure Fm where
  txt : List UInt8
  lo : Int
  hi : Int
  le : Int
  mo : Int

def exF : Nat → Fm
  | 0 => ⟨[110, 117, 109], -2147483648, 2147483647, 0, 0⟩
  | 1 => ⟨[110, 97, 109, 101], 0, 0, 0, 0⟩
  | 2 => ⟨[110, 97, 109, 101, 32, 91, 32, 107, 105, 100, 32, 93], 0, 0, 1, 1⟩
  | 3 => ⟨[40, 32, 107, 105, 100, 32, 111, 112, 32, 107, 105, 100, 32, 41], 0, 5, 2, 2⟩
  | 4 => ⟨[73, 78], 0, 0, 0, 0⟩
  | 5 => ⟨[76, 69, 78, 32, 110, 97, 109, 101], 0, 0, 0, 0⟩
  | 6 => ⟨[109, 111, 100, 32, 110, 97, 109, 101, 32, 97, 114, 103, 115], 0, 0, 0, 4⟩
  | _ => ⟨[64, 32, 110, 97, 109, 101], 0, 0, 0, 0⟩
def stF : Nat → Fm
  | 0 => ⟨[110, 97, 109, 101, 32, 58, 61, 32, 107, 105, 100, 32, 59], 0, 0, 1, 1⟩
  | 1 => ⟨[110, 97, 109, 101, 32, 91, 32, 107, 105, 100, 32, 93, 32, 58, 61, 32, 107, 105, 100, 32, 59], 0, 0, 2, 2⟩
  | 2 => ⟨[73, 70, 32, 107, 105, 100, 32, 84, 72, 69, 78, 32, 98, 111, 100, 121, 32, 69, 76, 83, 69, 32, 101, 108, 115, 101, 32, 69, 78, 68, 32, 59], 0, 0, 1, 1⟩
  | 3 => ⟨[87, 72, 73, 76, 69, 32, 107, 105, 100, 32, 68, 79, 32, 98, 111, 100, 121, 32, 69, 78, 68, 32, 59], 0, 0, 1, 1⟩
  | 4 => ⟨[82, 69, 84, 85, 82, 78, 32, 107, 105, 100, 32, 59], 0, 0, 1, 1⟩
  | 5 => ⟨[79, 85, 84, 32, 107, 105, 100, 32, 59], 0, 0, 1, 1⟩
  | 6 => ⟨[84, 82, 65, 80, 32, 110, 117, 109, 32, 59], 0, 99, 0, 0⟩
  | _ => ⟨[67, 65, 76, 76, 32, 99, 97, 108, 108, 32, 59], 0, 0, 1, 1⟩
def wName : List UInt8 := [110, 97, 109, 101]
def wBody : List UInt8 := [98, 111, 100, 121]
def wElse : List UInt8 := [101, 108, 115, 101]
def wCall : List UInt8 := [99, 97, 108, 108]
def wMod : List UInt8 := [109, 111, 100]

def Fm.val (f : Fm) : Value := .agg #[.string ⟨f.txt.toArray⟩, .int .i64 f.lo, .int .i64 f.hi, .int .i64 f.le, .int .i64 f.mo]
def Fm.words (f : Fm) : List (List UInt8) := Lib.fields f.txt
def hasW (f : Fm) (wd : List UInt8) : Bool := f.words.any fun x => decide (x = wd)

/-- The form lies there. -/
structure FmAt (w : World) (g o : Nat) (f : Fm) : Prop where
  c0 : w.cell? ⟨g, o, none⟩ = some (.string ⟨f.txt.toArray⟩)
  c1 : w.cell? ⟨g, o + 1, none⟩ = some (.int .i64 f.lo)
  c2 : w.cell? ⟨g, o + 2, none⟩ = some (.int .i64 f.hi)
  c3 : w.cell? ⟨g, o + 3, none⟩ = some (.int .i64 f.le)
  c4 : w.cell? ⟨g, o + 4, none⟩ = some (.int .i64 f.mo)

theorem FmAt.below {w w' : World} {g o : Nat} {f : Fm} (h : FmAt w g o f) (hb : Below w.heap.size w w') : FmAt w' g o f :=
  ⟨cell_on h.c0 hb, cell_on h.c1 hb, cell_on h.c2 hb, cell_on h.c3 hb, cell_on h.c4 hb⟩

/-- What the program's own text lays ahead of every call. -/
structure Tabs (w : World) : Prop where
  ex : ∀ i, i < 8 → FmAt w 7 (i * 5) (exF i)
  st : ∀ i, i < 8 → FmAt w 0 (i * 5) (stF i)
  sp : Lib.TabIs Tryz.prog w "strings.asciiSpace" .u8 Lib.asciiSpaceTab
  p10 : Lib.TabIs Tryz.prog w "internal/strconv.uint64pow10" .u64 Lib.pow10Tab

theorem tab_below {w w' : World} {n : String} {k : IntKind} {zs : List Int} {g : Nat} (hg : Tryz.prog.globalNamed n = some g) (h : Lib.TabIs Tryz.prog w n k zs) (hb : Below w.heap.size w w') : Lib.TabIs Tryz.prog w' n k zs := by
  unfold Lib.TabIs World.var? at h ⊢
  rw [hg] at h ⊢
  simp only [Option.bind_some] at h ⊢
  cases hw : w.heap[g]? with
  | none => rw [hw] at h; cases h
  | some o =>
    rw [hb.block g (Array.getElem?_eq_some_iff.1 hw).1, hw]
    rw [hw] at h
    exact h

theorem gSp : Tryz.prog.globalNamed "strings.asciiSpace" = some 6 := by kernel_rfl
theorem gP10 : Tryz.prog.globalNamed "internal/strconv.uint64pow10" = some 9 := by kernel_rfl

theorem Tabs.below {w w' : World} (h : Tabs w) (hb : Below w.heap.size w w') : Tabs w' :=
  ⟨fun i hi => (h.ex i hi).below hb, fun i hi => (h.st i hi).below hb, tab_below gSp h.sp hb, tab_below gP10 h.p10 hb⟩

/-- A text that strings.Fields takes apart by blanks. -/
def Fm.plain (f : Fm) : Prop := f.txt.length < 4294967281 ∧ (∀ (j : Nat) b, f.txt[j]? = some b → b.toNat < 128) ∧ f.words.length ≤ 100 ∧ 0 < f.words.length

theorem plain_of {f : Fm} (h : (decide (f.txt.length < 4294967281) && (f.txt.all fun b => decide (b.toNat < 128)) && decide (f.words.length ≤ 100) && decide (0 < f.words.length)) = true) : f.plain := by
  simp only [Bool.and_eq_true, decide_eq_true_eq, List.all_eq_true] at h
  exact ⟨h.1.1.1, fun j b hb => h.1.1.2 b (List.mem_of_getElem? hb), h.1.2, h.2⟩

theorem exPlain (i : Nat) : (exF i).plain := by
  match i with
  | 0 => exact plain_of (by decide)
  | 1 => exact plain_of (by decide)
  | 2 => exact plain_of (by decide)
  | 3 => exact plain_of (by decide)
  | 4 => exact plain_of (by decide)
  | 5 => exact plain_of (by decide)
  | 6 => exact plain_of (by decide)
  | n + 7 => exact plain_of (f := exF 7) (by decide)
theorem stPlain (i : Nat) : (stF i).plain := by
  match i with
  | 0 => exact plain_of (by decide)
  | 1 => exact plain_of (by decide)
  | 2 => exact plain_of (by decide)
  | 3 => exact plain_of (by decide)
  | 4 => exact plain_of (by decide)
  | 5 => exact plain_of (by decide)
  | 6 => exact plain_of (by decide)
  | n + 7 => exact plain_of (f := stF 7) (by decide)

def strs (l : List (List UInt8)) : List Value := l.map fun x => .string ⟨x.toArray⟩

theorem wordsC (f : Fm) (hp : f.plain) (w : World) (ht : Tabs w) :
    Calls Tryz.prog 119 #[f.val] w fun e w' => ∃ g, e = .returned (.slice (some ⟨g, 0, none⟩) f.words.length f.words.length) ∧ Blk w' g 9 (strs f.words) ∧ w.heap.size ≤ g ∧ w.grownBy w' none := by
  have y0 := grown_alloc w (.cells #[.string ⟨f.txt.toArray⟩, .int .i64 f.lo, .int .i64 f.hi, .int .i64 f.le, .int .i64 f.mo] 153 (0, 0)) none
  have q0 := cell_new w 153 #[.string ⟨f.txt.toArray⟩, .int .i64 f.lo, .int .i64 f.hi, .int .i64 f.le, .int .i64 f.mo] 0 _ rfl
  have H := Tryz.strings_Fields ⟨f.txt.toArray⟩ _ (by simpa [ByteArray.size] using hp.1) (by simpa using hp.2.1) (ht.below (below_grown y0)).sp
  unfold Fm.val
  clear ht
  simp only [List.toList_toArray] at H
  go_enter Tryz.func119, Tryz.ntmps119
  go_upto_region 1 with fail
  generalize w.alloc (.cells #[.string ⟨f.txt.toArray⟩, .int .i64 f.lo, .int .i64 f.hi, .int .i64 f.le, .int .i64 f.mo] 153 (0, 0)) = w1 at *
  go_wp2_with fail
  refine H.mono ?_
  rintro e w2 ⟨rfl, rfl⟩
  go_wp2_with fail
  go_ret
  exact ⟨_, rfl, heap_alloc_new w1 _, y0.size, grown_trans y0 (grown_alloc _ _ _)⟩

theorem bytes_eq (a b : List UInt8) : ((⟨a.toArray⟩ : ByteArray) = ⟨b.toArray⟩) ↔ a = b := by
  constructor
  · intro h
    have h1 := congrArg (fun x => x.data.toList) h
    simpa using h1
  · intro h; rw [h]

theorem hasC (f : Fm) (hp : f.plain) (wd : List UInt8) (w : World) (ht : Tabs w) :
    Calls Tryz.prog 176 #[f.val, .string ⟨wd.toArray⟩] w fun e w' => e = .returned (.bool (hasW f wd)) ∧ w.grownBy w' none := by
  have y0 := grown_alloc w (.cells #[.string ⟨f.txt.toArray⟩, .int .i64 f.lo, .int .i64 f.hi, .int .i64 f.le, .int .i64 f.mo] 153 (0, 0)) none
  have q0 := cell_new w 153 #[.string ⟨f.txt.toArray⟩, .int .i64 f.lo, .int .i64 f.hi, .int .i64 f.le, .int .i64 f.mo] 0 _ rfl
  have q1 := cell_new w 153 #[.string ⟨f.txt.toArray⟩, .int .i64 f.lo, .int .i64 f.hi, .int .i64 f.le, .int .i64 f.mo] 1 _ rfl
  have q2 := cell_new w 153 #[.string ⟨f.txt.toArray⟩, .int .i64 f.lo, .int .i64 f.hi, .int .i64 f.le, .int .i64 f.mo] 2 _ rfl
  have q3 := cell_new w 153 #[.string ⟨f.txt.toArray⟩, .int .i64 f.lo, .int .i64 f.hi, .int .i64 f.le, .int .i64 f.mo] 3 _ rfl
  have q4 := cell_new w 153 #[.string ⟨f.txt.toArray⟩, .int .i64 f.lo, .int .i64 f.hi, .int .i64 f.le, .int .i64 f.mo] 4 _ rfl
  have H := wordsC f hp _ (ht.below (below_grown y0))
  have hlen := hp.2.2.1
  have hpos := hp.2.2.2
  unfold Fm.val at H ⊢
  clear ht
  go_enter Tryz.func176, Tryz.ntmps176
  go_upto_region 1 with fail
  generalize w.alloc (.cells #[.string ⟨f.txt.toArray⟩, .int .i64 f.lo, .int .i64 f.hi, .int .i64 f.le, .int .i64 f.mo] 153 (0, 0)) = w1 at *
  go_wp2_with fail
  refine H.mono ?_
  rintro e w2 ⟨g, rfl, hB, hg, y1⟩
  have HC := Tryz.slices_Contains_string g 0 f.words.length f.words.length (f.words.map fun x => ⟨x.toArray⟩) ⟨wd.toArray⟩ w2 (by simp) (by omega) (fun j hj => by
    have hj : j < f.words.length := by simpa using hj
    rw [Nat.zero_add]
    refine hB.cell ?_
    simp [strs, List.getD, hj])
  have he : Hid (Lib.containsS ((f.words.map fun x => ⟨x.toArray⟩).take f.words.length) ⟨wd.toArray⟩ = hasW f wd) := by
    show _ = _
    rw [List.take_of_length_le (by simp), Bool.eq_iff_iff, Lib.containsS_iff]
    unfold hasW
    rw [List.any_eq_true]
    constructor
    · intro h
      obtain ⟨x, hx, e⟩ := List.mem_map.1 h
      exact ⟨x, hx, by simpa using (bytes_eq x wd).1 e⟩
    · rintro ⟨x, hx, e⟩
      exact List.mem_map.2 ⟨x, hx, (bytes_eq x wd).2 (by simpa using e)⟩
  clear H hB q0 q1 q2 q3 q4
  go_wp2_with fail
  refine HC.mono ?_
  rintro e w3 ⟨rfl, rfl⟩
  go_wp2_with fail
  go_ret
  exact ⟨ret_bool he.out, grown_trans y0 y1⟩

def fTakes (f : Fm) (n : Int) (name : List Int) (nk : Nat) : Bool := inB n f.lo f.hi && inB nk f.le f.mo && (if hasW f wName then nameOk name false else decide (name.length = 0))

set_option maxHeartbeats 1000000 in
theorem takesC (f : Fm) (hp : f.plain) (n : Int) (a : Option Addr) (c : Nat) (name : List Int) (nk : Nat) (w : World) (ht : Tabs w) (hr : BRow w a name.length name) (hn : name.length ≤ 1073741824) (hc : name.length ≤ c) :
    Calls Tryz.prog 175 #[f.val, .int .i64 n, .slice a name.length c, .int .i64 nk] w fun e w' => e = .returned (.bool (fTakes f n name nk)) ∧ w.grownBy w' none := by
  have y0 := grown_alloc w (.cells #[.string ⟨f.txt.toArray⟩, .int .i64 f.lo, .int .i64 f.hi, .int .i64 f.le, .int .i64 f.mo] 153 (0, 0)) none
  have x0 := Blk.new w 153 [.string ⟨f.txt.toArray⟩, .int .i64 f.lo, .int .i64 f.hi, .int .i64 f.le, .int .i64 f.mo]
  have hfe : Hid (fTakes f n name nk = (inB n f.lo f.hi && inB nk f.le f.mo && (if hasW f wName then nameOk name false else decide (name.length = 0)))) := rfl
  have ht1 := ht.below (below_grown y0)
  have hr1 := hr.below (below_grown y0)
  simp only [List.toArray] at x0
  unfold Fm.val
  clear ht hr
  go_enter Tryz.func175, Tryz.ntmps175
  go_upto_region 1 with fail
  generalize w.alloc (.cells #[.string ⟨f.txt.toArray⟩, .int .i64 f.lo, .int .i64 f.hi, .int .i64 f.le, .int .i64 f.mo] 153 (0, 0)) = w1 at *
  have q0 := x0.cell (i := 0) rfl
  have q1 := x0.cell (i := 1) rfl
  have q2 := x0.cell (i := 2) rfl
  have q3 := x0.cell (i := 3) rfl
  have q4 := x0.cell (i := 4) rfl
  have R1 := inRangeC n f.lo f.hi w1
  have R2 := inRangeC nk f.le f.mo w1
  go_wp2_with fail
  refine R1.mono ?_
  rintro e w1 ⟨rfl, rfl⟩
  clear R1
  rw [show (decide (f.lo ≤ n) && decide (n ≤ f.hi)) = inB n f.lo f.hi from rfl]
  cases e1 : inB n f.lo f.hi
  · have he : Hid (fTakes f n name nk = false) := by show _ = _; rw [hfe.out, e1]; rfl
    clear e1
    go_wp2_with fail
    go_ret
    exact ⟨ret_bool he.out.symm, y0⟩
  have hf2 : Hid (fTakes f n name nk = (inB nk f.le f.mo && (if hasW f wName then nameOk name false else decide (name.length = 0)))) := by show _ = _; rw [hfe.out, e1]; rfl
  clear e1 hfe
  go_wp2_with fail
  refine R2.mono ?_
  rintro e w1 ⟨rfl, rfl⟩
  clear R2
  rw [show (decide (f.le ≤ (nk : Int)) && decide ((nk : Int) ≤ f.mo)) = inB nk f.le f.mo from rfl]
  cases e1 : inB nk f.le f.mo
  · have he : Hid (fTakes f n name nk = false) := by show _ = _; rw [hf2.out, e1]; rfl
    clear e1
    go_wp2_with fail
    go_ret
    exact ⟨ret_bool he.out.symm, y0⟩
  have hf3 : Hid (fTakes f n name nk = (if hasW f wName then nameOk name false else decide (name.length = 0))) := by show _ = _; rw [hf2.out, e1]; rfl
  clear e1 hf2
  have HW := hasC f hp wName w1 ht1
  unfold Fm.val at HW
  unfold wName at HW
  go_wp2_with fail
  refine HW.mono ?_
  rintro e w2 ⟨rfl, hg2⟩
  have ht2 := ht1.below (below_grown hg2)
  have hr2 := hr1.below (below_grown hg2)
  replace x0 := x0.below (below_grown hg2) x0.lt
  have y2 := grown_trans y0 hg2
  clear HW q0 q1 q2 q3 q4 hg2
  have q0 := x0.cell (i := 0) rfl
  have q1 := x0.cell (i := 1) rfl
  have q2 := x0.cell (i := 2) rfl
  have q3 := x0.cell (i := 3) rfl
  have q4 := x0.cell (i := 4) rfl
  rw [show ([110, 97, 109, 101] : List UInt8) = wName from rfl]
  cases e1 : hasW f wName
  · have hf4 : Hid (fTakes f n name nk = decide (name.length = 0)) := by show _ = _; rw [hf3.out, e1]; rfl
    have HW := hasC f hp wName w2 ht2
    rw [e1] at HW
    unfold Fm.val wName at HW
    clear e1 hf3
    go_wp2_with fail
    refine HW.mono ?_
    rintro e w3 ⟨rfl, hg3⟩
    clear HW q0 q1 q2 q3 q4
    have y3 := grown_trans y2 hg3
    by_cases hz : name.length = 0
    · have he : Hid (fTakes f n name nk = true) := by show _ = _; rw [hf4.out]; exact decide_eq_true hz
      rw [hz]
      go_wp2_with fail
      go_ret
      exact ⟨ret_bool he.out.symm, y3⟩
    · have he : Hid (fTakes f n name nk = false) := by show _ = _; rw [hf4.out]; exact decide_eq_false hz
      have hz' : ((name.length : Int) == 0) = false := by simpa using hz
      go_wp2_with fail
      go_ret
      exact ⟨ret_bool (he.out.symm ▸ (by simp)), y3⟩
  · have hf4 : Hid (fTakes f n name nk = nameOk name false) := by show _ = _; rw [hf3.out, e1]; rfl
    have HN := implNameOk a name.length c name false w2 hr2 hn hc
    have HW := hasC f hp wName w2 ht2
    rw [e1] at HW
    unfold Fm.val wName at HW
    clear e1 hf3
    go_wp2_with fail
    refine HN.mono ?_
    rintro e w2 ⟨rfl, rfl⟩
    clear HN
    cases e2 : nameOk name false
    · have he : Hid (fTakes f n name nk = false) := by show _ = _; rw [hf4.out, e2]
      clear e2
      go_wp2_with fail
      refine HW.mono ?_
      rintro e w3 ⟨rfl, hg3⟩
      go_wp2_with fail
      go_ret
      exact ⟨ret_bool he.out.symm, grown_trans y2 hg3⟩
    · have he : Hid (fTakes f n name nk = true) := by show _ = _; rw [hf4.out, e2]
      clear e2
      go_wp2_with fail
      go_ret
      exact ⟨ret_bool he.out.symm, y2⟩

theorem exHasName0 : hasW (exF 0) wName = false := by decide
theorem exHasName1 : hasW (exF 1) wName = true := by decide
theorem exHasName2 : hasW (exF 2) wName = true := by decide
theorem exHasName3 : hasW (exF 3) wName = false := by decide
theorem exHasName4 : hasW (exF 4) wName = false := by decide
theorem exHasName5 : hasW (exF 5) wName = true := by decide
theorem exHasName6 : hasW (exF 6) wName = true := by decide
theorem exHasName7 : hasW (exF 7) wName = true := by decide
theorem exHasBody0 : hasW (exF 0) wBody = false := by decide
theorem exHasBody1 : hasW (exF 1) wBody = false := by decide
theorem exHasBody2 : hasW (exF 2) wBody = false := by decide
theorem exHasBody3 : hasW (exF 3) wBody = false := by decide
theorem exHasBody4 : hasW (exF 4) wBody = false := by decide
theorem exHasBody5 : hasW (exF 5) wBody = false := by decide
theorem exHasBody6 : hasW (exF 6) wBody = false := by decide
theorem exHasBody7 : hasW (exF 7) wBody = false := by decide
theorem exHasElse0 : hasW (exF 0) wElse = false := by decide
theorem exHasElse1 : hasW (exF 1) wElse = false := by decide
theorem exHasElse2 : hasW (exF 2) wElse = false := by decide
theorem exHasElse3 : hasW (exF 3) wElse = false := by decide
theorem exHasElse4 : hasW (exF 4) wElse = false := by decide
theorem exHasElse5 : hasW (exF 5) wElse = false := by decide
theorem exHasElse6 : hasW (exF 6) wElse = false := by decide
theorem exHasElse7 : hasW (exF 7) wElse = false := by decide
theorem exHasCall0 : hasW (exF 0) wCall = false := by decide
theorem exHasCall1 : hasW (exF 1) wCall = false := by decide
theorem exHasCall2 : hasW (exF 2) wCall = false := by decide
theorem exHasCall3 : hasW (exF 3) wCall = false := by decide
theorem exHasCall4 : hasW (exF 4) wCall = false := by decide
theorem exHasCall5 : hasW (exF 5) wCall = false := by decide
theorem exHasCall6 : hasW (exF 6) wCall = false := by decide
theorem exHasCall7 : hasW (exF 7) wCall = false := by decide
theorem exHasMod0 : hasW (exF 0) wMod = false := by decide
theorem exHasMod1 : hasW (exF 1) wMod = false := by decide
theorem exHasMod2 : hasW (exF 2) wMod = false := by decide
theorem exHasMod3 : hasW (exF 3) wMod = false := by decide
theorem exHasMod4 : hasW (exF 4) wMod = false := by decide
theorem exHasMod5 : hasW (exF 5) wMod = false := by decide
theorem exHasMod6 : hasW (exF 6) wMod = true := by decide
theorem exHasMod7 : hasW (exF 7) wMod = false := by decide
theorem stHasName0 : hasW (stF 0) wName = true := by decide
theorem stHasName1 : hasW (stF 1) wName = true := by decide
theorem stHasName2 : hasW (stF 2) wName = false := by decide
theorem stHasName3 : hasW (stF 3) wName = false := by decide
theorem stHasName4 : hasW (stF 4) wName = false := by decide
theorem stHasName5 : hasW (stF 5) wName = false := by decide
theorem stHasName6 : hasW (stF 6) wName = false := by decide
theorem stHasName7 : hasW (stF 7) wName = false := by decide
theorem stHasBody0 : hasW (stF 0) wBody = false := by decide
theorem stHasBody1 : hasW (stF 1) wBody = false := by decide
theorem stHasBody2 : hasW (stF 2) wBody = true := by decide
theorem stHasBody3 : hasW (stF 3) wBody = true := by decide
theorem stHasBody4 : hasW (stF 4) wBody = false := by decide
theorem stHasBody5 : hasW (stF 5) wBody = false := by decide
theorem stHasBody6 : hasW (stF 6) wBody = false := by decide
theorem stHasBody7 : hasW (stF 7) wBody = false := by decide
theorem stHasElse0 : hasW (stF 0) wElse = false := by decide
theorem stHasElse1 : hasW (stF 1) wElse = false := by decide
theorem stHasElse2 : hasW (stF 2) wElse = true := by decide
theorem stHasElse3 : hasW (stF 3) wElse = false := by decide
theorem stHasElse4 : hasW (stF 4) wElse = false := by decide
theorem stHasElse5 : hasW (stF 5) wElse = false := by decide
theorem stHasElse6 : hasW (stF 6) wElse = false := by decide
theorem stHasElse7 : hasW (stF 7) wElse = false := by decide
theorem stHasCall0 : hasW (stF 0) wCall = false := by decide
theorem stHasCall1 : hasW (stF 1) wCall = false := by decide
theorem stHasCall2 : hasW (stF 2) wCall = false := by decide
theorem stHasCall3 : hasW (stF 3) wCall = false := by decide
theorem stHasCall4 : hasW (stF 4) wCall = false := by decide
theorem stHasCall5 : hasW (stF 5) wCall = false := by decide
theorem stHasCall6 : hasW (stF 6) wCall = false := by decide
theorem stHasCall7 : hasW (stF 7) wCall = true := by decide
theorem stHasMod0 : hasW (stF 0) wMod = false := by decide
theorem stHasMod1 : hasW (stF 1) wMod = false := by decide
theorem stHasMod2 : hasW (stF 2) wMod = false := by decide
theorem stHasMod3 : hasW (stF 3) wMod = false := by decide
theorem stHasMod4 : hasW (stF 4) wMod = false := by decide
theorem stHasMod5 : hasW (stF 5) wMod = false := by decide
theorem stHasMod6 : hasW (stF 6) wMod = false := by decide
theorem stHasMod7 : hasW (stF 7) wMod = false := by decide
end Go.Proofs.YtajnfknldofjlaaGreatDoor

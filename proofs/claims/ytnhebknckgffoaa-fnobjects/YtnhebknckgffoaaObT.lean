/- Objects that are being drawn: what reads there, and which blocks it lies in, by their types. No function is walked here. -/
import Derived.Test.YtnhebknckgffoaaPackA
import Derived.Test.YtnhebknckgffoaaInsApp
import Derived.Test.YtnhebknckgffoaaDrawAny
namespace Go.Proofs.Ytnhebknckgffoaa
open Go.RowKit
set_option linter.unusedVariables false
set_option linter.unusedSimpArgs false

/-- A block of none of the types that objects lie in. -/
def Free (w : World) (k : Nat) : Prop := ∀ cur T m, w.heap[k]? = some (.cells cur T m) → T ≠ 5 ∧ T ≠ 43 ∧ T ≠ 47
/-- A block that holds no bytes. -/
def NoB (w : World) (k : Nat) : Prop := ∀ cur m, w.heap[k]? ≠ some (.cells cur 5 m)
theorem Free.noB {w : World} {k : Nat} (h : Free w k) : NoB w k := fun cur m e => (h cur _ m e).1 rfl
theorem free_of {w : World} {k : Nat} {cur : Array Value} {T : TypeId} {m : Nat × Nat} (h : w.heap[k]? = some (.cells cur T m)) (h1 : T ≠ 5) (h2 : T ≠ 43) (h3 : T ≠ 47) : Free w k := by
  intro cur' T' m' e
  rw [h] at e
  simp only [Option.some.injEq, Obj.cells.injEq] at e
  rw [← e.2.1]
  exact ⟨h1, h2, h3⟩
theorem noB_of {w : World} {k : Nat} {cur : Array Value} {T : TypeId} {m : Nat × Nat} (h : w.heap[k]? = some (.cells cur T m)) (h1 : T ≠ 5) : NoB w k := by
  intro cur' m' e
  rw [h] at e
  simp only [Option.some.injEq, Obj.cells.injEq] at e
  exact h1 e.2.1

/-- Bytes, in a block of bytes. -/
def BT (w : World) (v : Value) (l : List Int) : Prop :=
  ∃ a c, v = .slice a l.length c ∧ BRow w a l.length l ∧ l.length ≤ c ∧ c ≤ maxLen ∧ (a = none → c = 0) ∧ ∀ b off, a = some ⟨b, off, none⟩ → ∃ cur m, w.heap[b]? = some (.cells cur 5 m)
theorem BT.keep {w w' : World} {v : Value} {l : List Int} {os : List (Option Nat)} (h : BT w v l) (kk : KeepO os w w') (hos : ∀ k, some k ∈ os → NoB w k) : BT w' v l := by
  obtain ⟨a, c, e, hr, h1, h2, h3, h4⟩ := h
  have hk : ∀ b off, a = some ⟨b, off, none⟩ → w'.heap[b]? = w.heap[b]? := by
    intro b off ha
    obtain ⟨cur, m, hb⟩ := h4 b off ha
    exact kk.block b (lt_of_block hb) (fun hm => hos b hm cur m hb)
  refine ⟨a, c, e, ⟨hr.1, hr.2.1, fun hp => ?_⟩, h1, h2, h3, fun b off ha => ?_⟩
  · obtain ⟨b, off, ha, hc⟩ := hr.2.2 hp
    refine ⟨b, off, ha, fun i hi => ?_⟩
    rw [← hc i hi]
    unfold World.cell?
    simp only
    rw [hk b off ha]
  · obtain ⟨cur, m, hb⟩ := h4 b off ha
    exact ⟨cur, m, (hk b off ha).trans hb⟩
theorem BT.read {w : World} {v : Value} {l : List Int} (h : BT w v l) : (Fd.b l).Read w v := by
  obtain ⟨a, c, e, hr, h1, h2, h3, _⟩ := h
  exact ⟨a, c, e, hr, h1, h2, h3⟩
theorem Own.bt {w : World} {base n : Nat} {v : Value} {l : List Int} (h : Own w base v n l) : BT w v l := by
  obtain ⟨a, c, e, h1, h2, h3, _⟩ := h.shape
  have hl : l.length = n := h3.1
  subst hl
  rcases h.1.2 with ⟨e2, e3⟩ | ⟨g, cap, cur, e2, _, hh, _⟩
  · rw [e] at e2
    simp only [Value.slice.injEq] at e2
    refine ⟨a, c, e, h3, h1, h2, fun _ => e2.2.2, fun b off ha => ?_⟩
    rw [e2.1] at ha; cases ha
  · rw [e] at e2
    simp only [Value.slice.injEq, true_and] at e2
    refine ⟨a, c, e, h3, h1, h2, fun ha => ?_, fun b off ha => ?_⟩
    · rw [e2.1] at ha; cases ha
    · rw [e2.1] at ha
      simp only [Option.some.injEq, Addr.mk.injEq, and_true] at ha
      exact ⟨cur, (0, 0), by rw [← ha.1]; exact hh⟩
/-- A new block of one byte. -/
theorem bt_one (w : World) (x : Int) (h0 : 0 ≤ x) (h1 : x ≤ 255) (m : Nat × Nat) : BT (w.alloc (.cells #[.int .u8 x] 5 m)) (.slice (some ⟨w.heap.size, 0, none⟩) 1 1) [x] := by
  have hb : (w.alloc (.cells #[.int .u8 x] 5 m)).heap[w.heap.size]? = some (.cells #[.int .u8 x] 5 m) := heap_alloc_new w _
  refine ⟨_, 1, rfl, ⟨rfl, by simp; omega, fun _ => ⟨w.heap.size, 0, rfl, fun i hi => ?_⟩⟩, by simp, by unfold maxLen; simp, by simp, fun b off ha => ?_⟩
  · obtain rfl : i = 0 := by simp at hi; omega
    rw [Nat.zero_add, World.cell?_alloc_mark]
    rfl
  · simp only [Option.some.injEq, Addr.mk.injEq, and_true] at ha
    exact ⟨_, _, by rw [← ha.1]; exact hb⟩

def Ft (w : World) (v : Value) : Fd → Prop
  | .b l => BT w v l
  | .n x => v = .int .i64 x
theorem Ft.keep {w w' : World} {v : Value} {f : Fd} {os : List (Option Nat)} (h : Ft w v f) (kk : KeepO os w w') (hos : ∀ k, some k ∈ os → NoB w k) : Ft w' v f := by
  cases f with
  | b l => exact BT.keep h kk hos
  | n x => exact h
theorem Ft.read {w : World} {v : Value} {f : Fd} (h : Ft w v f) : f.Read w v := by
  cases f with
  | b l => exact BT.read h
  | n x => exact h
def RT (w : World) (r : R3) (d : D3) : Prop := Ft w r.x d.x ∧ Ft w r.y d.y ∧ Ft w r.z d.z
theorem RT.keep {w w' : World} {r : R3} {d : D3} {os : List (Option Nat)} (h : RT w r d) (kk : KeepO os w w') (hos : ∀ k, some k ∈ os → NoB w k) : RT w' r d := ⟨h.1.keep kk hos, h.2.1.keep kk hos, h.2.2.keep kk hos⟩
theorem RT.one {w : World} {r : R3} {d : D3} (h : RT w r d) : ∀ u ∈ r.vals, u.oneCell' = true := by
  have hf : ∀ (v : Value) (f : Fd), Ft w v f → v.oneCell' = true := by
    intro v f hv
    cases f with
    | b l => obtain ⟨a, c, e, _⟩ := hv; rw [e]; rfl
    | n x => rw [show v = .int .i64 x from hv]; rfl
  intro u hu
  simp only [R3.vals, List.mem_cons, List.not_mem_nil, or_false] at hu
  rcases hu with e | e | e <;> subst e
  · exact hf _ _ h.1
  · exact hf _ _ h.2.1
  · exact hf _ _ h.2.2

/-- Records in a row of one's own. -/
structure RL (w : World) (T : TypeId) (B : Nat) (v : Value) (l : List R3) (ds : List D3) : Prop where
  row : w.ownsRow B T 3 v ds.length (flat3 l)
  len : l.length = ds.length
  has : ∀ (i : Nat) (r : R3) (d : D3), l[i]? = some r → ds[i]? = some d → RT w r d
theorem RL.nil (w : World) (T : TypeId) (B : Nat) : RL w T B (.slice none 0 0) [] [] := ⟨World.ownsRow_nil _ _ _ _, rfl, by simp⟩
theorem ownsRow_keep {w w' : World} {T base n k : Nat} {v : Value} {xs : List Value} {os : List (Option Nat)} (h : w.ownsRow base T k v n xs) (hk : KeepO os w w') (hd : v.ownBlock = none ∨ v.ownBlock ∉ os) : w'.ownsRow base T k v n xs := by
  refine ⟨h.1, ?_⟩
  rcases h.2 with hn | ⟨g, cap, cur, hv, hg, hh, r⟩
  · exact .inl hn
  · refine .inr ⟨g, cap, cur, hv, hg, ?_, r⟩
    rw [hk.block g (lt_of_block hh) (by rw [hv] at hd; simpa [Value.ownBlock] using hd)]
    exact hh
theorem RL.keep {w w' : World} {T B : Nat} {v : Value} {l : List R3} {ds : List D3} {os : List (Option Nat)} (h : RL w T B v l ds) (kk : KeepO os w w') (hos : ∀ k, some k ∈ os → NoB w k ∧ ∀ cur, w.heap[k]? ≠ some (.cells cur T (0, 0))) : RL w' T B v l ds := by
  refine ⟨ownsRow_keep h.row kk ?_, h.len, fun i r d h1 h2 => (h.has i r d h1 h2).keep kk (fun k hk => (hos k hk).1)⟩
  cases hv : v.ownBlock with
  | none => exact .inl rfl
  | some k =>
    right
    intro hm
    obtain ⟨cur, hb⟩ := ownsRow_type h.row hv
    exact (hos k hm).2 cur hb
theorem RL.push {w w' : World} {T B : Nat} {v v' : Value} {l : List R3} {ds : List D3} {r : R3} {d : D3} (h : RL w T B v l ds) (hT : T ≠ 5) (hr : RT w r d)
    (ho : w'.ownsRow B T 3 v' (ds.length + 1) (flat3 l ++ r.vals)) (hg : w.grownBy w' v.ownBlock) : RL w' T B v' (l ++ [r]) (ds ++ [d]) := by
  have kk : KeepO [v.ownBlock] w w' := KeepO.of hg (by simp)
  have hos : ∀ k, some k ∈ [v.ownBlock] → NoB w k := by
    intro k hk
    simp only [List.mem_cons, List.not_mem_nil, or_false] at hk
    obtain ⟨cur, hb⟩ := ownsRow_type h.row hk.symm
    exact noB_of hb hT
  refine ⟨by rw [flat3_append]; simpa [flat3] using ho, by simp [h.len], fun i r' d' h1 h2 => ?_⟩
  by_cases hi : i < l.length
  · rw [List.getElem?_append_left hi] at h1
    rw [List.getElem?_append_left (by rw [← h.len]; exact hi)] at h2
    exact (h.has i r' d' h1 h2).keep kk hos
  · have hlt : i < (l ++ [r]).length := (List.getElem?_eq_some_iff.1 h1).1
    have hi2 : i = l.length := by simp at hlt; omega
    subst hi2
    rw [List.getElem?_append_right (Nat.le_refl _), Nat.sub_self] at h1
    rw [List.getElem?_append_right (by rw [h.len]; exact Nat.le_refl _), h.len, Nat.sub_self] at h2
    simp only [List.getElem?_cons_zero, Option.some.injEq] at h1 h2
    subst h1 h2
    exact hr.keep kk hos
theorem RL.shape {w : World} {T B : Nat} {v : Value} {l : List R3} {ds : List D3} (h : RL w T B v l ds) : ∃ a c, v = .slice a ds.length c ∧ ds.length ≤ c ∧ c ≤ maxLen ∧ (a = none → c = 0) ∧ DRow w a ds.length ds := by
  have hd := fun (i : Nat) (r : R3) (d : D3) (h1 : l[i]? = some r) (h2 : ds[i]? = some d) => (show Rd w r d from ⟨(h.has i r d h1 h2).1.read, (h.has i r d h1 h2).2.1.read, (h.has i r d h1 h2).2.2.read⟩)
  rcases h.row.2 with ⟨rfl, e0⟩ | ⟨g, cap, cur, rfl, hg, hh, hnc, hcm, hs, ht⟩
  · exact ⟨none, 0, by rw [e0], by omega, by simp, fun _ => rfl, rfl, l, ⟨h.len, by omega⟩, hd⟩
  · refine ⟨some ⟨g, 0, none⟩, cap, rfl, hnc, hcm, by simp, rfl, l, ⟨h.len, fun hn => ⟨g, 0, rfl, fun i v hv => ?_⟩⟩, hd⟩
    rw [Nat.zero_add, cell_of_row w g i cur _ (0, 0) hh]
    have hi : i < (flat3 l).length := (List.getElem?_eq_some_iff.1 hv).1
    rw [flat3_len, h.len] at hi
    have e : (cur.toList.take (ds.length * 3))[i]? = cur[i]? := by rw [List.getElem?_take, if_pos hi]; simp
    rw [← e, ht]
    exact hv
theorem RL.dv {w : World} {T B : Nat} {v : Value} {l : List R3} {ds : List D3} (h : RL w T B v l ds) : DV w v ds := by
  obtain ⟨a, c, e, h1, h2, h3, h4⟩ := h.shape
  exact ⟨a, c, e, h4, h1, h2, h3⟩
theorem RL.mono {w : World} {T B B' : Nat} {v : Value} {l : List R3} {ds : List D3} (h : RL w T B v l ds) (hb : B' ≤ B) : RL w T B' v l ds := by
  refine ⟨⟨h.row.1, ?_⟩, h.len, h.has⟩
  rcases h.row.2 with hn | ⟨g, cap, cur, hv, hg, hh, r⟩
  · exact .inl hn
  · exact .inr ⟨g, cap, cur, hv, by omega, hh, r⟩

/-- An object, whose lists lie in rows of one's own. -/
structure DOb (w : World) (B : Nat) (o : O5) (b : Ob) (lE lI : List R3) : Prop where
  nm : BT w o.x b.name
  ex : RL w 43 B o.e lE b.ex
  im : RL w 47 B o.i lI b.im
  dt : o.d = .int .i64 b.data
  cd : BT w o.c b.code
  exs : ∀ d ∈ b.ex, isE d ∧ d.len ≤ 80
  ims : ∀ d ∈ b.im, isM d ∧ d.len ≤ 80
  sm : b.name.length ≤ 8 ∧ b.ex.length ≤ 4 ∧ b.im.length ≤ 3 ∧ b.code.length ≤ 9001

theorem DOb.keep {w w' : World} {B : Nat} {o : O5} {b : Ob} {lE lI : List R3} {os : List (Option Nat)} (h : DOb w B o b lE lI) (kk : KeepO os w w') (hos : ∀ k, some k ∈ os → Free w k) : DOb w' B o b lE lI :=
  ⟨h.nm.keep kk (fun k hk => (hos k hk).noB), h.ex.keep kk (fun k hk => ⟨(hos k hk).noB, fun cur e => (hos k hk cur _ _ e).2.1 rfl⟩), h.im.keep kk (fun k hk => ⟨(hos k hk).noB, fun cur e => (hos k hk cur _ _ e).2.2 rfl⟩), h.dt, h.cd.keep kk (fun k hk => (hos k hk).noB), h.exs, h.ims, h.sm⟩
theorem DOb.read {w : World} {B : Nat} {o : O5} {b : Ob} {lE lI : List R3} (h : DOb w B o b lE lI) : ORead w o b :=
  ⟨h.nm.read, h.ex.dv, h.im.dv, h.dt, h.cd.read, fun d hd => (h.exs d hd).1, fun d hd => (h.ims d hd).1⟩
theorem dsum_le (ds : List D3) (h : ∀ d ∈ ds, d.len ≤ 80) : dsum ds ≤ ds.length * 80 := by
  induction ds with
  | nil => simp [dsum]
  | cons d ds ih =>
    have h1 := h d (by simp)
    have h2 := ih (fun x hx => h x (by simp [hx]))
    simp only [dsum, List.length_cons]
    omega
theorem DOb.size {w : World} {B : Nat} {o : O5} {b : Ob} {lE lI : List R3} (h : DOb w B o b lE lI) : osz b ≤ 1048576 := by
  have h1 := dsum_le b.ex (fun d hd => (h.exs d hd).2)
  have h2 := dsum_le b.im (fun d hd => (h.ims d hd).2)
  have h3 := h.sm
  unfold osz
  omega

theorem Cur.free {w : World} {g : Nat} (h : Cur w g) : Free w g := by
  obtain ⟨a, n, c, l, i, hh, hg, _⟩ := h
  exact free_of hg (by decide) (by decide) (by decide)
theorem Drawn.keepO {w w' : World} {g : Nat} (h : Drawn w w' g) : KeepO [some g] w w' := KeepO.of h.2 (by simp)
theorem keep_alloc (w : World) (o : Obj) : KeepO [] w (w.alloc o) := ⟨rfl, rfl, rfl, by simp, fun g h1 _ => alloc_block h1⟩
end Go.Proofs.Ytnhebknckgffoaa

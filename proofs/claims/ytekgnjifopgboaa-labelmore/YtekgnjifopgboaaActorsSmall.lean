/- The small functions of actors: is one of so many; a number between two; the first grant of which something holds. -/
import Derived.Test.YtekgnjifopgboaaRows
import Derived.Test.YtekgnjifopgboaaActorsReach
import Derived.WalkKit
import Derived.WalkSpells
import Derived.WalkLawsBesides
namespace Go.Proofs.Ytekgnjifopgboaa
open Go.RowKit
set_option linter.unusedVariables false

theorem hide {p : Prop} (h : p) : Hid p := h

theorem bcell {W w1 : World} (hb : Below W.heap.size W w1) : (∀ b o, b < W.heap.size → w1.cell? ⟨b, o, none⟩ = W.cell? ⟨b, o, none⟩) ∧ (∀ b o, b < W.heap.size → w1.frozen? ⟨b, o, none⟩ = W.frozen? ⟨b, o, none⟩) :=
  ⟨fun b o h => hb.cell (p := ⟨b, o, none⟩) h, fun b o h => hb.frozen (p := ⟨b, o, none⟩) h⟩

/-- actors, as they are handed on. -/
def actVal (m : Int) (s : Value) : Value := .agg #[.int .i64 m, s]
def isOne (m x : Int) : Bool := decide (0 ≤ x ∧ x < m)

set_option maxHeartbeats 400000 in
theorem isOne_any (m x : Int) (s : Value) (w : World) :
    Calls Try.prog 53 #[.agg #[.int .i64 m, s], .int .i64 x] w fun e w' => e = .returned (.bool (isOne m x)) ∧ Below w.heap.size w w' := by
  have hbel : Below w.heap.size w (w.alloc (.cells #[.int .i64 m, s] 24)) := (Below.refl _ w).alloc (Nat.le_refl _) _
  by_cases h1 : (0 : Int) ≤ x
  · by_cases h2 : x < m
    · go_enter Try.func53, Try.ntmps53
      go_wp2
      go_ret
      exact ⟨by simp [isOne]; omega, hbel⟩
    · go_enter Try.func53, Try.ntmps53
      go_wp2
      go_ret
      exact ⟨by simp [isOne]; omega, hbel⟩
  · go_enter Try.func53, Try.ntmps53
    go_wp2
    go_ret
    exact ⟨by simp [isOne]; omega, hbel⟩

set_option maxHeartbeats 400000 in
theorem between_any (x a b : Int) (w : World) :
    Calls Try.prog 33 #[.int .i64 x, .int .i64 a, .int .i64 b] w fun e w' => e = .returned (.bool (decide (a ≤ x ∧ x ≤ b))) ∧ w' = w := by
  by_cases h1 : a ≤ x
  · by_cases h2 : x ≤ b
    · go_enter Try.func33, Try.ntmps33
      go_wp2
      go_ret
      exact ⟨by simp; omega, rfl⟩
    · go_enter Try.func33, Try.ntmps33
      go_wp2
      go_ret
      exact ⟨by simp; omega, rfl⟩
  · go_enter Try.func33, Try.ntmps33
    go_wp2
    go_ret
    exact ⟨by simp; omega, rfl⟩

set_option maxHeartbeats 400000 in
theorem isActor_any (m x : Int) (hm : 1 ≤ m ∧ m ≤ 6) (s : Value) (w : World) :
    Calls Try.prog 34 #[.agg #[.int .i64 m, s], .int .i64 x] w fun e w' => e = .returned (.bool (isOne m x)) ∧ Below w.heap.size w w' := by
  have hbel : Below w.heap.size w (w.alloc (.cells #[.int .i64 m, s] 24)) := (Below.refl _ w).alloc (Nat.le_refl _) _
  go_enter Try.func34, Try.ntmps34
  go_wp2_with fail
  refine (between_any x 0 (m - 1) _).mono ?_
  rintro e w' ⟨rfl, rfl⟩
  go_wp2_with fail
  go_ret
  exact ⟨congrArg (fun b => Ending.returned (.bool b)) (by rw [Bool.eq_iff_iff]; simp [isOne]; omega), hbel⟩

def grantCells (gs : List (Int × Int)) : List Value := gs.flatMap fun g => [.int .i64 g.1, .int .i64 g.2]
/-- a slice that holds grants. -/
def IsGrants (w : World) (v : Value) (gs : List (Int × Int)) : Prop :=
  ∃ ao cap, v = .slice ao gs.length cap ∧ (gs ≠ [] → ∃ b off, ao = some ⟨b, off, none⟩ ∧ ∀ i (h : i < gs.length), w.cell? ⟨b, off + i * 2, none⟩ = some (.int .i64 gs[i].1) ∧ w.cell? ⟨b, off + i * 2 + 1, none⟩ = some (.int .i64 gs[i].2))

theorem isGrants_over {w w' : World} {v : Value} {gs : List (Int × Int)} (h : IsGrants w v gs) (hb : Below w.heap.size w w') : IsGrants w' v gs := by
  obtain ⟨ao, cap, rfl, hc⟩ := h
  refine ⟨ao, cap, rfl, fun hne => ?_⟩
  obtain ⟨b, off, rfl, hcl⟩ := hc hne
  refine ⟨b, off, rfl, fun i hi => ?_⟩
  obtain ⟨h1, h2⟩ := hcl i hi
  have hlt := World.block_lt_of_cell? w _ h1
  exact ⟨by rw [(bcell hb).1 _ _ hlt]; exact h1, by rw [(bcell hb).1 _ _ hlt]; exact h2⟩

/-- where the first is of which something holds; none: -1. -/
def idxOf (p : Int × Int → Bool) (gs : List (Int × Int)) : Int := match gs.findIdx? p with | some i => i | none => -1

theorem idxOf_at {p : Int × Int → Bool} {gs : List (Int × Int)} {k : Nat} (hk : k < gs.length) (h : (gs.take k).all (fun g => !p g) = true) (hp : p gs[k] = true) : idxOf p gs = k := by
  have : gs.findIdx? p = some k := by
    rw [List.findIdx?_eq_some_iff_getElem]
    refine ⟨hk, hp, fun j hj => ?_⟩
    have := List.all_eq_true.1 h gs[j] (by rw [List.mem_take_iff_getElem]; exact ⟨j, by omega, rfl⟩)
    simpa using this
  simp [idxOf, this]
theorem idxOf_none {p : Int × Int → Bool} {gs : List (Int × Int)} (h : gs.all (fun g => !p g) = true) : idxOf p gs = -1 := by
  have : gs.findIdx? p = none := by
    rw [List.findIdx?_eq_none_iff]
    intro x hx
    have := List.all_eq_true.1 h x hx
    simpa using this
  simp [idxOf, this]

set_option maxHeartbeats 1000000 in
theorem indexFunc_any (F : FuncId) (cv : Value) (p : Int × Int → Bool) (v : Value) (gs : List (Int × Int)) (w : World) (hv : IsGrants w v gs) (hn : gs.length ≤ 20)
    (hF : Hid (∀ (i : Nat) (h : i < gs.length) (w1 : World), Below w.heap.size w w1 → Calls Try.prog F #[.agg #[.int .i64 gs[i].1, .int .i64 gs[i].2], cv] w1 fun e w2 => e = .returned (.bool (p gs[i])) ∧ Below w1.heap.size w1 w2))
    (hC : ∀ (args : Array Value) (w : World), (callFunc F args).run Try.prog w = .ok (.enter F args) w) :
    Calls Try.prog 56 #[v, .func (.func F) #[] #[cv]] w fun e w' => e = .returned (.int .i64 (idxOf p gs)) ∧ Below w.heap.size w w' := by
  obtain ⟨ao, cap, rfl, hcc⟩ := hv
  go_enter Try.func56, Try.ntmps56
  go_wp2_with fail
  go_loopw [8] (fun i wr => ∃ k : Nat, k ≤ gs.length ∧ i = .int .i64 k ∧ (gs.take k).all (fun g => !p g) = true ∧ Below w.heap.size w wr) (fun i _ => gs.length - (intOf i).toNat)
  case atStart => exact ⟨0, Nat.zero_le _, rfl, rfl, Below.refl _ w⟩
  case round =>
    obtain ⟨k, hk, rfl, hall, hbel⟩ := hrel
    by_cases hkl : k < gs.length
    · obtain ⟨b, off, rfl, hcl⟩ := hcc (by rintro rfl; simp at hkl)
      obtain ⟨q0, q1⟩ := hcl k hkl
      have hlt := World.block_lt_of_cell? w _ q0
      rw [← (bcell hbel).1 _ _ hlt] at q0 q1
      have hcall := hF.out k hkl
      have hat := fun (hp : p gs[k] = true) => idxOf_at hkl hall hp
      have htk : p gs[k] = false → (gs.take (k + 1)).all (fun g => !p g) = true := fun hp => by
        rw [List.take_succ_eq_append_getElem hkl, List.all_append, hall]
        simp [hp]
      obtain ⟨r, hr⟩ : ∃ r, r = p gs[k] := ⟨_, rfl⟩
      obtain ⟨g0, hg0⟩ : ∃ r, r = gs[k].1 := ⟨_, rfl⟩
      obtain ⟨g1, hg1⟩ : ∃ r, r = gs[k].2 := ⟨_, rfl⟩
      rw [← hr] at hcall hat htk
      rw [← hg0] at q0 hcall
      rw [← hg1] at q1 hcall
      have HC := hide hcall
      have HA := hide hat
      have HT := hide htk
      clear hr hg0 hg1 hcall hat htk hcl hcc hF
      cases r with
      | true =>
        go_wp2_with fail
        refine (HC.out _ hbel).mono ?_
        rintro e w2 ⟨rfl, hb2⟩
        have hbel2 : Below w.heap.size w w2 := hbel.trans (hb2.mono hbel.size)
        go_wp2_with fail
        go_ret
        exact ⟨by rw [HA.out (by first | rfl | trivial)]; rfl, hbel2⟩
      | false =>
        go_wp2_with fail
        refine (HC.out _ hbel).mono ?_
        rintro e w2 ⟨rfl, hb2⟩
        have hbel2 : Below w.heap.size w w2 := hbel.trans (hb2.mono hbel.size)
        go_wp2_with fail
        exact ⟨⟨k + 1, by omega, by go_num, HT.out (by first | rfl | trivial), hbel2⟩, by simp [intOf]; omega⟩
    · have hke : k = gs.length := by omega
      rw [hke, List.take_length] at hall
      have hx := idxOf_none hall
      clear hall hcc hF
      go_wp2_with fail
      go_ret
      exact ⟨by rw [hx]; rfl, hbel⟩
end Go.Proofs.Ytekgnjifopgboaa

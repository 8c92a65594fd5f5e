/- The document's own value of an expression. -/
import Derived.Test.YtdbepdabkciiiaaEp
namespace Go.Proofs.Ytdbepdabkciiiaa.Ex
open Go.RowKit
set_option linter.unusedVariables false

def IsInts (w : World) (v : Value) (l : List Int) : Prop :=
  ∃ ao cap, v = .slice ao l.length cap ∧ (l ≠ [] → ∃ b off, ao = some ⟨b, off, none⟩ ∧ ∀ i (h : i < l.length), w.cell? ⟨b, off + i, none⟩ = some (.int .i64 l[i]))

theorem IsInts.over {w w' : World} {v : Value} {l : List Int} (h : IsInts w v l) (hb : Below w.heap.size w w') : IsInts w' v l := by
  obtain ⟨ao, cap, hv, hc⟩ := h
  refine ⟨ao, cap, hv, fun hne => ?_⟩
  obtain ⟨b, off, hao, hel⟩ := hc hne
  exact ⟨b, off, hao, fun i hi => cell_over hb _ _ (hel i hi)⟩

def opX (k a b : Int) : Int :=
  if k = 3 then wrap32 (a + b) else if k = 4 then wrap32 (a - b) else if k = 5 then wrap32 (a * b) else if k = 6 ∧ a < b ∨ k = 7 ∧ a = b then 1 else 0
def valX (vs : List Int) : Nat → D → Int
  | 0, _ => 0
  | k + 1, d => if kindOf d = 1 then numOf d else if kindOf d = 2 then vs.getD (numOf d).toNat 0 else
    match argsOf d with
    | [x, y] => opX (kindOf d) (valX vs k x) (valX vs k y)
    | _ => 0
def okX (m : Nat) : Nat → D → Prop
  | 0, _ => False
  | k + 1, d => (kindOf d = 1 ∧ -9999999 ≤ numOf d ∧ numOf d ≤ 9999999) ∨ (kindOf d = 2 ∧ 0 ≤ numOf d ∧ numOf d < m) ∨ (3 ≤ kindOf d ∧ kindOf d ≤ 7 ∧ ∃ x y, argsOf d = [x, y] ∧ okX m k x ∧ okX m k y)

def I32 (n : Int) : Prop := -2147483648 ≤ n ∧ n ≤ 2147483647

theorem opX_in (k a b : Int) : I32 (opX k a b) := by
  unfold opX I32
  have h1 := wrap32_in (a + b)
  have h2 := wrap32_in (a - b)
  have h3 := wrap32_in (a * b)
  repeat' split
  all_goals omega

theorem valX_in {vs : List Int} (hv : ∀ x ∈ vs, I32 x) : ∀ (k : Nat) (d : D), okX vs.length k d → I32 (valX vs k d) := by
  intro k
  induction k with
  | zero => intro d h; exact h.elim
  | succ k ih =>
    intro d h
    rcases h with ⟨h1, h2, h3⟩ | ⟨h1, h2, h3⟩ | ⟨h1, h2, x, y, hxy, hx, hy⟩
    · unfold valX
      rw [if_pos h1]
      unfold I32
      omega
    · unfold valX
      rw [if_neg (by omega), if_pos h1]
      have hl : (numOf d).toNat < vs.length := by omega
      rw [List.getD_eq_getElem?_getD, List.getElem?_eq_getElem hl]
      exact hv _ (List.getElem_mem hl)
    · unfold valX
      rw [if_neg (by omega), if_neg (by omega), hxy]
      exact opX_in _ _ _

theorem held8 {w w0 w1 : World} {a0 a1 a2 a3 a4 a5 a6 a7 : Addr} {v0 v1 v2 v3 v4 v5 v6 v7 : Value}
    (h : w0.cell? a0 = some v0 ∧ w0.cell? a1 = some v1 ∧ w0.cell? a2 = some v2 ∧ w0.cell? a3 = some v3 ∧ w0.cell? a4 = some v4 ∧ w0.cell? a5 = some v5 ∧ w0.cell? a6 = some v6 ∧ w0.cell? a7 = some v7 ∧ Below w.heap.size w w0) (hb : Below w0.heap.size w0 w1) :
    w1.cell? a0 = some v0 ∧ w1.cell? a1 = some v1 ∧ w1.cell? a2 = some v2 ∧ w1.cell? a3 = some v3 ∧ w1.cell? a4 = some v4 ∧ w1.cell? a5 = some v5 ∧ w1.cell? a6 = some v6 ∧ w1.cell? a7 = some v7 ∧ Below w.heap.size w w1 := by
  obtain ⟨h0, h1, h2, h3, h4, h5, h6, h7, hB⟩ := h
  exact ⟨cell_over hb _ _ h0, cell_over hb _ _ h1, cell_over hb _ _ h2, cell_over hb _ _ h3, cell_over hb _ _ h4, cell_over hb _ _ h5, cell_over hb _ _ h6, cell_over hb _ _ h7, hB.trans (hb.mono hB.size)⟩

theorem below_drewN {W w : World} {n : Nat} (h : Below n W w) (k : Nat) : Below n W (w.drewN k) := by
  induction k with
  | zero => exact h
  | succ k ih => exact ih.drew

set_option maxHeartbeats 1000000 in
set_option maxRecDepth 100000 in
theorem val_leaf (cs : List Value) (d : D) (k : Nat) (w : World) (vv : Value) (vs : List Int) (h : RX w (k + 1) cs d) (hi : IsInts w vv vs) (hk : (kindOf d = 1) ∨ (kindOf d = 2 ∧ 0 ≤ numOf d ∧ numOf d < vs.length)) :
    Calls Try.prog 6 #[.agg cs.toArray, vv] w fun e w' => e = .returned (.int .i64 (valX vs (k + 1) d)) ∧ Below w.heap.size w w' := by
  obtain ⟨kd, n, v, ds, rfl, rfl, hkd, hn, hlen, ao, cap, rfl, hc⟩ := h
  simp only [kindOf_x, numOf_x] at hk
  obtain ⟨va, vc, rfl, hvc⟩ := hi
  have hbel : Below w.heap.size w (w.alloc (.cells #[.int .i64 kd, .int .i64 n, .slice ao ds.length cap] 24)) := (Below.refl _ w).alloc (Nat.le_refl _) _
  show Calls Try.prog 6 #[.agg #[.int .i64 kd, .int .i64 n, .slice ao ds.length cap], .slice va vs.length vc] w _
  rcases hk with rfl | ⟨rfl, n0, n1⟩
  · have hs : valX vs (k + 1) (xD 1 n ds) = n := rfl
    rw [hs]
    clear hs hc hvc hlen hkd
    go_enter Try.func6, Try.ntmps6
    go_wp2_with fail
    go_ret
    exact ⟨rfl, hbel⟩
  · have hl : n.toNat < vs.length := by omega
    have hs : valX vs (k + 1) (xD 2 n ds) = vs[n.toNat] := by
      show vs.getD n.toNat 0 = _
      rw [List.getD_eq_getElem?_getD, List.getElem?_eq_getElem hl]
      rfl
    obtain ⟨b, off, rfl, hel⟩ := hvc (by rintro rfl; simp at hl)
    have c := hel _ hl
    obtain ⟨j, rfl⟩ : ∃ j : Nat, n = j := ⟨n.toNat, by omega⟩
    rw [hs]
    simp only [Int.toNat_natCast] at c hl ⊢
    obtain ⟨r, hr⟩ : ∃ r, r = vs[j] := ⟨_, rfl⟩
    rw [← hr] at c ⊢
    have c' := cell_over hbel _ _ c
    clear hs hc hvc hlen hkd hel hr
    go_enter Try.func6, Try.ntmps6
    go_wp2_with fail
    go_ret
    exact ⟨rfl, hbel⟩
end Go.Proofs.Ytdbepdabkciiiaa.Ex

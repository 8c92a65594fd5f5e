/- The document's own value of an expression: of two parts. -/
import Derived.Test.YtdbepdabkciiiaaEe
namespace Go.Proofs.Ytdbepdabkciiiaa.Ex
open Go.RowKit
set_option linter.unusedVariables false

theorem mul_in {a c : Int} (a1 : -2147483648 ≤ a) (a2 : a ≤ 2147483647) (c1 : -2147483648 ≤ c) (c2 : c ≤ 2147483647) : -4611686018427387904 ≤ a * c ∧ a * c ≤ 4611686018427387904 := by
  have h : (a * c).natAbs ≤ 2147483648 * 2147483648 := by
    rw [Int.natAbs_mul]
    exact Nat.mul_le_mul (by omega) (by omega)
  omega

set_option maxHeartbeats 4000000 in
set_option maxRecDepth 100000 in
theorem val_node (kd n : Int) (b off cap : Nat) (xk xn yk yn : Int) (xa ya : Option Addr) (xl yl xc yc : Nat) (vv : Value) (w : World) (a c : Int) (ha : I32 a) (hc : I32 c) (hkd : 3 ≤ kd ∧ kd ≤ 7)
    (q0 : w.cell? ⟨b, off, none⟩ = some (.int .i64 xk)) (q1 : w.cell? ⟨b, off + 1, none⟩ = some (.int .i64 xn)) (q2 : w.cell? ⟨b, off + 2, none⟩ = some (.slice xa xl xc))
    (r0 : w.cell? ⟨b, off + 3, none⟩ = some (.int .i64 yk)) (r1 : w.cell? ⟨b, off + 3 + 1, none⟩ = some (.int .i64 yn)) (r2 : w.cell? ⟨b, off + 3 + 2, none⟩ = some (.slice ya yl yc))
    (KX : Hid (∀ W, Below w.heap.size w W → Calls Try.prog 6 #[.agg #[.int .i64 xk, .int .i64 xn, .slice xa xl xc], vv] W fun e w' => e = .returned (.int .i64 a) ∧ Below W.heap.size W w'))
    (KY : Hid (∀ W, Below w.heap.size w W → Calls Try.prog 6 #[.agg #[.int .i64 yk, .int .i64 yn, .slice ya yl yc], vv] W fun e w' => e = .returned (.int .i64 c) ∧ Below W.heap.size W w')) :
    Calls Try.prog 6 #[.agg #[.int .i64 kd, .int .i64 n, .slice (some ⟨b, off, none⟩) 2 cap], vv] w fun e w' => e = .returned (.int .i64 (opX kd a c)) ∧ Below w.heap.size w w' := by
  have hbel : Below w.heap.size w (w.alloc (.cells #[.int .i64 kd, .int .i64 n, .slice (some ⟨b, off, none⟩) 2 cap] 24)) := (Below.refl _ w).alloc (Nat.le_refl _) _
  have q0' := cell_over hbel _ _ q0
  have q1' := cell_over hbel _ _ q1
  have q2' := cell_over hbel _ _ q2
  have r0' := cell_over hbel _ _ r0
  have r1' := cell_over hbel _ _ r1
  have r2' := cell_over hbel _ _ r2
  have e0 : (w.alloc (.cells #[.int .i64 kd, .int .i64 n, .slice (some ⟨b, off, none⟩) 2 cap] 24)).cell? ⟨w.heap.size, 0, none⟩ = some (.int .i64 kd) := by simp [go_sem]
  have e2 : (w.alloc (.cells #[.int .i64 kd, .int .i64 n, .slice (some ⟨b, off, none⟩) 2 cap] 24)).cell? ⟨w.heap.size, 2, none⟩ = some (.slice (some ⟨b, off, none⟩) 2 cap) := by simp [go_sem]
  have hk1 : kd ≠ 1 := by omega
  have hk2 : kd ≠ 2 := by omega
  clear q0 q1 q2 r0 r1 r2
  go_enter Try.func6, Try.ntmps6
  go_wp2_with fail
  go_region_held3 (fun W => W.cell? ⟨w.heap.size, 0, none⟩ = some (.int .i64 kd) ∧ W.cell? ⟨w.heap.size, 2, none⟩ = some (.slice (some ⟨b, off, none⟩) 2 cap) ∧ W.cell? ⟨b, off, none⟩ = some (.int .i64 xk) ∧ W.cell? ⟨b, off + 1, none⟩ = some (.int .i64 xn) ∧ W.cell? ⟨b, off + 2, none⟩ = some (.slice xa xl xc) ∧ W.cell? ⟨b, off + 3, none⟩ = some (.int .i64 yk) ∧ W.cell? ⟨b, off + 3 + 1, none⟩ = some (.int .i64 yn) ∧ W.cell? ⟨b, off + 3 + 2, none⟩ = some (.slice ya yl yc) ∧ Below w.heap.size w W) (first | assumption | exact ⟨e0, e2, q0', q1', q2', r0', r1', r2', below_drewN hbel 1⟩ | exact held8 (by assumption) hbp | exact held8 (by assumption) hbq | fail) (first | (go_at_call_of 6 (Value.agg #[.int .i64 xk, .int .i64 xn, .slice xa xl xc]); refine (KX.out _ (by assumption : _ ∧ _ ∧ _ ∧ _ ∧ _ ∧ _ ∧ _ ∧ _ ∧ Below _ _ _).2.2.2.2.2.2.2.2).mono ?_; rintro e wp ⟨rfl, hbp⟩) | (go_at_call_of 6 (Value.agg #[.int .i64 yk, .int .i64 yn, .slice ya yl yc]); refine (KY.out _ (by assumption : _ ∧ _ ∧ _ ∧ _ ∧ _ ∧ _ ∧ _ ∧ _ ∧ Below _ _ _).2.2.2.2.2.2.2.2).mono ?_; rintro e wq ⟨rfl, hbq⟩))
  obtain ⟨g0, -, -, -, -, -, -, -, hB⟩ := (by assumption : _ ∧ _ ∧ _ ∧ _ ∧ _ ∧ _ ∧ _ ∧ _ ∧ Below _ _ _)
  clear q0' q1' q2' r0' r1' r2' e0 e2 hbel KX KY
  obtain ⟨a1, a2⟩ := ha
  obtain ⟨c1, c2⟩ := hc
  have hm1 : -4611686018427387904 ≤ a * c ∧ a * c ≤ 4611686018427387904 := mul_in a1 a2 c1 c2
  rcases (by omega : kd = 3 ∨ kd = 4 ∨ kd = 5 ∨ kd = 6 ∨ kd = 7) with rfl | rfl | rfl | rfl | rfl
  · have KW := hide fun W => wrap_any (a + c) ⟨by omega, by omega⟩ W
    go_wp2_with fail
    refine (KW.out _).mono ?_
    rintro e w2 ⟨rfl, rfl⟩
    go_wp2_with fail
    go_ret
    exact ⟨rfl, hB⟩
  · have KW := hide fun W => wrap_any (a - c) ⟨by omega, by omega⟩ W
    go_wp2_with fail
    refine (KW.out _).mono ?_
    rintro e w2 ⟨rfl, rfl⟩
    go_wp2_with fail
    go_ret
    exact ⟨rfl, hB⟩
  · have KW := hide fun W => wrap_any (a * c) ⟨by omega, by omega⟩ W
    obtain ⟨p, hp⟩ : ∃ p, p = a * c := ⟨_, rfl⟩
    go_wp2_with fail
    refine (KW.out _).mono ?_
    rintro e w2 ⟨rfl, rfl⟩
    go_wp2_with fail
    go_ret
    exact ⟨rfl, hB⟩
  · by_cases h : a < c
    · go_wp2_with fail
      go_ret
      exact ⟨by simp [opX, h], hB⟩
    · go_wp2_with fail
      go_ret
      exact ⟨by simp [opX, h], hB⟩
  · by_cases h : a = c
    · go_wp2_with fail
      go_ret
      exact ⟨by simp [opX, h], hB⟩
    · go_wp2_with fail
      go_ret
      exact ⟨by simp [opX, h], hB⟩
end Go.Proofs.Ytdbepdabkciiiaa.Ex

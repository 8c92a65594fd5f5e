/- The program's own check of an expression. -/
import Derived.Test.YtdbepdabkciiiaaQa
namespace Go.Proofs.Ytdbepdabkciiiaa.Ex
open Go.RowKit
set_option linter.unusedVariables false

set_option maxHeartbeats 4000000 in
set_option maxRecDepth 100000 in
theorem part_head (vars kd n : Int) (dl cap : Nat) (ao : Option Addr) (w : World) (v0 : 0 ≤ vars) (v1 : vars ≤ 9223372036854775807) (HL : dl ≤ 9223372036854775807) (hkd : In64 kd) (hn : In64 n) (hE : errX vars kd n dl ≠ 0) :
    Calls Try.prog 19 #[.agg #[.int .i64 kd, .int .i64 n, .slice ao dl cap], .int .i64 vars] w fun e w' => e = .returned (.int .i64 (errX vars kd n dl)) ∧ Below w.heap.size w w' := by
  have hbel : Below w.heap.size w (w.alloc (.cells #[.int .i64 kd, .int .i64 n, .slice ao dl cap] 24)) := (Below.refl _ w).alloc (Nat.le_refl _) _
  have KA := hide fun W => args_any kd W
  obtain ⟨kl, ku⟩ := hkd
  obtain ⟨nl, nu⟩ := hn
  by_cases c1 : kd < 1 ∨ 7 < kd
  · have hr : errX vars kd n dl = 7 := by unfold errX; rw [if_pos (by omega)]
    rw [hr]
    clear hr hE
    rcases c1 with c1 | c1
    · go_enter Try.func19, Try.ntmps19
      go_wp2_with fail
      go_ret
      exact ⟨rfl, hbel⟩
    · have c0 : ¬ kd < 1 := by omega
      go_enter Try.func19, Try.ntmps19
      go_wp2_with fail
      go_ret
      exact ⟨rfl, hbel⟩
  · have c2 : 1 ≤ kd := by omega
    have c3 : kd ≤ 7 := by omega
    clear c1
    have e0 : (w.alloc (.cells #[.int .i64 kd, .int .i64 n, .slice ao dl cap] 24)).cell? ⟨w.heap.size, 0, none⟩ = some (.int .i64 kd) := by simp [go_sem]
    have e1 : (w.alloc (.cells #[.int .i64 kd, .int .i64 n, .slice ao dl cap] 24)).cell? ⟨w.heap.size, 1, none⟩ = some (.int .i64 n) := by simp [go_sem]
    have e2 : (w.alloc (.cells #[.int .i64 kd, .int .i64 n, .slice ao dl cap] 24)).cell? ⟨w.heap.size, 2, none⟩ = some (.slice ao dl cap) := by simp [go_sem]
    by_cases c4 : (dl : Int) = argsX kd
    · by_cases c5 : kd = 1
      · subst c5
        have c6 : dl = 0 := by simpa [argsX] using c4
        subst c6
        have ka : argsX 1 = 0 := rfl
        rw [ka] at KA
        have hr : errX vars 1 n 0 = 3 ∧ (n < -9999999 ∨ 9999999 < n) := by
          unfold errX at hE ⊢
          rw [if_neg (by omega), if_neg (by omega)] at hE ⊢
          by_cases q : n < -9999999 ∨ 9999999 < n
          · exact ⟨by rw [if_pos (by omega)], q⟩
          · rw [if_neg (by omega), if_neg (by omega)] at hE
            exact absurd rfl hE
        obtain ⟨hr, c5⟩ := hr
        rw [hr]
        clear hr hE c4 ka
        rcases c5 with c5 | c5
        · go_enter Try.func19, Try.ntmps19
          go_wp2_with fail
          go_region_held3 (fun W => W.cell? ⟨w.heap.size, 0, none⟩ = some (.int .i64 1) ∧ W.cell? ⟨w.heap.size, 1, none⟩ = some (.int .i64 n) ∧ W.cell? ⟨w.heap.size, 2, none⟩ = some (.slice ao 0 cap) ∧ Below w.heap.size w W) (first | assumption | exact ⟨e0, e1, e2, below_drewN hbel 1⟩ | fail) (first | (go_at_call 28; refine (KA.out _).mono ?_; rintro e wp ⟨rfl, rfl⟩))
          obtain ⟨g0, g1, g2, hB⟩ := (by assumption : _ ∧ _ ∧ _ ∧ Below _ _ _)
          go_wp2_with fail
          go_ret
          exact ⟨rfl, hB⟩
        · have c6 : ¬ n < -9999999 := by omega
          go_enter Try.func19, Try.ntmps19
          go_wp2_with fail
          go_region_held3 (fun W => W.cell? ⟨w.heap.size, 0, none⟩ = some (.int .i64 1) ∧ W.cell? ⟨w.heap.size, 1, none⟩ = some (.int .i64 n) ∧ W.cell? ⟨w.heap.size, 2, none⟩ = some (.slice ao 0 cap) ∧ Below w.heap.size w W) (first | assumption | exact ⟨e0, e1, e2, below_drewN hbel 1⟩ | fail) (first | (go_at_call 28; refine (KA.out _).mono ?_; rintro e wp ⟨rfl, rfl⟩))
          obtain ⟨g0, g1, g2, hB⟩ := (by assumption : _ ∧ _ ∧ _ ∧ Below _ _ _)
          go_wp2_with fail
          go_ret
          exact ⟨rfl, hB⟩
      · by_cases c7 : kd = 2
        · subst c7
          have c6 : dl = 0 := by simpa [argsX] using c4
          subst c6
          have ka : argsX 2 = 0 := rfl
          rw [ka] at KA
          have hr : errX vars 2 n 0 = 5 ∧ (n < 0 ∨ vars ≤ n) := by
            unfold errX at hE ⊢
            rw [if_neg (by omega), if_neg (by omega), if_neg (by omega)] at hE ⊢
            by_cases q : n < 0 ∨ vars ≤ n
            · exact ⟨by rw [if_pos (by omega)], q⟩
            · rw [if_neg (by omega)] at hE
              exact absurd rfl hE
          obtain ⟨hr, c5⟩ := hr
          rw [hr]
          clear hr hE c4 ka
          rcases c5 with c5 | c5
          · go_enter Try.func19, Try.ntmps19
            go_wp2_with fail
            go_region_held3 (fun W => W.cell? ⟨w.heap.size, 0, none⟩ = some (.int .i64 2) ∧ W.cell? ⟨w.heap.size, 1, none⟩ = some (.int .i64 n) ∧ W.cell? ⟨w.heap.size, 2, none⟩ = some (.slice ao 0 cap) ∧ Below w.heap.size w W) (first | assumption | exact ⟨e0, e1, e2, below_drewN hbel 1⟩ | fail) (first | (go_at_call 28; refine (KA.out _).mono ?_; rintro e wp ⟨rfl, rfl⟩))
            obtain ⟨g0, g1, g2, hB⟩ := (by assumption : _ ∧ _ ∧ _ ∧ Below _ _ _)
            go_wp2_with fail
            go_ret
            exact ⟨rfl, hB⟩
          · have c6 : ¬ n < 0 := by omega
            go_enter Try.func19, Try.ntmps19
            go_wp2_with fail
            go_region_held3 (fun W => W.cell? ⟨w.heap.size, 0, none⟩ = some (.int .i64 2) ∧ W.cell? ⟨w.heap.size, 1, none⟩ = some (.int .i64 n) ∧ W.cell? ⟨w.heap.size, 2, none⟩ = some (.slice ao 0 cap) ∧ Below w.heap.size w W) (first | assumption | exact ⟨e0, e1, e2, below_drewN hbel 1⟩ | fail) (first | (go_at_call 28; refine (KA.out _).mono ?_; rintro e wp ⟨rfl, rfl⟩))
            obtain ⟨g0, g1, g2, hB⟩ := (by assumption : _ ∧ _ ∧ _ ∧ Below _ _ _)
            go_wp2_with fail
            go_ret
            exact ⟨rfl, hB⟩
        · have ka : argsX kd = 2 := by unfold argsX; rw [if_neg (by omega)]
          rw [ka] at KA c4
          have c8 : dl = 2 := by omega
          subst c8
          have hr : errX vars kd n 2 = 3 ∧ n ≠ 0 := by
            unfold errX at hE ⊢
            rw [if_neg (by omega), if_neg (by omega)] at hE ⊢
            by_cases q : n = 0
            · rw [if_neg (by omega), if_neg (by omega)] at hE
              exact absurd rfl hE
            · exact ⟨by rw [if_pos (by omega)], q⟩
          obtain ⟨hr, c9⟩ := hr
          rw [hr]
          clear hr hE c4 ka
          go_enter Try.func19, Try.ntmps19
          go_wp2_with fail
          go_region_held3 (fun W => W.cell? ⟨w.heap.size, 0, none⟩ = some (.int .i64 kd) ∧ W.cell? ⟨w.heap.size, 1, none⟩ = some (.int .i64 n) ∧ W.cell? ⟨w.heap.size, 2, none⟩ = some (.slice ao 2 cap) ∧ Below w.heap.size w W) (first | assumption | exact ⟨e0, e1, e2, below_drewN hbel 1⟩ | fail) (first | (go_at_call 28; refine (KA.out _).mono ?_; rintro e wp ⟨rfl, rfl⟩))
          obtain ⟨g0, g1, g2, hB⟩ := (by assumption : _ ∧ _ ∧ _ ∧ Below _ _ _)
          go_wp2_with fail
          go_ret
          exact ⟨rfl, hB⟩
    · have hr : errX vars kd n dl = 1 := by
        unfold errX
        unfold argsX at c4
        rw [if_neg (by omega)]
        split at c4
        · rw [if_pos (by omega)]
        · rw [if_pos (by omega)]
      rw [hr]
      clear hr hE
      go_enter Try.func19, Try.ntmps19
      go_wp2_with fail
      go_region_held3 (fun W => W.cell? ⟨w.heap.size, 0, none⟩ = some (.int .i64 kd) ∧ W.cell? ⟨w.heap.size, 1, none⟩ = some (.int .i64 n) ∧ W.cell? ⟨w.heap.size, 2, none⟩ = some (.slice ao dl cap) ∧ Below w.heap.size w W) (first | assumption | exact ⟨e0, e1, e2, below_drewN hbel 1⟩ | fail) (first | (go_at_call 28; refine (KA.out _).mono ?_; rintro e wp ⟨rfl, rfl⟩))
      obtain ⟨g0, g1, g2, hB⟩ := (by assumption : _ ∧ _ ∧ _ ∧ Below _ _ _)
      go_wp2_with fail
      go_ret
      exact ⟨rfl, hB⟩

def boxX (kd n : Int) (ao : Option Addr) (dl cap : Nat) (w : World) : World := (w.alloc (.cells #[.int .i64 kd, .int .i64 n, .slice ao dl cap] 24))

set_option maxHeartbeats 4000000 in
set_option maxRecDepth 100000 in
theorem part_leaf (vars kd n : Int) (cap : Nat) (ao : Option Addr) (w : World) (v0 : 0 ≤ vars) (v1 : vars ≤ 9223372036854775807) (hE : errX vars kd n 0 = 0) :
    Calls Try.prog 19 #[.agg #[.int .i64 kd, .int .i64 n, .slice ao 0 cap], .int .i64 vars] w fun e w' => e = .returned (.int .i64 0) ∧ Below w.heap.size w w' := by
  have KA := hide fun W => args_any kd W
  rcases errX_zero hE with ⟨rfl, c1, c2⟩ | ⟨rfl, c1, c2⟩ | ⟨_, _, c3⟩
  · have hbel : Below w.heap.size w (w.alloc (.cells #[.int .i64 1, .int .i64 n, .slice ao 0 cap] 24)) := (Below.refl _ w).alloc (Nat.le_refl _) _
    have e0 : (w.alloc (.cells #[.int .i64 1, .int .i64 n, .slice ao 0 cap] 24)).cell? ⟨w.heap.size, 0, none⟩ = some (.int .i64 1) := by simp [go_sem]
    have e1 : (w.alloc (.cells #[.int .i64 1, .int .i64 n, .slice ao 0 cap] 24)).cell? ⟨w.heap.size, 1, none⟩ = some (.int .i64 n) := by simp [go_sem]
    have e2 : (w.alloc (.cells #[.int .i64 1, .int .i64 n, .slice ao 0 cap] 24)).cell? ⟨w.heap.size, 2, none⟩ = some (.slice ao 0 cap) := by simp [go_sem]
    have ka : argsX 1 = 0 := rfl
    rw [ka] at KA
    clear hE ka
    have c3 : ¬ n < -9999999 := by omega
    have c4 : ¬ 9999999 < n := by omega
    go_enter Try.func19, Try.ntmps19
    go_wp2_with fail
    go_region_held3 (fun W => W.cell? ⟨w.heap.size, 0, none⟩ = some (.int .i64 1) ∧ W.cell? ⟨w.heap.size, 1, none⟩ = some (.int .i64 n) ∧ W.cell? ⟨w.heap.size, 2, none⟩ = some (.slice ao 0 cap) ∧ Below w.heap.size w W) (first | assumption | exact ⟨e0, e1, e2, below_drewN hbel 1⟩ | fail) (first | (go_at_call 28; refine (KA.out _).mono ?_; rintro e wp ⟨rfl, rfl⟩))
    obtain ⟨g0, g1, g2, hB⟩ := (by assumption : _ ∧ _ ∧ _ ∧ Below _ _ _)
    go_wp2_with fail
    go_loopw [67] (fun i wr => i = .int .i64 0 ∧ Below w.heap.size w wr) (fun _ _ => 0)
    case atStart => exact ⟨rfl, hB⟩
    case round =>
      obtain ⟨rfl, hB2⟩ := hrel
      go_wp2_with fail
      go_ret
      exact ⟨rfl, hB2⟩
  · have hbel : Below w.heap.size w (w.alloc (.cells #[.int .i64 2, .int .i64 n, .slice ao 0 cap] 24)) := (Below.refl _ w).alloc (Nat.le_refl _) _
    have e0 : (w.alloc (.cells #[.int .i64 2, .int .i64 n, .slice ao 0 cap] 24)).cell? ⟨w.heap.size, 0, none⟩ = some (.int .i64 2) := by simp [go_sem]
    have e1 : (w.alloc (.cells #[.int .i64 2, .int .i64 n, .slice ao 0 cap] 24)).cell? ⟨w.heap.size, 1, none⟩ = some (.int .i64 n) := by simp [go_sem]
    have e2 : (w.alloc (.cells #[.int .i64 2, .int .i64 n, .slice ao 0 cap] 24)).cell? ⟨w.heap.size, 2, none⟩ = some (.slice ao 0 cap) := by simp [go_sem]
    have ka : argsX 2 = 0 := rfl
    rw [ka] at KA
    clear hE ka
    have c3 : ¬ n < 0 := by omega
    have c4 : ¬ vars ≤ n := by omega
    go_enter Try.func19, Try.ntmps19
    go_wp2_with fail
    go_region_held3 (fun W => W.cell? ⟨w.heap.size, 0, none⟩ = some (.int .i64 2) ∧ W.cell? ⟨w.heap.size, 1, none⟩ = some (.int .i64 n) ∧ W.cell? ⟨w.heap.size, 2, none⟩ = some (.slice ao 0 cap) ∧ Below w.heap.size w W) (first | assumption | exact ⟨e0, e1, e2, below_drewN hbel 1⟩ | fail) (first | (go_at_call 28; refine (KA.out _).mono ?_; rintro e wp ⟨rfl, rfl⟩))
    obtain ⟨g0, g1, g2, hB⟩ := (by assumption : _ ∧ _ ∧ _ ∧ Below _ _ _)
    go_wp2_with fail
    go_loopw [67] (fun i wr => i = .int .i64 0 ∧ Below w.heap.size w wr) (fun _ _ => 0)
    case atStart => exact ⟨rfl, hB⟩
    case round =>
      obtain ⟨rfl, hB2⟩ := hrel
      go_wp2_with fail
      go_ret
      exact ⟨rfl, hB2⟩
  · omega
end Go.Proofs.Ytdbepdabkciiiaa.Ex

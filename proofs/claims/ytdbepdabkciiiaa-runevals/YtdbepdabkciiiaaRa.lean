/- Small functions of the check of a program, where all is right. -/
import Derived.Test.YtdbepdabkciiiaaQe
namespace Go.Proofs.Ytdbepdabkciiiaa.Ex
open Go.RowKit
set_option linter.unusedVariables false

set_option maxHeartbeats 1000000 in
theorem mustAt_ok (at' why : Int) (w : World) : Calls Try.prog 60 #[.int .i64 at', .bool true, .int .i64 why] w fun e w' => e = .returned (.tuple #[]) ∧ w' = w := by
  go_enter Try.func60, Try.ntmps60
  go_wp2_with fail
  go_end0
  exact ⟨rfl, rfl⟩

set_option maxHeartbeats 1000000 in
theorem must_ok (why : Int) (w : World) : Calls Try.prog 46 #[.bool true, .int .i64 why] w fun e w' => e = .returned (.tuple #[]) ∧ w' = w := by
  have K := hide fun W => mustAt_ok 0 why W
  go_enter Try.func46, Try.ntmps46
  go_wp2_with fail
  refine (K.out _).mono ?_
  rintro e w1 ⟨rfl, rfl⟩
  go_wp2_with fail
  go_end0
  exact ⟨rfl, rfl⟩

set_option maxHeartbeats 1000000 in
theorem pass_ok (w : World) : Calls Try.prog 44 #[.int .i64 0] w fun e w' => e = .returned (.tuple #[]) ∧ w' = w := by
  have K := hide fun W => must_ok 0 W
  go_enter Try.func44, Try.ntmps44
  go_wp2_with fail
  refine (K.out _).mono ?_
  rintro e w1 ⟨rfl, rfl⟩
  go_wp2_with fail
  go_end0
  exact ⟨rfl, rfl⟩

set_option maxHeartbeats 1000000 in
theorem isOneOf_any (x m : Int) (w : World) : Calls Try.prog 47 #[.int .i64 x, .int .i64 m] w fun e w' => e = .returned (.bool (decide (0 ≤ x ∧ x < m))) ∧ w' = w := by
  by_cases h1 : 0 ≤ x
  · by_cases h2 : x < m
    · go_enter Try.func47, Try.ntmps47
      go_wp2
      go_ret
      exact ⟨by simp; omega, rfl⟩
    · go_enter Try.func47, Try.ntmps47
      go_wp2
      go_ret
      exact ⟨by simp; omega, rfl⟩
  · go_enter Try.func47, Try.ntmps47
    go_wp2
    go_ret
    exact ⟨by simp; omega, rfl⟩

set_option maxHeartbeats 1000000 in
theorem shape3 (w : World) : Calls Try.prog 71 #[.int .i64 3] w fun e w' => e = .returned (.tuple #[.agg #[.bool true, .bool true, .bool false, .bool false, .bool false, .bool false], .bool true]) ∧ Below w.heap.size w w' := by
  go_enter Try.func71, Try.ntmps71
  go_wp2_with fail
  exact bodyPost_ret (v := .tuple #[.agg #[.bool true, .bool true, .bool false, .bool false, .bool false, .bool false], .bool true]) (by simp [results, Try.results71, go_sem]) rfl ⟨rfl, (Below.refl _ w).alloc (Nat.le_refl _) _⟩

set_option maxHeartbeats 1000000 in
theorem shape4 (w : World) : Calls Try.prog 71 #[.int .i64 4] w fun e w' => e = .returned (.tuple #[.agg #[.bool false, .bool true, .bool true, .bool false, .bool false, .bool false], .bool true]) ∧ Below w.heap.size w w' := by
  go_enter Try.func71, Try.ntmps71
  go_wp2_with fail
  exact bodyPost_ret (v := .tuple #[.agg #[.bool false, .bool true, .bool true, .bool false, .bool false, .bool false], .bool true]) (by simp [results, Try.results71, go_sem]) rfl ⟨rfl, (Below.refl _ w).alloc (Nat.le_refl _) _⟩

set_option maxHeartbeats 1000000 in
theorem indexNone (f : Value) (w : World) : Calls Try.prog 67 #[.slice none 0 0, f] w fun e w' => e = .returned (.int .i64 (-1)) ∧ w' = w := by
  go_enter Try.func67, Try.ntmps67
  go_wp2_with fail
  go_loopw [8] (fun i wr => i = .int .i64 0 ∧ wr = w) (fun _ _ => 0)
  case atStart => exact ⟨rfl, rfl⟩
  case round =>
    obtain ⟨rfl, rfl⟩ := hrel
    go_wp2_with fail
    go_ret
    exact ⟨rfl, by first | rfl | trivial⟩

set_option maxHeartbeats 1000000 in
theorem containsNone (f : Value) (w : World) : Calls Try.prog 57 #[.slice none 0 0, f] w fun e w' => e = .returned (.bool false) ∧ w' = w := by
  have K := hide fun W => indexNone f W
  go_enter Try.func57, Try.ntmps57
  go_wp2_with fail
  refine (K.out _).mono ?_
  rintro e w1 ⟨rfl, rfl⟩
  go_wp2_with fail
  go_ret
  exact ⟨rfl, rfl⟩

set_option maxHeartbeats 1000000 in
theorem actorsOne (w : World) : Calls Try.prog 45 #[.agg #[.int .i64 1, .slice none 0 0]] w fun e w' => e = .returned (.int .i64 0) ∧ Below w.heap.size w w' := by
  have K := hide fun f W => containsNone f W
  have hbel : Below w.heap.size w (w.alloc (.cells #[.int .i64 1, .slice none 0 0] 44)) := (Below.refl _ w).alloc (Nat.le_refl _) _
  go_enter Try.func45, Try.ntmps45
  go_wp2_with fail
  refine (K.out _ _).mono ?_
  rintro e w1 ⟨rfl, rfl⟩
  go_wp2_with fail
  go_ret
  exact ⟨rfl, hbel⟩

set_option maxHeartbeats 1000000 in
theorem policiesNone (w : World) : Calls Try.prog 69 #[.agg #[.int .i64 1, .slice none 0 0], .slice none 0 0] w fun e w' => e = .returned (.int .i64 0) ∧ Below w.heap.size w w' := by
  have hbel : Below w.heap.size w (w.alloc (.cells #[.int .i64 1, .slice none 0 0] 44)) := (Below.refl _ w).alloc (Nat.le_refl _) _
  go_enter Try.func69, Try.ntmps69
  go_wp2_with fail
  go_loopw [13] (fun i wr => i = .int .i64 0 ∧ Below w.heap.size w wr) (fun _ _ => 0)
  case atStart => exact ⟨rfl, hbel⟩
  case round =>
    obtain ⟨rfl, hB⟩ := hrel
    go_wp2_with fail
    go_ret
    exact ⟨rfl, hB⟩

theorem over_trans {w0 w1 w2 : World} (h : Below w0.heap.size w0 w1) (h2 : Below w1.heap.size w1 w2) : Below w0.heap.size w0 w2 := h.trans (h2.mono h.size)

set_option maxHeartbeats 1000000 in
theorem labelNone (w : World) : Calls Try.prog 62 #[.agg #[.int .i64 1, .slice none 0 0], .agg #[.slice none 0 0, .slice none 0 0]] w fun e w' => e = .returned (.int .i64 0) ∧ Below w.heap.size w w' := by
  have K1 := hide actorsOne
  have K2 := hide policiesNone
  have a0 : ((w.alloc (.cells #[.int .i64 1, .slice none 0 0] 44)).alloc (.cells #[.slice none 0 0, .slice none 0 0] 68)).cell? ⟨w.heap.size, 0, none⟩ = some (.int .i64 1) := by simp [go_sem]
  have a1 : ((w.alloc (.cells #[.int .i64 1, .slice none 0 0] 44)).alloc (.cells #[.slice none 0 0, .slice none 0 0] 68)).cell? ⟨w.heap.size, 1, none⟩ = some (.slice none 0 0) := by simp [go_sem]
  have l0 : ((w.alloc (.cells #[.int .i64 1, .slice none 0 0] 44)).alloc (.cells #[.slice none 0 0, .slice none 0 0] 68)).cell? ⟨w.heap.size + 1, 0, none⟩ = some (.slice none 0 0) := by simp [go_sem]
  have l1 : ((w.alloc (.cells #[.int .i64 1, .slice none 0 0] 44)).alloc (.cells #[.slice none 0 0, .slice none 0 0] 68)).cell? ⟨w.heap.size + 1, 1, none⟩ = some (.slice none 0 0) := by simp [go_sem]
  have hB0 := Below.refl ((w.alloc (.cells #[.int .i64 1, .slice none 0 0] 44)).alloc (.cells #[.slice none 0 0, .slice none 0 0] 68)).heap.size ((w.alloc (.cells #[.int .i64 1, .slice none 0 0] 44)).alloc (.cells #[.slice none 0 0, .slice none 0 0] 68))
  have hbel : Below w.heap.size w ((w.alloc (.cells #[.int .i64 1, .slice none 0 0] 44)).alloc (.cells #[.slice none 0 0, .slice none 0 0] 68)) := ((Below.refl _ w).alloc (Nat.le_refl _) _).alloc (by simp) _
  go_enter Try.func62, Try.ntmps62
  go_wp2_with fail
  refine (K1.out _).mono ?_
  rintro e w1 ⟨rfl, hb1⟩
  have hB1 := over_trans hB0 hb1
  have a01 := cell_over hB1 _ _ a0
  have a11 := cell_over hB1 _ _ a1
  have l01 := cell_over hB1 _ _ l0
  have l11 := cell_over hB1 _ _ l1
  clear hb1
  go_wp2_with fail
  refine (K2.out _).mono ?_
  rintro e w2 ⟨rfl, hb2⟩
  have hB2 := over_trans hB1 hb2
  have a02 := cell_over hB2 _ _ a0
  have a12 := cell_over hB2 _ _ a1
  have l02 := cell_over hB2 _ _ l0
  have l12 := cell_over hB2 _ _ l1
  clear hb2 a01 a11 l01 l11
  go_wp2_with fail
  refine (K2.out _).mono ?_
  rintro e w3 ⟨rfl, hb3⟩
  have hB3 := over_trans hB2 hb3
  have a03 := cell_over hB3 _ _ a0
  have a13 := cell_over hB3 _ _ a1
  have l03 := cell_over hB3 _ _ l0
  have l13 := cell_over hB3 _ _ l1
  clear hb3 a02 a12 l02 l12
  go_wp2_with fail
  go_ret
  exact ⟨rfl, hbel.trans (hB3.mono hbel.size)⟩
end Go.Proofs.Ytdbepdabkciiiaa.Ex

/- The commands of the small program: each by itself. -/
import Derived.Test.YtpbnmmgocpobcaaM17
import Derived.Deep.QuietTactic
import Derived.BigQuiet
namespace Go.Proofs.Ytpbnmmgocpobcaa.Ex
open Go.RowKit
set_option linter.unusedVariables false

set_option maxHeartbeats 4000000 in
set_option maxRecDepth 100000 in
theorem others_small (k : Int) (hk : k = 3 ∨ k = 4) (bi bo bv bm : Nat) (w : World) : Calls Try.prog 68 #[smallV bi bo bv bm, .int .i64 k, .int .i64 0] w fun e w' => e = .returned (.int .i64 1) ∧ Below w.heap.size w w' := by
  have hbel : Below w.heap.size w (w.alloc (smallO bi bo bv bm 75)) := (Below.refl _ w).alloc (Nat.le_refl _) _
  unfold smallV
  rcases hk with rfl | rfl
  · go_enter Try.func68, Try.ntmps68
    go_wp2_with fail
    go_ret
    exact ⟨rfl, hbel⟩
  · go_enter Try.func68, Try.ntmps68
    go_wp2_with fail
    go_ret
    exact ⟨rfl, hbel⟩

theorem name0 (w : World) : RX w 1 [.int .i64 2, .int .i64 0, .slice none 0 0] (xD 2 0 []) := ⟨2, 0, _, [], rfl, rfl, ⟨by omega, by omega⟩, ⟨by omega, by omega⟩, by simp, none, 0, rfl, fun h => absurd rfl h⟩

set_option maxHeartbeats 4000000 in
set_option maxRecDepth 100000 in
theorem expr_small (bi bo bv bm : Nat) (w : World) : Calls Try.prog 61 #[smallV bi bo bv bm, .agg #[.int .i64 2, .int .i64 0, .slice none 0 0]] w fun e w' => e = .returned (.tuple #[]) ∧ Below w.heap.size w w' := by
  have K1 := hide fun W => check_any 1 _ _ W 1 (by omega) (by omega) (name0 W)
  have hz : checkX 1 1 (xD 2 0 []) = 0 := by decide
  rw [hz] at K1
  have K2 := hide pass_ok
  have hbel : Below w.heap.size w ((w.alloc (smallO bi bo bv bm 75)).alloc (.cells #[.int .i64 2, .int .i64 0, .slice none 0 0] 54)) := ((Below.refl _ w).alloc (Nat.le_refl _) _).alloc (by simp) _
  unfold smallV
  go_enter Try.func61, Try.ntmps61
  go_wp2_with fail
  refine (K1.out _).mono ?_
  rintro e w1 ⟨rfl, hb1⟩
  have hB1 := hbel.trans (hb1.mono hbel.size)
  go_wp2_with fail
  refine (K2.out _).mono ?_
  rintro e w2 ⟨rfl, rfl⟩
  go_wp2_with fail
  go_end0
  exact ⟨rfl, hB1⟩


theorem isOne01 (w : World) : Calls Try.prog 41 #[.int .i64 0, .int .i64 1] w fun e w' => e = .returned (.bool true) ∧ w' = w := isOneOf_any 0 1 w

set_option maxHeartbeats 8000000 in
set_option maxRecDepth 100000 in
theorem stmt_get (bi bo bv bm : Nat) (w : World) : Calls Try.prog 62 #[smallV bi bo bv bm, .agg #[.int .i64 3, .int .i64 0, .int .i64 0, .int .i64 0, .int .i64 0, .slice none 0 0, .slice none 0 0, .slice none 0 0, .slice none 0 0], .int .i64 0] w fun e w' => e = .returned (.tuple #[]) ∧ Below w.heap.size w w' := by
  have K1 := hide shape3
  have K2 := hide must_ok
  have K3 := hide isOne01
  have K4 := hide fun W => others_small 3 (by omega) bi bo bv bm W
  have K5 := hide fun W => expr_small bi bo bv bm W
  have c0 : ((w.alloc (smallO bi bo bv bm 75)).alloc (.cells #[.int .i64 3, .int .i64 0, .int .i64 0, .int .i64 0, .int .i64 0, .slice none 0 0, .slice none 0 0, .slice none 0 0, .slice none 0 0] 71)).cell? ⟨w.heap.size, 0, none⟩ = some (.int .i64 1) := by simp [go_sem]
  have c1 : ((w.alloc (smallO bi bo bv bm 75)).alloc (.cells #[.int .i64 3, .int .i64 0, .int .i64 0, .int .i64 0, .int .i64 0, .slice none 0 0, .slice none 0 0, .slice none 0 0, .slice none 0 0] 71)).cell? ⟨w.heap.size, 1, none⟩ = some (.slice none 0 0) := by simp [go_sem]
  have c2 : ((w.alloc (smallO bi bo bv bm 75)).alloc (.cells #[.int .i64 3, .int .i64 0, .int .i64 0, .int .i64 0, .int .i64 0, .slice none 0 0, .slice none 0 0, .slice none 0 0, .slice none 0 0] 71)).cell? ⟨w.heap.size, 2, none⟩ = some (.slice none 0 0) := by simp [go_sem]
  have c3 : ((w.alloc (smallO bi bo bv bm 75)).alloc (.cells #[.int .i64 3, .int .i64 0, .int .i64 0, .int .i64 0, .int .i64 0, .slice none 0 0, .slice none 0 0, .slice none 0 0, .slice none 0 0] 71)).cell? ⟨w.heap.size, 3, none⟩ = some (.slice (some ⟨bi, 0, none⟩) 1 1) := by simp [go_sem]
  have c4 : ((w.alloc (smallO bi bo bv bm 75)).alloc (.cells #[.int .i64 3, .int .i64 0, .int .i64 0, .int .i64 0, .int .i64 0, .slice none 0 0, .slice none 0 0, .slice none 0 0, .slice none 0 0] 71)).cell? ⟨w.heap.size, 4, none⟩ = some (.slice (some ⟨bo, 0, none⟩) 1 1) := by simp [go_sem]
  have c5 : ((w.alloc (smallO bi bo bv bm 75)).alloc (.cells #[.int .i64 3, .int .i64 0, .int .i64 0, .int .i64 0, .int .i64 0, .slice none 0 0, .slice none 0 0, .slice none 0 0, .slice none 0 0] 71)).cell? ⟨w.heap.size, 5, none⟩ = some (.slice (some ⟨bv, 0, none⟩) 1 1) := by simp [go_sem]
  have c6 : ((w.alloc (smallO bi bo bv bm 75)).alloc (.cells #[.int .i64 3, .int .i64 0, .int .i64 0, .int .i64 0, .int .i64 0, .slice none 0 0, .slice none 0 0, .slice none 0 0, .slice none 0 0] 71)).cell? ⟨w.heap.size, 6, none⟩ = some (.slice none 0 0) := by simp [go_sem]
  have c7 : ((w.alloc (smallO bi bo bv bm 75)).alloc (.cells #[.int .i64 3, .int .i64 0, .int .i64 0, .int .i64 0, .int .i64 0, .slice none 0 0, .slice none 0 0, .slice none 0 0, .slice none 0 0] 71)).cell? ⟨w.heap.size, 7, none⟩ = some (.slice (some ⟨bm, 0, none⟩) 2 2) := by simp [go_sem]
  have s0 : ((w.alloc (smallO bi bo bv bm 75)).alloc (.cells #[.int .i64 3, .int .i64 0, .int .i64 0, .int .i64 0, .int .i64 0, .slice none 0 0, .slice none 0 0, .slice none 0 0, .slice none 0 0] 71)).cell? ⟨w.heap.size + 1, 0, none⟩ = some (.int .i64 3) := by simp [go_sem]
  have s1 : ((w.alloc (smallO bi bo bv bm 75)).alloc (.cells #[.int .i64 3, .int .i64 0, .int .i64 0, .int .i64 0, .int .i64 0, .slice none 0 0, .slice none 0 0, .slice none 0 0, .slice none 0 0] 71)).cell? ⟨w.heap.size + 1, 1, none⟩ = some (.int .i64 0) := by simp [go_sem]
  have s2 : ((w.alloc (smallO bi bo bv bm 75)).alloc (.cells #[.int .i64 3, .int .i64 0, .int .i64 0, .int .i64 0, .int .i64 0, .slice none 0 0, .slice none 0 0, .slice none 0 0, .slice none 0 0] 71)).cell? ⟨w.heap.size + 1, 2, none⟩ = some (.int .i64 0) := by simp [go_sem]
  have s3 : ((w.alloc (smallO bi bo bv bm 75)).alloc (.cells #[.int .i64 3, .int .i64 0, .int .i64 0, .int .i64 0, .int .i64 0, .slice none 0 0, .slice none 0 0, .slice none 0 0, .slice none 0 0] 71)).cell? ⟨w.heap.size + 1, 3, none⟩ = some (.int .i64 0) := by simp [go_sem]
  have s4 : ((w.alloc (smallO bi bo bv bm 75)).alloc (.cells #[.int .i64 3, .int .i64 0, .int .i64 0, .int .i64 0, .int .i64 0, .slice none 0 0, .slice none 0 0, .slice none 0 0, .slice none 0 0] 71)).cell? ⟨w.heap.size + 1, 4, none⟩ = some (.int .i64 0) := by simp [go_sem]
  have s5 : ((w.alloc (smallO bi bo bv bm 75)).alloc (.cells #[.int .i64 3, .int .i64 0, .int .i64 0, .int .i64 0, .int .i64 0, .slice none 0 0, .slice none 0 0, .slice none 0 0, .slice none 0 0] 71)).cell? ⟨w.heap.size + 1, 5, none⟩ = some (.slice none 0 0) := by simp [go_sem]
  have s6 : ((w.alloc (smallO bi bo bv bm 75)).alloc (.cells #[.int .i64 3, .int .i64 0, .int .i64 0, .int .i64 0, .int .i64 0, .slice none 0 0, .slice none 0 0, .slice none 0 0, .slice none 0 0] 71)).cell? ⟨w.heap.size + 1, 6, none⟩ = some (.slice none 0 0) := by simp [go_sem]
  have s7 : ((w.alloc (smallO bi bo bv bm 75)).alloc (.cells #[.int .i64 3, .int .i64 0, .int .i64 0, .int .i64 0, .int .i64 0, .slice none 0 0, .slice none 0 0, .slice none 0 0, .slice none 0 0] 71)).cell? ⟨w.heap.size + 1, 7, none⟩ = some (.slice none 0 0) := by simp [go_sem]
  have s8 : ((w.alloc (smallO bi bo bv bm 75)).alloc (.cells #[.int .i64 3, .int .i64 0, .int .i64 0, .int .i64 0, .int .i64 0, .slice none 0 0, .slice none 0 0, .slice none 0 0, .slice none 0 0] 71)).cell? ⟨w.heap.size + 1, 8, none⟩ = some (.slice none 0 0) := by simp [go_sem]
  have hbel : Below w.heap.size w ((w.alloc (smallO bi bo bv bm 75)).alloc (.cells #[.int .i64 3, .int .i64 0, .int .i64 0, .int .i64 0, .int .i64 0, .slice none 0 0, .slice none 0 0, .slice none 0 0, .slice none 0 0] 71)) := ((Below.refl _ w).alloc (Nat.le_refl _) _).alloc (by simp) _
  unfold smallV
  go_enter Try.func62, Try.ntmps62
  go_wp2_with fail
  refine (K1.out _).mono ?_
  rintro e w1 ⟨rfl, hb1⟩
  have hB1 := hbel.trans (hb1.mono hbel.size)
  have hb2 := over_trans hb1 ((Below.refl _ w1).alloc (Nat.le_refl _) (.cells #[.bool true, .bool true, .bool false, .bool false, .bool false, .bool false] 117))
  have hB2 := hbel.trans (hb2.mono hbel.size)
  have c0a := cell_over hb2 _ _ c0
  have c1a := cell_over hb2 _ _ c1
  have c2a := cell_over hb2 _ _ c2
  have c3a := cell_over hb2 _ _ c3
  have c4a := cell_over hb2 _ _ c4
  have c5a := cell_over hb2 _ _ c5
  have c6a := cell_over hb2 _ _ c6
  have c7a := cell_over hb2 _ _ c7
  have s0a := cell_over hb2 _ _ s0
  have s1a := cell_over hb2 _ _ s1
  have s2a := cell_over hb2 _ _ s2
  have s3a := cell_over hb2 _ _ s3
  have s4a := cell_over hb2 _ _ s4
  have s5a := cell_over hb2 _ _ s5
  have s6a := cell_over hb2 _ _ s6
  have s7a := cell_over hb2 _ _ s7
  have s8a := cell_over hb2 _ _ s8
  have h0 : (w1.alloc (.cells #[.bool true, .bool true, .bool false, .bool false, .bool false, .bool false] 117)).cell? ⟨w1.heap.size, 0, none⟩ = some (.bool true) := by simp [go_sem]
  have h1 : (w1.alloc (.cells #[.bool true, .bool true, .bool false, .bool false, .bool false, .bool false] 117)).cell? ⟨w1.heap.size, 1, none⟩ = some (.bool true) := by simp [go_sem]
  have h2 : (w1.alloc (.cells #[.bool true, .bool true, .bool false, .bool false, .bool false, .bool false] 117)).cell? ⟨w1.heap.size, 2, none⟩ = some (.bool false) := by simp [go_sem]
  have h3 : (w1.alloc (.cells #[.bool true, .bool true, .bool false, .bool false, .bool false, .bool false] 117)).cell? ⟨w1.heap.size, 3, none⟩ = some (.bool false) := by simp [go_sem]
  have h4 : (w1.alloc (.cells #[.bool true, .bool true, .bool false, .bool false, .bool false, .bool false] 117)).cell? ⟨w1.heap.size, 4, none⟩ = some (.bool false) := by simp [go_sem]
  have h5 : (w1.alloc (.cells #[.bool true, .bool true, .bool false, .bool false, .bool false, .bool false] 117)).cell? ⟨w1.heap.size, 5, none⟩ = some (.bool false) := by simp [go_sem]
  clear hb1 hb2 hbel hB1 c0 c1 c2 c3 c4 c5 c6 c7 s0 s1 s2 s3 s4 s5 s6 s7 s8
  go_wp2_with fail
  refine (K2.out _ _).mono ?_
  rintro e wz ⟨rfl, rfl⟩
  go_wp2_with fail
  refine (K3.out _).mono ?_
  rintro e wz ⟨rfl, rfl⟩
  go_wp2_with fail
  refine (K2.out _ _).mono ?_
  rintro e wz ⟨rfl, rfl⟩
  go_wp2_with fail
  have hr0 := Below.refl (w1.alloc (.cells #[.bool true, .bool true, .bool false, .bool false, .bool false, .bool false] 117)).heap.size (w1.alloc (.cells #[.bool true, .bool true, .bool false, .bool false, .bool false, .bool false] 117))
  go_region_held3 (fun W => W.cell? ⟨w.heap.size, 0, none⟩ = some (.int .i64 1) ∧ W.cell? ⟨w.heap.size, 1, none⟩ = some (.slice none 0 0) ∧ W.cell? ⟨w.heap.size, 2, none⟩ = some (.slice none 0 0) ∧ W.cell? ⟨w.heap.size, 3, none⟩ = some (.slice (some ⟨bi, 0, none⟩) 1 1) ∧ W.cell? ⟨w.heap.size, 4, none⟩ = some (.slice (some ⟨bo, 0, none⟩) 1 1) ∧ W.cell? ⟨w.heap.size, 5, none⟩ = some (.slice (some ⟨bv, 0, none⟩) 1 1) ∧ W.cell? ⟨w.heap.size, 6, none⟩ = some (.slice none 0 0) ∧ W.cell? ⟨w.heap.size, 7, none⟩ = some (.slice (some ⟨bm, 0, none⟩) 2 2) ∧ W.cell? ⟨w.heap.size + 1, 0, none⟩ = some (.int .i64 3) ∧ W.cell? ⟨w.heap.size + 1, 2, none⟩ = some (.int .i64 0) ∧ W.cell? ⟨w1.heap.size, 1, none⟩ = some (.bool true) ∧ Below (w1.alloc (.cells #[.bool true, .bool true, .bool false, .bool false, .bool false, .bool false] 117)).heap.size (w1.alloc (.cells #[.bool true, .bool true, .bool false, .bool false, .bool false, .bool false] 117)) W) (first | assumption | exact ⟨c0a, c1a, c2a, c3a, c4a, c5a, c6a, c7a, s0a, s2a, h1, below_drewN hr0 1⟩ | exact held11 (by assumption) hbp | fail) (first | (go_at_call 68; refine (K4.out _).mono ?_; rintro e wp ⟨rfl, hbp⟩) | (go_at_call 41; refine (K3.out _).mono ?_; rintro e wq ⟨rfl, rfl⟩) | (go_at_call 40; refine (K2.out _ _).mono ?_; rintro e wq ⟨rfl, rfl⟩))
  have hb2 := (by assumption : _ ∧ _ ∧ _ ∧ _ ∧ _ ∧ _ ∧ _ ∧ _ ∧ _ ∧ _ ∧ _ ∧ Below _ _ _).2.2.2.2.2.2.2.2.2.2.2
  have hB3 := hB2.trans (hb2.mono hB2.size)
  have c0a2 := cell_over hb2 _ _ c0a
  have c1a2 := cell_over hb2 _ _ c1a
  have c2a2 := cell_over hb2 _ _ c2a
  have c3a2 := cell_over hb2 _ _ c3a
  have c4a2 := cell_over hb2 _ _ c4a
  have c5a2 := cell_over hb2 _ _ c5a
  have c6a2 := cell_over hb2 _ _ c6a
  have c7a2 := cell_over hb2 _ _ c7a
  have s0a2 := cell_over hb2 _ _ s0a
  have s1a2 := cell_over hb2 _ _ s1a
  have s2a2 := cell_over hb2 _ _ s2a
  have s3a2 := cell_over hb2 _ _ s3a
  have s4a2 := cell_over hb2 _ _ s4a
  have s5a2 := cell_over hb2 _ _ s5a
  have s6a2 := cell_over hb2 _ _ s6a
  have s7a2 := cell_over hb2 _ _ s7a
  have s8a2 := cell_over hb2 _ _ s8a
  have h02 := cell_over hb2 _ _ h0
  have h12 := cell_over hb2 _ _ h1
  have h22 := cell_over hb2 _ _ h2
  have h32 := cell_over hb2 _ _ h3
  have h42 := cell_over hb2 _ _ h4
  have h52 := cell_over hb2 _ _ h5
  clear hb2 hB2 c0a c1a c2a c3a c4a c5a c6a c7a s0a s1a s2a s3a s4a s5a s6a s7a s8a h0 h1 h2 h3 h4 h5
  go_wp2_with fail
  refine (K2.out _ _).mono ?_
  rintro e wz ⟨rfl, rfl⟩
  go_wp2_with fail
  refine (K2.out _ _).mono ?_
  rintro e wz ⟨rfl, rfl⟩
  go_wp2_with fail
  refine (K2.out _ _).mono ?_
  rintro e wz ⟨rfl, rfl⟩
  go_wp2_with fail
  refine (K2.out _ _).mono ?_
  rintro e wz ⟨rfl, rfl⟩
  go_wp2_with fail
  refine (K2.out _ _).mono ?_
  rintro e wz ⟨rfl, rfl⟩
  go_wp2_with fail
  refine (K2.out _ _).mono ?_
  rintro e wz ⟨rfl, rfl⟩
  go_wp2_with fail
  go_quiet ((go_at_call 40; exact Calls.quiet_of_same (K2.out _ _)))
  have c0aq := cellN (n := nq) c0a2
  have c1aq := cellN (n := nq) c1a2
  have c2aq := cellN (n := nq) c2a2
  have c3aq := cellN (n := nq) c3a2
  have c4aq := cellN (n := nq) c4a2
  have c5aq := cellN (n := nq) c5a2
  have c6aq := cellN (n := nq) c6a2
  have c7aq := cellN (n := nq) c7a2
  have s0aq := cellN (n := nq) s0a2
  have s1aq := cellN (n := nq) s1a2
  have s2aq := cellN (n := nq) s2a2
  have s3aq := cellN (n := nq) s3a2
  have s4aq := cellN (n := nq) s4a2
  have s5aq := cellN (n := nq) s5a2
  have s6aq := cellN (n := nq) s6a2
  have s7aq := cellN (n := nq) s7a2
  have s8aq := cellN (n := nq) s8a2
  have h0q := cellN (n := nq) h02
  have h1q := cellN (n := nq) h12
  have h2q := cellN (n := nq) h22
  have h3q := cellN (n := nq) h32
  have h4q := cellN (n := nq) h42
  have h5q := cellN (n := nq) h52
  have hB3 := below_drewN hB3 nq
  clear c0a2 c1a2 c2a2 c3a2 c4a2 c5a2 c6a2 c7a2 s0a2 s1a2 s2a2 s3a2 s4a2 s5a2 s6a2 s7a2 s8a2 h02 h12 h22 h32 h42 h52
  go_wp2_with fail
  go_loopw [138] (fun i wr => i = .int .i64 0 ∧ Below w.heap.size w wr) (fun _ _ => 0)
  case atStart => exact ⟨rfl, hB3⟩
  case round =>
    obtain ⟨rfl, hB⟩ := hrel
    go_wp2_with fail
    go_end0
    exact ⟨rfl, hB⟩

set_option maxHeartbeats 8000000 in
set_option maxRecDepth 100000 in
theorem stmt_put (bi bo bv bm : Nat) (w : World) : Calls Try.prog 62 #[smallV bi bo bv bm, .agg #[.int .i64 4, .int .i64 0, .int .i64 0, .int .i64 2, .int .i64 0, .slice none 0 0, .slice none 0 0, .slice none 0 0, .slice none 0 0], .int .i64 0] w fun e w' => e = .returned (.tuple #[]) ∧ Below w.heap.size w w' := by
  have K1 := hide shape4
  have K2 := hide must_ok
  have K3 := hide isOne01
  have K4 := hide fun W => others_small 4 (by omega) bi bo bv bm W
  have K5 := hide fun W => expr_small bi bo bv bm W
  have c0 : ((w.alloc (smallO bi bo bv bm 75)).alloc (.cells #[.int .i64 4, .int .i64 0, .int .i64 0, .int .i64 2, .int .i64 0, .slice none 0 0, .slice none 0 0, .slice none 0 0, .slice none 0 0] 71)).cell? ⟨w.heap.size, 0, none⟩ = some (.int .i64 1) := by simp [go_sem]
  have c1 : ((w.alloc (smallO bi bo bv bm 75)).alloc (.cells #[.int .i64 4, .int .i64 0, .int .i64 0, .int .i64 2, .int .i64 0, .slice none 0 0, .slice none 0 0, .slice none 0 0, .slice none 0 0] 71)).cell? ⟨w.heap.size, 1, none⟩ = some (.slice none 0 0) := by simp [go_sem]
  have c2 : ((w.alloc (smallO bi bo bv bm 75)).alloc (.cells #[.int .i64 4, .int .i64 0, .int .i64 0, .int .i64 2, .int .i64 0, .slice none 0 0, .slice none 0 0, .slice none 0 0, .slice none 0 0] 71)).cell? ⟨w.heap.size, 2, none⟩ = some (.slice none 0 0) := by simp [go_sem]
  have c3 : ((w.alloc (smallO bi bo bv bm 75)).alloc (.cells #[.int .i64 4, .int .i64 0, .int .i64 0, .int .i64 2, .int .i64 0, .slice none 0 0, .slice none 0 0, .slice none 0 0, .slice none 0 0] 71)).cell? ⟨w.heap.size, 3, none⟩ = some (.slice (some ⟨bi, 0, none⟩) 1 1) := by simp [go_sem]
  have c4 : ((w.alloc (smallO bi bo bv bm 75)).alloc (.cells #[.int .i64 4, .int .i64 0, .int .i64 0, .int .i64 2, .int .i64 0, .slice none 0 0, .slice none 0 0, .slice none 0 0, .slice none 0 0] 71)).cell? ⟨w.heap.size, 4, none⟩ = some (.slice (some ⟨bo, 0, none⟩) 1 1) := by simp [go_sem]
  have c5 : ((w.alloc (smallO bi bo bv bm 75)).alloc (.cells #[.int .i64 4, .int .i64 0, .int .i64 0, .int .i64 2, .int .i64 0, .slice none 0 0, .slice none 0 0, .slice none 0 0, .slice none 0 0] 71)).cell? ⟨w.heap.size, 5, none⟩ = some (.slice (some ⟨bv, 0, none⟩) 1 1) := by simp [go_sem]
  have c6 : ((w.alloc (smallO bi bo bv bm 75)).alloc (.cells #[.int .i64 4, .int .i64 0, .int .i64 0, .int .i64 2, .int .i64 0, .slice none 0 0, .slice none 0 0, .slice none 0 0, .slice none 0 0] 71)).cell? ⟨w.heap.size, 6, none⟩ = some (.slice none 0 0) := by simp [go_sem]
  have c7 : ((w.alloc (smallO bi bo bv bm 75)).alloc (.cells #[.int .i64 4, .int .i64 0, .int .i64 0, .int .i64 2, .int .i64 0, .slice none 0 0, .slice none 0 0, .slice none 0 0, .slice none 0 0] 71)).cell? ⟨w.heap.size, 7, none⟩ = some (.slice (some ⟨bm, 0, none⟩) 2 2) := by simp [go_sem]
  have s0 : ((w.alloc (smallO bi bo bv bm 75)).alloc (.cells #[.int .i64 4, .int .i64 0, .int .i64 0, .int .i64 2, .int .i64 0, .slice none 0 0, .slice none 0 0, .slice none 0 0, .slice none 0 0] 71)).cell? ⟨w.heap.size + 1, 0, none⟩ = some (.int .i64 4) := by simp [go_sem]
  have s1 : ((w.alloc (smallO bi bo bv bm 75)).alloc (.cells #[.int .i64 4, .int .i64 0, .int .i64 0, .int .i64 2, .int .i64 0, .slice none 0 0, .slice none 0 0, .slice none 0 0, .slice none 0 0] 71)).cell? ⟨w.heap.size + 1, 1, none⟩ = some (.int .i64 0) := by simp [go_sem]
  have s2 : ((w.alloc (smallO bi bo bv bm 75)).alloc (.cells #[.int .i64 4, .int .i64 0, .int .i64 0, .int .i64 2, .int .i64 0, .slice none 0 0, .slice none 0 0, .slice none 0 0, .slice none 0 0] 71)).cell? ⟨w.heap.size + 1, 2, none⟩ = some (.int .i64 0) := by simp [go_sem]
  have s3 : ((w.alloc (smallO bi bo bv bm 75)).alloc (.cells #[.int .i64 4, .int .i64 0, .int .i64 0, .int .i64 2, .int .i64 0, .slice none 0 0, .slice none 0 0, .slice none 0 0, .slice none 0 0] 71)).cell? ⟨w.heap.size + 1, 3, none⟩ = some (.int .i64 2) := by simp [go_sem]
  have s4 : ((w.alloc (smallO bi bo bv bm 75)).alloc (.cells #[.int .i64 4, .int .i64 0, .int .i64 0, .int .i64 2, .int .i64 0, .slice none 0 0, .slice none 0 0, .slice none 0 0, .slice none 0 0] 71)).cell? ⟨w.heap.size + 1, 4, none⟩ = some (.int .i64 0) := by simp [go_sem]
  have s5 : ((w.alloc (smallO bi bo bv bm 75)).alloc (.cells #[.int .i64 4, .int .i64 0, .int .i64 0, .int .i64 2, .int .i64 0, .slice none 0 0, .slice none 0 0, .slice none 0 0, .slice none 0 0] 71)).cell? ⟨w.heap.size + 1, 5, none⟩ = some (.slice none 0 0) := by simp [go_sem]
  have s6 : ((w.alloc (smallO bi bo bv bm 75)).alloc (.cells #[.int .i64 4, .int .i64 0, .int .i64 0, .int .i64 2, .int .i64 0, .slice none 0 0, .slice none 0 0, .slice none 0 0, .slice none 0 0] 71)).cell? ⟨w.heap.size + 1, 6, none⟩ = some (.slice none 0 0) := by simp [go_sem]
  have s7 : ((w.alloc (smallO bi bo bv bm 75)).alloc (.cells #[.int .i64 4, .int .i64 0, .int .i64 0, .int .i64 2, .int .i64 0, .slice none 0 0, .slice none 0 0, .slice none 0 0, .slice none 0 0] 71)).cell? ⟨w.heap.size + 1, 7, none⟩ = some (.slice none 0 0) := by simp [go_sem]
  have s8 : ((w.alloc (smallO bi bo bv bm 75)).alloc (.cells #[.int .i64 4, .int .i64 0, .int .i64 0, .int .i64 2, .int .i64 0, .slice none 0 0, .slice none 0 0, .slice none 0 0, .slice none 0 0] 71)).cell? ⟨w.heap.size + 1, 8, none⟩ = some (.slice none 0 0) := by simp [go_sem]
  have hbel : Below w.heap.size w ((w.alloc (smallO bi bo bv bm 75)).alloc (.cells #[.int .i64 4, .int .i64 0, .int .i64 0, .int .i64 2, .int .i64 0, .slice none 0 0, .slice none 0 0, .slice none 0 0, .slice none 0 0] 71)) := ((Below.refl _ w).alloc (Nat.le_refl _) _).alloc (by simp) _
  unfold smallV
  go_enter Try.func62, Try.ntmps62
  go_wp2_with fail
  refine (K1.out _).mono ?_
  rintro e w1 ⟨rfl, hb1⟩
  have hB1 := hbel.trans (hb1.mono hbel.size)
  have hb2 := over_trans hb1 ((Below.refl _ w1).alloc (Nat.le_refl _) (.cells #[.bool false, .bool true, .bool true, .bool false, .bool false, .bool false] 117))
  have hB2 := hbel.trans (hb2.mono hbel.size)
  have c0a := cell_over hb2 _ _ c0
  have c1a := cell_over hb2 _ _ c1
  have c2a := cell_over hb2 _ _ c2
  have c3a := cell_over hb2 _ _ c3
  have c4a := cell_over hb2 _ _ c4
  have c5a := cell_over hb2 _ _ c5
  have c6a := cell_over hb2 _ _ c6
  have c7a := cell_over hb2 _ _ c7
  have s0a := cell_over hb2 _ _ s0
  have s1a := cell_over hb2 _ _ s1
  have s2a := cell_over hb2 _ _ s2
  have s3a := cell_over hb2 _ _ s3
  have s4a := cell_over hb2 _ _ s4
  have s5a := cell_over hb2 _ _ s5
  have s6a := cell_over hb2 _ _ s6
  have s7a := cell_over hb2 _ _ s7
  have s8a := cell_over hb2 _ _ s8
  have h0 : (w1.alloc (.cells #[.bool false, .bool true, .bool true, .bool false, .bool false, .bool false] 117)).cell? ⟨w1.heap.size, 0, none⟩ = some (.bool false) := by simp [go_sem]
  have h1 : (w1.alloc (.cells #[.bool false, .bool true, .bool true, .bool false, .bool false, .bool false] 117)).cell? ⟨w1.heap.size, 1, none⟩ = some (.bool true) := by simp [go_sem]
  have h2 : (w1.alloc (.cells #[.bool false, .bool true, .bool true, .bool false, .bool false, .bool false] 117)).cell? ⟨w1.heap.size, 2, none⟩ = some (.bool true) := by simp [go_sem]
  have h3 : (w1.alloc (.cells #[.bool false, .bool true, .bool true, .bool false, .bool false, .bool false] 117)).cell? ⟨w1.heap.size, 3, none⟩ = some (.bool false) := by simp [go_sem]
  have h4 : (w1.alloc (.cells #[.bool false, .bool true, .bool true, .bool false, .bool false, .bool false] 117)).cell? ⟨w1.heap.size, 4, none⟩ = some (.bool false) := by simp [go_sem]
  have h5 : (w1.alloc (.cells #[.bool false, .bool true, .bool true, .bool false, .bool false, .bool false] 117)).cell? ⟨w1.heap.size, 5, none⟩ = some (.bool false) := by simp [go_sem]
  clear hb1 hb2 hbel hB1 c0 c1 c2 c3 c4 c5 c6 c7 s0 s1 s2 s3 s4 s5 s6 s7 s8
  go_wp2_with fail
  refine (K2.out _ _).mono ?_
  rintro e wz ⟨rfl, rfl⟩
  go_wp2_with fail
  refine (K2.out _ _).mono ?_
  rintro e wz ⟨rfl, rfl⟩
  go_wp2_with fail
  have hr0 := Below.refl (w1.alloc (.cells #[.bool false, .bool true, .bool true, .bool false, .bool false, .bool false] 117)).heap.size (w1.alloc (.cells #[.bool false, .bool true, .bool true, .bool false, .bool false, .bool false] 117))
  go_region_held3 (fun W => W.cell? ⟨w.heap.size, 0, none⟩ = some (.int .i64 1) ∧ W.cell? ⟨w.heap.size, 1, none⟩ = some (.slice none 0 0) ∧ W.cell? ⟨w.heap.size, 2, none⟩ = some (.slice none 0 0) ∧ W.cell? ⟨w.heap.size, 3, none⟩ = some (.slice (some ⟨bi, 0, none⟩) 1 1) ∧ W.cell? ⟨w.heap.size, 4, none⟩ = some (.slice (some ⟨bo, 0, none⟩) 1 1) ∧ W.cell? ⟨w.heap.size, 5, none⟩ = some (.slice (some ⟨bv, 0, none⟩) 1 1) ∧ W.cell? ⟨w.heap.size, 6, none⟩ = some (.slice none 0 0) ∧ W.cell? ⟨w.heap.size, 7, none⟩ = some (.slice (some ⟨bm, 0, none⟩) 2 2) ∧ W.cell? ⟨w.heap.size + 1, 0, none⟩ = some (.int .i64 4) ∧ W.cell? ⟨w.heap.size + 1, 2, none⟩ = some (.int .i64 0) ∧ W.cell? ⟨w1.heap.size, 1, none⟩ = some (.bool true) ∧ Below (w1.alloc (.cells #[.bool false, .bool true, .bool true, .bool false, .bool false, .bool false] 117)).heap.size (w1.alloc (.cells #[.bool false, .bool true, .bool true, .bool false, .bool false, .bool false] 117)) W) (first | assumption | exact ⟨c0a, c1a, c2a, c3a, c4a, c5a, c6a, c7a, s0a, s2a, h1, below_drewN hr0 1⟩ | exact held11 (by assumption) hbp | fail) (first | (go_at_call 68; refine (K4.out _).mono ?_; rintro e wp ⟨rfl, hbp⟩) | (go_at_call 41; refine (K3.out _).mono ?_; rintro e wq ⟨rfl, rfl⟩) | (go_at_call 40; refine (K2.out _ _).mono ?_; rintro e wq ⟨rfl, rfl⟩))
  have hb2 := (by assumption : _ ∧ _ ∧ _ ∧ _ ∧ _ ∧ _ ∧ _ ∧ _ ∧ _ ∧ _ ∧ _ ∧ Below _ _ _).2.2.2.2.2.2.2.2.2.2.2
  have hB3 := hB2.trans (hb2.mono hB2.size)
  have c0a2 := cell_over hb2 _ _ c0a
  have c1a2 := cell_over hb2 _ _ c1a
  have c2a2 := cell_over hb2 _ _ c2a
  have c3a2 := cell_over hb2 _ _ c3a
  have c4a2 := cell_over hb2 _ _ c4a
  have c5a2 := cell_over hb2 _ _ c5a
  have c6a2 := cell_over hb2 _ _ c6a
  have c7a2 := cell_over hb2 _ _ c7a
  have s0a2 := cell_over hb2 _ _ s0a
  have s1a2 := cell_over hb2 _ _ s1a
  have s2a2 := cell_over hb2 _ _ s2a
  have s3a2 := cell_over hb2 _ _ s3a
  have s4a2 := cell_over hb2 _ _ s4a
  have s5a2 := cell_over hb2 _ _ s5a
  have s6a2 := cell_over hb2 _ _ s6a
  have s7a2 := cell_over hb2 _ _ s7a
  have s8a2 := cell_over hb2 _ _ s8a
  have h02 := cell_over hb2 _ _ h0
  have h12 := cell_over hb2 _ _ h1
  have h22 := cell_over hb2 _ _ h2
  have h32 := cell_over hb2 _ _ h3
  have h42 := cell_over hb2 _ _ h4
  have h52 := cell_over hb2 _ _ h5
  clear hb2 hB2 c0a c1a c2a c3a c4a c5a c6a c7a s0a s1a s2a s3a s4a s5a s6a s7a s8a h0 h1 h2 h3 h4 h5
  go_wp2_with fail
  refine (K2.out _ _).mono ?_
  rintro e wz ⟨rfl, rfl⟩
  go_wp2_with fail
  refine (K2.out _ _).mono ?_
  rintro e wz ⟨rfl, rfl⟩
  go_wp2_with fail
  refine (K2.out _ _).mono ?_
  rintro e wz ⟨rfl, rfl⟩
  go_wp2_with fail
  refine (K2.out _ _).mono ?_
  rintro e wz ⟨rfl, rfl⟩
  go_wp2_with fail
  refine (K2.out _ _).mono ?_
  rintro e wz ⟨rfl, rfl⟩
  go_wp2_with fail
  refine (K2.out _ _).mono ?_
  rintro e wz ⟨rfl, rfl⟩
  go_wp2_with fail
  go_quiet ((go_at_call 40; exact Calls.quiet_of_same (K2.out _ _)))
  have c0aq := cellN (n := nq) c0a2
  have c1aq := cellN (n := nq) c1a2
  have c2aq := cellN (n := nq) c2a2
  have c3aq := cellN (n := nq) c3a2
  have c4aq := cellN (n := nq) c4a2
  have c5aq := cellN (n := nq) c5a2
  have c6aq := cellN (n := nq) c6a2
  have c7aq := cellN (n := nq) c7a2
  have s0aq := cellN (n := nq) s0a2
  have s1aq := cellN (n := nq) s1a2
  have s2aq := cellN (n := nq) s2a2
  have s3aq := cellN (n := nq) s3a2
  have s4aq := cellN (n := nq) s4a2
  have s5aq := cellN (n := nq) s5a2
  have s6aq := cellN (n := nq) s6a2
  have s7aq := cellN (n := nq) s7a2
  have s8aq := cellN (n := nq) s8a2
  have h0q := cellN (n := nq) h02
  have h1q := cellN (n := nq) h12
  have h2q := cellN (n := nq) h22
  have h3q := cellN (n := nq) h32
  have h4q := cellN (n := nq) h42
  have h5q := cellN (n := nq) h52
  have hB3 := below_drewN hB3 nq
  clear c0a2 c1a2 c2a2 c3a2 c4a2 c5a2 c6a2 c7a2 s0a2 s1a2 s2a2 s3a2 s4a2 s5a2 s6a2 s7a2 s8a2 h02 h12 h22 h32 h42 h52
  go_wp2_with fail
  refine (K5.out _).mono ?_
  rintro e w3 ⟨rfl, hb3⟩
  have hB4 := hB3.trans (hb3.mono hB3.size)
  have c0a3 := cell_over hb3 _ _ c0aq
  have c1a3 := cell_over hb3 _ _ c1aq
  have c2a3 := cell_over hb3 _ _ c2aq
  have c3a3 := cell_over hb3 _ _ c3aq
  have c4a3 := cell_over hb3 _ _ c4aq
  have c5a3 := cell_over hb3 _ _ c5aq
  have c6a3 := cell_over hb3 _ _ c6aq
  have c7a3 := cell_over hb3 _ _ c7aq
  have s0a3 := cell_over hb3 _ _ s0aq
  have s1a3 := cell_over hb3 _ _ s1aq
  have s2a3 := cell_over hb3 _ _ s2aq
  have s3a3 := cell_over hb3 _ _ s3aq
  have s4a3 := cell_over hb3 _ _ s4aq
  have s5a3 := cell_over hb3 _ _ s5aq
  have s6a3 := cell_over hb3 _ _ s6aq
  have s7a3 := cell_over hb3 _ _ s7aq
  have s8a3 := cell_over hb3 _ _ s8aq
  have h03 := cell_over hb3 _ _ h0q
  have h13 := cell_over hb3 _ _ h1q
  have h23 := cell_over hb3 _ _ h2q
  have h33 := cell_over hb3 _ _ h3q
  have h43 := cell_over hb3 _ _ h4q
  have h53 := cell_over hb3 _ _ h5q
  clear hb3 hB3 c0aq c1aq c2aq c3aq c4aq c5aq c6aq c7aq s0aq s1aq s2aq s3aq s4aq s5aq s6aq s7aq s8aq h0q h1q h2q h3q h4q h5q
  go_wp2_with fail
  go_loopw [138] (fun i wr => i = .int .i64 0 ∧ Below w.heap.size w wr) (fun _ _ => 0)
  case atStart => exact ⟨rfl, hB4⟩
  case round =>
    obtain ⟨rfl, hB⟩ := hrel
    go_wp2_with fail
    go_end0
    exact ⟨rfl, hB⟩

end Go.Proofs.Ytpbnmmgocpobcaa.Ex

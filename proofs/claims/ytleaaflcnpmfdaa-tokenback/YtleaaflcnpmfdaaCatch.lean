/- What token.scan defers: a panic of a place is recovered, and its place and reason are laid into the results. -/
import Derived.Test.YtleaaflcnpmfdaaNext
import Derived.Defers
import Derived.Recover
namespace Go.Proofs.Ytleaaflcnpmfdaa
open Go.RowKit
set_option linter.unusedVariables false

set_option maxHeartbeats 1000000 in
theorem catch_idle (p q r : Addr) (w : World) :
    CallsD Try.prog 18 #[.pointer (some p), .pointer (some q), .pointer (some r)] .returning w fun e u' w' => e = .returned (.tuple #[]) ∧ u' = .returning ∧ w' = w := by
  refine callsD_of_wpS Try.func18 rfl fun c₀ cs hu => ?_
  apply wpS_seq
  apply wpS_region
  simp [wpOpsS, go_sem, recoverD, hu, Try.ntmps18, Exit.thenS]
  refine wpS_of_wp ?_
  change Code.wp Try.prog _ _ { tmps := #[.pointer (some p), .pointer (some q), .pointer (some r), .nilIface, undef, .nilIface, undef, undef, undef, undef, undef, undef, undef, undef], defers := [] } w
  go_wp2
  cases c₀
  simp_all [bodyPostS, results, Try.results18]

theorem assert41 (v : Value) (w : World) : (Instr.typeAssert (.iface 41 v) 20 41 false).run Try.prog w = .ok v w := by
  simp [Instr.typeAssert, run_underlying Try.underlying41, go_sem, Result.andThen]

set_option maxHeartbeats 1000000 in
theorem catch_place (B : Nat) (x : Value) (m n a e : Int) (older : List PanicEntry) (w : World) (hB : B + 3 ≤ w.heap.size)
    (c0 : w.cell? ⟨B, 0, none⟩ = some x) (c1 : w.cell? ⟨B + 1, 0, none⟩ = some (.int .i64 m)) (c2 : w.cell? ⟨B + 1 + 1, 0, none⟩ = some (.int .i64 n))
    (f0 : w.frozen? ⟨B, 0, none⟩ = false) (f1 : w.frozen? ⟨B + 1, 0, none⟩ = false) (f2 : w.frozen? ⟨B + 1 + 1, 0, none⟩ = false) :
    CallsD Try.prog 18 #[.pointer (some ⟨B, 0, none⟩), .pointer (some ⟨B + 1, 0, none⟩), .pointer (some ⟨B + 1 + 1, 0, none⟩)] (.panicking ({ v := .iface 41 (.agg #[.int .i64 a, .int .i64 e]), recovered := false } :: older)) w fun en u' w' =>
      en = .returned (.tuple #[]) ∧ u' = .panicking ({ v := .iface 41 (.agg #[.int .i64 a, .int .i64 e]), recovered := true } :: older) ∧
      w'.cell? ⟨B, 0, none⟩ = some (.slice none 0 0) ∧ w'.cell? ⟨B + 1, 0, none⟩ = some (.int .i64 a) ∧ w'.cell? ⟨B + 1 + 1, 0, none⟩ = some (.int .i64 e) ∧ Below B w w' := by
  have hta := assert41
  refine callsD_of_wpS Try.func18 rfl fun c₀ cs hu => ?_
  apply wpS_seq
  apply wpS_region
  simp [wpOpsS, go_sem, recoverD, hu, Try.ntmps18, Exit.thenS]
  refine wpS_of_wp ?_
  change Code.wp Try.prog _ _ { tmps := #[.pointer (some ⟨B, 0, none⟩), .pointer (some ⟨B + 1, 0, none⟩), .pointer (some ⟨B + 1 + 1, 0, none⟩), .iface 41 (.agg #[.int .i64 a, .int .i64 e]), undef, .iface 41 (.agg #[.int .i64 a, .int .i64 e]), undef, undef, undef, undef, undef, undef, undef, undef], defers := [] } w
  go_wp2
  have k1 : B < w.heap.size := by omega
  have k2 : B + 1 < w.heap.size := by omega
  have k3 : B + 1 + 1 < w.heap.size := by omega
  go_region
  go_wp2
  refine ⟨rfl, _, by cases c₀; simp_all, .tuple #[], by simp [results, Try.results18], rfl, rfl, ?_⟩
  refine ⟨by simp [go_sem, k1, c0], by simp [go_sem, k2, c1], by simp [go_sem, k3, c2], ?_⟩
  exact (((((Below.refl B w).setCell (by simp) _).setCell (by simp) _).setCell (by simp; omega) _).alloc (by simp [World.setCell]; omega) _).drew
end Go.Proofs.Ytleaaflcnpmfdaa

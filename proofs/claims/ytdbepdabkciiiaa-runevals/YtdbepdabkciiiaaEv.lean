/- The document's own small functions of numbers: between, IsNumber, Wrap. -/
import Derived.Test.YtdbepdabkciiiaaEx
import Derived.WalkKit
import Derived.WalkSpells
import Derived.WalkLawsBesides
import Derived.WalkSmall
import Derived.Deep.RegionHeld3
namespace Go.Proofs.Ytdbepdabkciiiaa.Ex
open Go.RowKit
set_option linter.unusedVariables false

theorem hide {p : Prop} (h : p) : Hid p := h

set_option maxHeartbeats 400000 in
theorem between_any (x a b : Int) (w : World) :
    Calls Try.prog 24 #[.int .i64 x, .int .i64 a, .int .i64 b] w fun e w' => e = .returned (.bool (decide (a ≤ x ∧ x ≤ b))) ∧ w' = w := by
  by_cases h1 : a ≤ x
  · by_cases h2 : x ≤ b
    · go_enter Try.func24, Try.ntmps24
      go_wp2
      go_ret
      exact ⟨by simp; omega, rfl⟩
    · go_enter Try.func24, Try.ntmps24
      go_wp2
      go_ret
      exact ⟨by simp; omega, rfl⟩
  · go_enter Try.func24, Try.ntmps24
    go_wp2
    go_ret
    exact ⟨by simp; omega, rfl⟩

def in32 (n : Int) : Bool := decide (-2147483648 ≤ n ∧ n ≤ 2147483647)

set_option maxHeartbeats 400000 in
theorem isNumber_any (x : Int) (w : World) : Calls Try.prog 13 #[.int .i64 x] w fun e w' => e = .returned (.bool (in32 x)) ∧ w' = w := by
  go_enter Try.func13, Try.ntmps13
  go_wp2_with fail
  refine (between_any x (-2147483648) 2147483647 _).mono ?_
  rintro e w' ⟨rfl, rfl⟩
  go_wp2_with fail
  go_ret
  exact ⟨by simp [in32], rfl⟩

def wrap32 (z : Int) : Int := (z + 2147483648) % 4294967296 - 2147483648

theorem wrap32_in (z : Int) : -2147483648 ≤ wrap32 z ∧ wrap32 z ≤ 2147483647 := by unfold wrap32; omega

theorem tmod_facts (n : Int) : ∃ q, n = 4294967296 * q + n.tmod 4294967296 ∧ -4294967296 < n.tmod 4294967296 ∧ n.tmod 4294967296 < 4294967296 :=
  ⟨n.tdiv 4294967296, (Int.mul_tdiv_add_tmod n 4294967296).symm, Int.lt_tmod_of_pos n (by decide), Int.tmod_lt_of_pos n (by decide)⟩

set_option maxHeartbeats 1000000 in
theorem wrap_any (n : Int) (hn : In64 n) (w : World) : Calls Try.prog 14 #[.int .i64 n] w fun e w' => e = .returned (.int .i64 (wrap32 n)) ∧ w' = w := by
  obtain ⟨l, u⟩ := hn
  obtain ⟨q, hq, h1, h2⟩ := tmod_facts n
  have HQ := hide hq
  clear hq
  go_enter Try.func14, Try.ntmps14
  go_wp2_with fail
  all_goals go_ret
  all_goals refine ⟨?_, rfl⟩
  all_goals simp
  all_goals have hq := HQ.out
  all_goals unfold wrap32
  all_goals omega
end Go.Proofs.Ytdbepdabkciiiaa.Ex

/- veilworkref.SameTokens answers true of two lists of the same tokens (but for where they begin, if that is not asked). -/
import Derived.Test.YtleaaflcnpmfdaaAlone
namespace Go.Proofs.Ytleaaflcnpmfdaa
open Go.RowKit
set_option linter.unusedVariables false

set_option maxHeartbeats 2000000 in
set_option maxRecDepth 100000 in
theorem same_true (va vb : Value) (ta tb : List Tok) (at_ : Bool) (w : World) (ha : IsToks w va ta) (hb : IsToks w vb tb) (hn : ta.length ≤ 4398046511104) (hl : ta.length = tb.length)
    (hk : ∀ i (h1 : i < ta.length) (h2 : i < tb.length), ta[i].kind = tb[i].kind ∧ ta[i].text = tb[i].text ∧ (at_ = true → ta[i].pos = tb[i].pos)) :
    Calls Try.prog 10 #[va, vb, .bool at_] w fun e w' => e = .returned (.bool true) ∧ ∃ n, w' = w.drewN n := by
  obtain ⟨ao, ac, rfl, hac⟩ := ha
  obtain ⟨bo, bc, rfl, hbc⟩ := hb
  rw [← hl]
  have bl : ((ta.length : Int) != (ta.length : Int)) = false := by simp
  have HL := hide hl
  have HK := hide hk
  clear hk hl
  go_enter Try.func10, Try.ntmps10
  go_wp2_with fail
  go_loopw [7] (fun i wr => ∃ k n : Nat, k ≤ ta.length ∧ i = .int .i64 k ∧ wr = w.drewN n) (fun i _ => ta.length - (intOf i).toNat)
  case atStart => exact ⟨0, 0, Nat.zero_le _, rfl, rfl⟩
  case round =>
    obtain ⟨k, n, hk, rfl, rfl⟩ := hrel
    by_cases hkl : k < ta.length
    · have hkb : k < tb.length := by have := HL.out; omega
      obtain ⟨b1, o1, rfl, hc1⟩ := hac (by rintro rfl; simp at hkl)
      obtain ⟨b2, o2, rfl, hc2⟩ := hbc (by rintro rfl; simp at hkb)
      obtain ⟨p0, p1, p2⟩ := cellsAt hc1 hkl
      obtain ⟨q0, q1, q2⟩ := cellsAt hc2 hkb
      obtain ⟨e0, e2, e1⟩ := HK.out k hkl hkb
      rw [← e0] at q0
      rw [← e2] at q2
      obtain ⟨kk, hkk⟩ : ∃ x, x = ta[k].kind := ⟨_, rfl⟩
      obtain ⟨pa, hpa⟩ : ∃ x, x = ta[k].pos := ⟨_, rfl⟩
      obtain ⟨pb, hpb⟩ : ∃ x, x = tb[k].pos := ⟨_, rfl⟩
      obtain ⟨tx, htx⟩ : ∃ x, x = ta[k].text := ⟨_, rfl⟩
      rw [← hkk] at p0 q0
      rw [← hpa] at p1 e1
      rw [← hpb] at q1 e1
      rw [← htx] at p2 q2
      have b0 : (kk != kk) = false := by simp
      have b2' : (tx.toList == tx.toList) = true := by simp
      clear e0 e2 hkk hpa hpb htx hc1 hc2 hac hbc
      cases at_ with
      | true =>
        obtain rfl : pa = pb := e1 rfl
        have b3 : (pa != pa) = false := by simp
        clear e1
        go_wp2_with fail
        go_quiet ((fail))
        go_wp2
        exact ⟨⟨k + 1, _, by omega, by go_num, rfl⟩, by simp [intOf]; omega⟩
      | false =>
        clear e1
        go_wp2_with fail
        go_quiet ((fail))
        go_wp2
        exact ⟨⟨k + 1, _, by omega, by go_num, rfl⟩, by simp [intOf]; omega⟩
    · go_wp2_with fail
      go_ret
      exact ⟨rfl, _, rfl⟩
end Go.Proofs.Ytleaaflcnpmfdaa

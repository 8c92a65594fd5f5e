/- veilworklaw.ActorsTell answers true where Check is fine: the walks. -/
import Derived.Test.YtndbgjbnakppkabTellA
namespace Go.Proofs.Ytndbgjbnakppkab
open Go.RowKit
set_option linter.unusedVariables false

set_option maxHeartbeats 4000000 in
theorem tell_tf (n : Nat) (who other : Int) (v : Value) (gn : List (Nat × Nat)) (w : World) (h1 : 1 ≤ n) (hn : n ≤ 6) (hv : IsGrants w v (gn.map toI)) (hlen : gn.length ≤ 20) (hb : ∀ g ∈ gn, g.1 < n ∧ g.2 < n) (hE : chkErr n (gn.map toI) = 0) (hgn : gnOf (gn.map toI) = gn)
    (hh : isOne n who = true ∧ isOne n other = false) :
    Calls Try.prog 3 #[.agg #[.int .i64 n, v], .int .i64 who, .int .i64 other] w fun e w' => e = .returned (.bool true) ∧ Below w.heap.size w w' := by
  have KF := hide fun (W : World) (hW : Below w.heap.size w W) => for_ok n h1 hn v gn W (isGrants_over hv hW) hlen hb hE
  have hKA := fun (W : World) (hW : Below w.heap.size w W) => acts_ok n who other v (gn.map toI) W (isGrants_over hv hW) hE
  have hKR := fun (W : World) (hW : Below w.heap.size w W) => refCheck_any n v (gn.map toI) W (isGrants_over hv hW)
  have hKC := fun (W : World) (hW : Below w.heap.size w W) => check_any n v (gn.map toI) W (isGrants_over hv hW)
  rw [hE] at hKR hKC
  have KR := hide hKR
  have KC := hide hKC
  have KX := hide fun (a o : Nat) (ha : a < n) (ho : o < n) (W : World) (hW : Below w.heap.size w W) => refActs_any n a o hn ha ho v gn W (isGrants_over hv hW) hlen hb
  have hI1 := fun (W : World) => isActor_any n who ⟨by omega, by omega⟩ v W
  have hI2 := fun (W : World) => isActor_any n other ⟨by omega, by omega⟩ v W
  have hX : actsErr n (gn.map toI) who other = 5 := by unfold actsErr; rw [if_pos hE, if_neg (by rintro ⟨x1, x2⟩; rw [hh.2] at x2; cases x2)]
  have hY : actsAns n (gn.map toI) who other = false := by unfold actsAns; rw [hX]; rfl
  rw [hX, hY] at hKA
  rw [hh.1] at hI1
  rw [hh.2] at hI2
  have I1 := hide hI1
  have I2 := hide hI2
  clear hX hY hI1 hI2 hh
  have KA := hide hKA
  clear hKA hKR hKC hv hE hb
  have hs0 := tellSt_box w n v
  have HS0 := hide hs0
  obtain ⟨c0, c1, hB⟩ := hs0
  go_enter Try.func3, Try.ntmps3
  go_wp2_with fail
  refine (KF.out _ hB).mono ?_
  rintro e w1 ⟨ob, rfl, hr1, hb1⟩
  have hs1 := HS0.out.over hb1
  have HS1 := hide hs1
  clear HS0 c0 c1 hB hb1
  obtain ⟨c0, c1, hB⟩ := hs1
  have HR1 := hide hr1
  clear hr1
  go_wp2_with fail
  refine (KA.out _ hB).mono ?_
  rintro e w2 ⟨rfl, hb2⟩
  have hs2 := HS1.out.over hb2
  have HS2 := hide hs2
  have HR2 := hide (rows_over HR1.out hb2)
  clear HS1 c0 c1 hB hb2 HR1
  obtain ⟨c0, c1, hB⟩ := hs2
  go_wp2_with fail
  refine (KR.out _ hB).mono ?_
  rintro e w3 ⟨rfl, hb3⟩
  have hs3 := HS2.out.over hb3
  have HS3 := hide hs3
  have HR3 := hide (rows_over HR2.out hb3)
  clear HS2 c0 c1 hB hb3 HR2
  obtain ⟨c0, c1, hB⟩ := hs3
  go_wp2_with fail
  refine (I1.out _).mono ?_
  rintro e w4 ⟨rfl, hb4⟩
  have hs4 := HS3.out.over hb4
  have HS4 := hide hs4
  have HR4 := hide (rows_over HR3.out hb4)
  clear HS3 c0 c1 hB hb4 HR3
  obtain ⟨c0, c1, hB⟩ := hs4
  go_wp2_with fail
  refine (I2.out _).mono ?_
  rintro e w5 ⟨rfl, hb5⟩
  have hs5 := HS4.out.over hb5
  have HS5 := hide hs5
  have HR5 := hide (rows_over HR4.out hb5)
  clear HS4 c0 c1 hB hb5 HR4
  obtain ⟨c0, c1, hB⟩ := hs5
  go_wp2_with fail
  refine (begun_any _).mono ?_
  rintro e w6 ⟨rfl, hb6⟩
  have hs6 := HS5.out.over hb6
  have HS6 := hide hs6
  have HR6 := hide (rows_over HR5.out hb6)
  clear HS5 c0 c1 hB hb6 HR5
  obtain ⟨c0, c1, hB⟩ := hs6
  go_wp2_with fail
  refine (KC.out _ hB).mono ?_
  rintro e w7 ⟨rfl, hb7⟩
  have hs7 := HS6.out.over hb7
  have HS7 := hide hs7
  have HR7 := hide (rows_over HR6.out hb7)
  clear HS6 c0 c1 hB hb7 HR6
  obtain ⟨c0, c1, hB⟩ := hs7
  go_wp2_with fail
  go_loopw [13] (fun i wr => ∃ k : Nat, k ≤ n ∧ i = .int .i64 k ∧ TellSt w n v wr ∧ RowsAt wr ob n gn n) (fun i _ => n - (intOf i).toNat)
  case atStart => exact ⟨0, Nat.zero_le _, rfl, HS7.out, HR7.out⟩
  case round =>
    clear HS7 HR7 c0 c1 hB
    obtain ⟨k, hk, rfl, hs, hr⟩ := hrel
    obtain ⟨c0, c1, hB⟩ := hs
    by_cases hkn : k < n
    · obtain ⟨kb, hne, d0, hkk⟩ := hr k hkn
      have HRO := hide hr
      clear hr hkk
      go_wp2_with fail
      go_region
      go_wp2_with fail
      go_loopw [14] (fun i wr => ∃ j : Nat, j ≤ n ∧ i = .int .i64 j ∧ TellSt w n v wr ∧ RowsAt wr ob n gn n) (fun i _ => n - (intOf i).toNat)
      case atStart => exact ⟨0, Nat.zero_le _, rfl, ⟨c0, c1, below_drewN hB 1⟩, HRO.out⟩
      case round =>
        clear c0 c1 hB d0 HRO hne
        obtain ⟨j, hj, rfl, hs, hr⟩ := hrel
        by_cases hjn : j < n
        · obtain ⟨c0, c1, hB⟩ := hs
          obtain ⟨kc, hne2, d0, hkk⟩ := hr k hkn
          obtain ⟨d1, -⟩ := hkk j (by rw [acts_length]; exact hjn)
          have hx : (acts gn n k)[j]?.getD false = (acts gn n k)[j]'(by rw [acts_length]; exact hjn) := by simp [acts_length, hjn]
          have hra := KX.out k j hkn hjn
          rw [hx] at hra
          obtain ⟨x, hxe⟩ : ∃ x, x = (acts gn n k)[j]'(by rw [acts_length]; exact hjn) := ⟨_, rfl⟩
          rw [← hxe] at hra d1
          have hxx : (x != x) = false := by simp
          have HRA := hide hra
          have HRO := hide hr
          clear hra hxe hx hkk hr
          go_wp2_with fail
          first | go_region_held3 (fun w' => w'.cell? ⟨w.heap.size, 0, none⟩ = some (.int .i64 n) ∧ w'.cell? ⟨w.heap.size, 1, none⟩ = some v ∧ w'.cell? ⟨ob, k, none⟩ = some (.slice (some ⟨kc, 0, none⟩) n n) ∧ w'.cell? ⟨kc, j, none⟩ = some (.bool x) ∧ RowsAt w' ob n gn n ∧ Below w.heap.size w w') (first | assumption | exact ⟨c0, c1, d0, d1, HRO.out, below_drewN hB 1⟩ | exact heldT (by assumption) hb1) (first | (go_at_call 11; refine (HRA.out _ (by assumption : _ ∧ _ ∧ _ ∧ _ ∧ _ ∧ _).2.2.2.2.2).mono ?_; rintro e w1 ⟨rfl, hb1⟩)) | fail
          all_goals go_wp2_with fail
          all_goals exact ⟨⟨j + 1, by omega, by go_num, ⟨(by assumption : _ ∧ _ ∧ _ ∧ _ ∧ _ ∧ _).1, (by assumption : _ ∧ _ ∧ _ ∧ _ ∧ _ ∧ _).2.1, (by assumption : _ ∧ _ ∧ _ ∧ _ ∧ _ ∧ _).2.2.2.2.2⟩, (by assumption : _ ∧ _ ∧ _ ∧ _ ∧ _ ∧ _).2.2.2.2.1⟩, by simp [intOf]; omega⟩
        · have HST := hide hs
          have HRO := hide hr
          obtain ⟨c0, c1, hB⟩ := hs
          clear hr
          go_wp2_with fail
          exact ⟨⟨k + 1, by omega, by go_num, HST.out, HRO.out⟩, by simp [intOf]; omega⟩
    · clear hr
      go_wp2_with fail
      go_ret
      exact ⟨rfl, hB⟩

end Go.Proofs.Ytndbgjbnakppkab

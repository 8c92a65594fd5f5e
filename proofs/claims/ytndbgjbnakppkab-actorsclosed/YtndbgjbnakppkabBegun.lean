/- What must be in any case: veilworklaw.actorsBegun answers true. -/
import Derived.Test.YtndbgjbnakppkabFor
namespace Go.Proofs.Ytndbgjbnakppkab
open Go.RowKit
set_option linter.unusedVariables false

theorem Try.own : ownKnob Try.prog.godebug = none := by kernel_rfl

def twoG : List (Int × Int) := [(1, 0)]

set_option maxHeartbeats 400000 in
theorem two_any (w : World) : Calls Try.prog 15 #[] w fun e w' => ∃ v, e = .returned (.agg #[.int .i64 2, v]) ∧ IsGrants w' v twoG ∧ Below w.heap.size w w' := by
  go_enter Try.func15, Try.ntmps15
  go_wp2_with fail
  refine bodyPost_ret (v := .agg #[.int .i64 2, .slice (some ⟨w.heap.size + 1, 0, none⟩) 1 1]) (by simp [results, Try.results15, go_sem]) rfl ⟨_, rfl, ⟨_, _, rfl, fun _ => ⟨_, 0, rfl, fun i hi => ?_⟩⟩, ?_⟩
  · have : i = 0 := by simp [twoG] at hi; omega
    subst this
    simp [go_sem, twoG]
  · first
    | exact ((((Below.refl _ w).alloc (Nat.le_refl _) _).alloc (by simp) _).setCell (by simp) _).setCell (by simp) _
    | exact (((Below.refl _ w).alloc (Nat.le_refl _) _).alloc (by simp) _)

theorem two_chk : chkErr 2 twoG = 0 := by decide
theorem two_gn : gnOf twoG = [(1, 0)] := rfl
theorem two_map : (([(1, 0)] : List (Nat × Nat))).map toI = twoG := rfl
theorem two_row : acts [(1, 0)] 2 1 = [true, true] := by decide
theorem two_yes : actsAns 2 twoG 1 0 = true ∧ actsErr 2 twoG 1 0 = 0 := by decide
theorem two_no : actsAns 2 twoG 0 1 = false ∧ actsErr 2 twoG 0 1 = 0 := by decide

set_option maxHeartbeats 2000000 in
theorem begun_any (w : World) : Calls Try.prog 9 #[] w fun e w' => e = .returned (.bool true) ∧ Below w.heap.size w w' := by
  go_enter Try.func9, Try.ntmps9
  go_wp2_with fail
  refine (two_any _).mono ?_
  rintro e w1 ⟨v1, rfl, hv1, hb1⟩
  have hF := for_ok 2 (by omega) (by omega) v1 [(1, 0)] w1 hv1 (by decide) (by decide) two_chk
  have HF := hide hF
  clear hF
  go_wp2_with fail
  refine (HF.out).mono ?_
  rintro e w2 ⟨ob, rfl, hrows, hb2⟩
  have hbel2 : Below w.heap.size w w2 := hb1.trans (hb2.mono hb1.size)
  clear HF hv1 hb1 hb2
  go_wp2_with fail
  refine (two_any _).mono ?_
  rintro e w3 ⟨v3, rfl, hv3, hb3⟩
  have hrows3 := rows_over hrows hb3
  have hbel3 : Below w.heap.size w w3 := hbel2.trans (hb3.mono hbel2.size)
  have hA := acts_ok 2 1 0 v3 twoG w3 hv3 two_chk
  rw [two_yes.1, two_yes.2] at hA
  have HA := hide hA
  clear hA hrows hbel2 hb3 hv3
  go_wp2_with fail
  refine (HA.out).mono ?_
  rintro e w4 ⟨rfl, hb4⟩
  have hrows4 := rows_over hrows3 hb4
  have hbel4 : Below w.heap.size w w4 := hbel3.trans (hb4.mono hbel3.size)
  clear HA hrows3 hbel3 hb4
  go_wp2_with fail
  refine (two_any _).mono ?_
  rintro e w5 ⟨v5, rfl, hv5, hb5⟩
  have hrows5 := rows_over hrows4 hb5
  have hbel5 : Below w.heap.size w w5 := hbel4.trans (hb5.mono hbel4.size)
  have hA := acts_ok 2 0 1 v5 twoG w5 hv5 two_chk
  rw [two_no.1, two_no.2] at hA
  have HA := hide hA
  clear hA hrows4 hbel4 hb5 hv5
  go_wp2_with fail
  refine (HA.out).mono ?_
  rintro e w6 ⟨rfl, hb6⟩
  have hrows6 := rows_over hrows5 hb6
  have hbel6 : Below w.heap.size w w6 := hbel5.trans (hb6.mono hbel5.size)
  clear HA hrows5 hbel5 hb6
  go_wp2_with fail
  refine (two_any _).mono ?_
  rintro e w7 ⟨v7, rfl, hv7, hb7⟩
  have hrows7 := rows_over hrows6 hb7
  have hbel7 : Below w.heap.size w w7 := hbel6.trans (hb7.mono hbel6.size)
  have hC := check_any 2 v7 twoG w7 hv7
  rw [two_chk] at hC
  have HC := hide hC
  clear hC hrows6 hbel6 hb7 hv7
  go_wp2_with fail
  refine (HC.out).mono ?_
  rintro e w8 ⟨rfl, hb8⟩
  have hrows8 := rows_over hrows7 hb8
  have hbel8 : Below w.heap.size w w8 := hbel7.trans (hb8.mono hbel7.size)
  obtain ⟨kb, hne, hc, hk⟩ := hrows8 1 (by decide)
  rw [two_row] at hk
  obtain ⟨hd, -⟩ := hk 0 (by decide)
  simp only [List.getElem_cons_zero] at hd
  clear HC hrows7 hrows8 hbel7 hb8 hk
  go_wp2_with fail
  go_ret
  exact ⟨rfl, hbel8⟩
end Go.Proofs.Ytndbgjbnakppkab

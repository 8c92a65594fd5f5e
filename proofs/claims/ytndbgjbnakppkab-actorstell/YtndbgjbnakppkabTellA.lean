/- veilworklaw.ActorsTell answers true, whatever it is handed: the walk. -/
import Derived.Test.YtndbgjbnakppkabBegun
import Derived.Test.YtndbgjbnakppkabRChk
import Derived.Test.YtndbgjbnakppkabRefActs
import Derived.Deep.RegionHeld3
namespace Go.Proofs.Ytndbgjbnakppkab
open Go.RowKit
set_option linter.unusedVariables false

/-- actors lie where they were laid. -/
def TellSt (w : World) (m : Int) (v : Value) (W : World) : Prop := W.cell? ⟨w.heap.size, 0, none⟩ = some (.int .i64 m) ∧ W.cell? ⟨w.heap.size, 1, none⟩ = some v ∧ Below w.heap.size w W

theorem TellSt.over {w W W' : World} {m : Int} {v : Value} (h : TellSt w m v W) (hb : Below W.heap.size W W') : TellSt w m v W' := by
  obtain ⟨h0, h1, h2⟩ := h
  obtain ⟨hc, hf⟩ := bcell hb
  refine ⟨?_, ?_, h2.trans (hb.mono h2.size)⟩
  · rw [hc _ _ (World.block_lt_of_cell? W _ h0)]; exact h0
  · rw [hc _ _ (World.block_lt_of_cell? W _ h1)]; exact h1

theorem tellSt_box (w : World) (m : Int) (v : Value) : TellSt w m v (w.alloc (.cells #[.int .i64 m, v] 24)) :=
  ⟨by simp [go_sem], by simp [go_sem], (Below.refl _ w).alloc (Nat.le_refl _) _⟩

set_option maxHeartbeats 2000000 in
theorem tell_bad (m who other : Int) (v : Value) (gs : List (Int × Int)) (w : World) (hv : IsGrants w v gs) (hE : chkErr m gs ≠ 0) :
    Calls Try.prog 3 #[.agg #[.int .i64 m, v], .int .i64 who, .int .i64 other] w fun e w' => e = .returned (.bool true) ∧ Below w.heap.size w w' := by
  have KF := hide fun (W : World) (hW : Below w.heap.size w W) => for_bad m v gs W (isGrants_over hv hW) hE
  have hKA := fun (W : World) (hW : Below w.heap.size w W) => acts_bad m who other v gs W (isGrants_over hv hW) hE
  have hX : actsErr m gs who other = chkErr m gs := by unfold actsErr; rw [if_neg hE]
  have hY : actsAns m gs who other = false := by unfold actsAns; rw [hX, decide_eq_false hE]; rfl
  rw [hX, hY] at hKA
  have KA := hide hKA
  have KR := hide fun (W : World) (hW : Below w.heap.size w W) => refCheck_any m v gs W (isGrants_over hv hW)
  have KC := hide fun (W : World) (hW : Below w.heap.size w W) => check_any m v gs W (isGrants_over hv hW)
  clear hX hY hKA hv
  obtain ⟨r, hr⟩ : ∃ r, r = chkErr m gs := ⟨_, rfl⟩
  rw [← hr] at hE KF KA KR KC
  have b1 : (r != 0) = true := by simpa using hE
  have b2 : (r == 0) = false := by simpa using hE
  have b3 : (r != r) = false := by simp
  clear hr
  have hs0 := tellSt_box w m v
  have HS0 := hide hs0
  obtain ⟨c0, c1, hB⟩ := hs0
  go_enter Try.func3, Try.ntmps3
  go_wp2_with fail
  refine (KF.out _ hB).mono ?_
  rintro e w1 ⟨rfl, hb1⟩
  have hs1 := HS0.out.over hb1
  have HS1 := hide hs1
  clear HS0 c0 c1 hB hb1
  obtain ⟨c0, c1, hB⟩ := hs1
  go_wp2_with fail
  refine (KA.out _ hB).mono ?_
  rintro e w2 ⟨rfl, hb2⟩
  have hs2 := HS1.out.over hb2
  have HS2 := hide hs2
  clear HS1 c0 c1 hB hb2
  obtain ⟨c0, c1, hB⟩ := hs2
  go_wp2_with fail
  refine (KR.out _ hB).mono ?_
  rintro e w3 ⟨rfl, hb3⟩
  have hs3 := HS2.out.over hb3
  have HS3 := hide hs3
  clear HS2 c0 c1 hB hb3
  obtain ⟨c0, c1, hB⟩ := hs3
  go_wp2_with fail
  refine (begun_any _).mono ?_
  rintro e w4 ⟨rfl, hb4⟩
  have hs4 := HS3.out.over hb4
  have HS4 := hide hs4
  clear HS3 c0 c1 hB hb4
  obtain ⟨c0, c1, hB⟩ := hs4
  go_wp2_with fail
  refine (KC.out _ hB).mono ?_
  rintro e w5 ⟨rfl, hb5⟩
  have hs5 := HS4.out.over hb5
  have HS5 := hide hs5
  clear HS4 c0 c1 hB hb5
  obtain ⟨c0, c1, hB⟩ := hs5
  go_wp2_with fail
  go_ret
  exact ⟨rfl, hB⟩

/-- four cells, and the rows, that are kept where all below is kept. -/
theorem heldT {w w0 w1 : World} {b0 o0 b1 o1 b2 o2 b3 o3 ob n k : Nat} {v0 v1 v2 v3 : Value} {gn : List (Nat × Nat)} (h : w0.cell? ⟨b0, o0, none⟩ = some v0 ∧ w0.cell? ⟨b1, o1, none⟩ = some v1 ∧ w0.cell? ⟨b2, o2, none⟩ = some v2 ∧ w0.cell? ⟨b3, o3, none⟩ = some v3 ∧ RowsAt w0 ob n gn k ∧ Below w.heap.size w w0)
    (hb : Below w0.heap.size w0 w1) : w1.cell? ⟨b0, o0, none⟩ = some v0 ∧ w1.cell? ⟨b1, o1, none⟩ = some v1 ∧ w1.cell? ⟨b2, o2, none⟩ = some v2 ∧ w1.cell? ⟨b3, o3, none⟩ = some v3 ∧ RowsAt w1 ob n gn k ∧ Below w.heap.size w w1 := by
  obtain ⟨h0, h1, h2, h3, hR, hB⟩ := h
  obtain ⟨g0, g1, g2, g3, hB'⟩ := held4 ⟨h0, h1, h2, h3, hB⟩ hb
  exact ⟨g0, g1, g2, g3, rows_over hR hb, hB'⟩

end Go.Proofs.Ytndbgjbnakppkab

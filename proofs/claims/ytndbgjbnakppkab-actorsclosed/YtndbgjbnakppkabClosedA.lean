/- veilworklaw.ActorsClosed answers true: the walk. -/
import Derived.Test.YtndbgjbnakppkabBegun
import Derived.Deep.RegionHeld3
import Derived.Deep.CutRange
import Derived.Laws.AppendOwn
namespace Go.Proofs.Ytndbgjbnakppkab
open Go.RowKit
set_option linter.unusedVariables false

/-- actors and a grant lie where they were laid. -/
def ClSt (w : World) (m : Int) (v : Value) (g0 g1 : Int) (W : World) : Prop :=
  W.cell? ⟨w.heap.size, 0, none⟩ = some (.int .i64 m) ∧ W.cell? ⟨w.heap.size, 1, none⟩ = some v ∧ W.cell? ⟨w.heap.size + 1, 0, none⟩ = some (.int .i64 g0) ∧ W.cell? ⟨w.heap.size + 1, 1, none⟩ = some (.int .i64 g1) ∧ Below w.heap.size w W

theorem ClSt.over {w W W' : World} {m : Int} {v : Value} {g0 g1 : Int} (h : ClSt w m v g0 g1 W) (hb : Below W.heap.size W W') : ClSt w m v g0 g1 W' := by
  obtain ⟨h0, h1, h2, h3, h4⟩ := h
  obtain ⟨hc, hf⟩ := bcell hb
  refine ⟨?_, ?_, ?_, ?_, h4.trans (hb.mono h4.size)⟩
  · rw [hc _ _ (World.block_lt_of_cell? W _ h0)]; exact h0
  · rw [hc _ _ (World.block_lt_of_cell? W _ h1)]; exact h1
  · rw [hc _ _ (World.block_lt_of_cell? W _ h2)]; exact h2
  · rw [hc _ _ (World.block_lt_of_cell? W _ h3)]; exact h3

theorem clSt_box (w : World) (m : Int) (v : Value) (g0 g1 : Int) : ClSt w m v g0 g1 ((w.alloc (.cells #[.int .i64 m, v] 24)).alloc (.cells #[.int .i64 g0, .int .i64 g1] 37)) :=
  ⟨by simp [go_sem], by simp [go_sem], by simp [go_sem], by simp [go_sem], ((Below.refl _ w).alloc (Nat.le_refl _) _).alloc (by simp) _⟩

theorem acts_self (gn : List (Nat × Nat)) {n i : Nat} (h : i < n) : (acts gn n i)[i]?.getD false = true := by
  rw [(acts_sound gn h).1]; rfl

theorem acts_yes {gn : List (Nat × Nat)} {n i k : Nat} (hi : i < n) (hb : ∀ g ∈ gn, g.1 < n ∧ g.2 < n) : (acts gn n i)[k]?.getD false = true ↔ Reach gn i k := by
  rw [← acts_iff hi (fun g hg => (hb g hg).2) k]
  cases (acts gn n i)[k]? <;> simp

theorem row_cells {W : World} {ob n i j : Nat} {gn : List (Nat × Nat)} (h : RowsAt W ob n gn n) (hi : i < n) (hj : j < n) :
    ∃ kb, W.cell? ⟨ob, i, none⟩ = some (.slice (some ⟨kb, 0, none⟩) n n) ∧ W.cell? ⟨kb, j, none⟩ = some (.bool ((acts gn n i)[j]?.getD false)) := by
  obtain ⟨kb, _, h1, h2⟩ := h i hi
  refine ⟨kb, h1, ?_⟩
  obtain ⟨h3, _⟩ := h2 j (by rw [acts_length]; exact hj)
  rw [h3]
  simp [acts_length, hj]

set_option maxHeartbeats 2000000 in
theorem closed_bad (m g0 g1 : Int) (v : Value) (gs : List (Int × Int)) (w : World) (hv : IsGrants w v gs) (hE : chkErr m gs ≠ 0) :
    Calls Try.prog 4 #[.agg #[.int .i64 m, v], .agg #[.int .i64 g0, .int .i64 g1]] w fun e w' => e = .returned (.bool true) ∧ Below w.heap.size w w' := by
  have KF := hide fun (W : World) (hW : Below w.heap.size w W) => for_bad m v gs W (isGrants_over hv hW) hE
  obtain ⟨r, hr⟩ : ∃ r, r = chkErr m gs := ⟨_, rfl⟩
  rw [← hr] at hE KF
  have b1 : (r != 0) = true := by simpa using hE
  clear hr hv
  obtain ⟨c0, c1, c2, c3, hB⟩ := clSt_box w m v g0 g1
  go_enter Try.func4, Try.ntmps4
  go_wp2_with fail
  refine (KF.out _ hB).mono ?_
  rintro e w1 ⟨rfl, hb1⟩
  have hB1 := hB.trans (hb1.mono hB.size)
  clear KF c0 c1 c2 c3
  go_wp2_with fail
  refine (begun_any _).mono ?_
  rintro e w2 ⟨rfl, hb2⟩
  have hB2 := hB1.trans (hb2.mono hB1.size)
  go_wp2_with fail
  go_ret
  exact ⟨rfl, hB2⟩

end Go.Proofs.Ytndbgjbnakppkab

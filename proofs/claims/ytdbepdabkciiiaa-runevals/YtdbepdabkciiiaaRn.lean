/- What must be in any case. -/
import Derived.Test.YtdbepdabkciiiaaRm
namespace Go.Proofs.Ytdbepdabkciiiaa.Ex
open Go.RowKit
set_option linter.unusedVariables false

def Smalls (w : World) (e : Ending) (w' : World) : Prop := ∃ bi bo bv bm, e = .returned (smallV bi bo bv bm) ∧ Small bi bo bv bm w' ∧ Below w.heap.size w w'

theorem RowAt.at {cs : List Value} {w w' : World} {b : Nat} {a : Array Value} {t : Nat} (ha : a.toList = cs) (hb : b = w.heap.size) (hw : Below (w.alloc (.cells a t)).heap.size (w.alloc (.cells a t)) w') : RowAt cs w' b := by
  subst hb
  rw [← ha]
  exact (RowAt.newA a t w).over hw

set_option maxHeartbeats 4000000 in
set_option maxRecDepth 100000 in
theorem small_any (w : World) : Calls Try.prog 16 #[] w (Smalls w) := by
  go_enter Try.func16, Try.ntmps16
  go_wp2_with fail
  have hbr := fun (W : World) (o : Obj) => (Below.refl _ W).alloc (Nat.le_refl _) o
  refine bodyPost_ret (v := smallV (w.heap.size + 1) (w.heap.size + 1 + 1) (w.heap.size + 1 + 1 + 1) (w.heap.size + 1 + 1 + 1 + 1)) (by simp [results, Try.results16, go_sem]) rfl ⟨_, _, _, _, rfl, ⟨?_, ?_, ?_, ?_⟩, ?_⟩
  · exact RowAt.at rfl (by simp) (over_trans (over_trans (hbr _ _) (hbr _ _)) (hbr _ _))
  · exact RowAt.at rfl (by simp) (over_trans (hbr _ _) (hbr _ _))
  · exact RowAt.at rfl (by simp) (hbr _ _)
  · exact RowAt.at rfl (by simp) (Below.refl _ _)
  · exact over_trans (over_trans (over_trans (over_trans (hbr _ _) (hbr _ _)) (hbr _ _)) (hbr _ _)) (hbr _ _)

set_option maxHeartbeats 1000000 in
theorem sameInts_one (a b : Nat) (w : World) (ha : w.cell? ⟨a, 0, none⟩ = some (.int .i64 1)) (hb : w.cell? ⟨b, 0, none⟩ = some (.int .i64 1)) :
    Calls Try.prog 17 #[.slice (some ⟨a, 0, none⟩) 1 1, .slice (some ⟨b, 0, none⟩) 1 1] w fun e w' => e = .returned (.bool true) ∧ ∃ n, w' = w.drewN n := by
  go_enter Try.func17, Try.ntmps17
  go_wp2_with fail
  go_loopw [5] (fun i wr => ∃ j : Int, 0 ≤ j ∧ j ≤ 1 ∧ i = .int .i64 j ∧ ∃ n, wr = w.drewN n) (fun i _ => 1 - (intOf i).toNat)
  case atStart => exact ⟨0, by omega, by omega, rfl, 0, rfl⟩
  case round =>
    obtain ⟨j, hj0, hj, rfl, n, rfl⟩ := hrel
    rcases (by omega : j = 0 ∨ j = 1) with rfl | rfl
    · go_wp2_with fail
      go_quiet ((fail))
      go_wp2_with fail
      exact ⟨⟨1, by omega, by omega, by first | rfl | go_num, _, by first | rfl | exact World.drewN_drewN _ _ _⟩, by simp [intOf]⟩
    · go_wp2_with fail
      go_ret
      exact ⟨rfl, n, by first | rfl | trivial⟩

theorem num4 (w : World) : RX w 1 [.int .i64 1, .int .i64 4, .slice none 0 0] (xD 1 4 []) := ⟨1, 4, _, [], rfl, rfl, ⟨by omega, by omega⟩, ⟨by omega, by omega⟩, by simp, none, 0, rfl, fun h => absurd rfl h⟩
theorem noInts (w : World) : IsInts w (.slice none 0 0) [] := ⟨none, 0, rfl, fun h => absurd rfl h⟩

set_option maxHeartbeats 4000000 in
set_option maxRecDepth 100000 in
theorem begun_any (w : World) : Calls Try.prog 7 #[] w fun e w' => e = .returned (.bool true) ∧ Below w.heap.size w w' := by
  have K1 := hide small_any
  have K2 := hide fun bi bo bv bm bx by' W (hS : SmallIn bi bo bv bm bx by' W) => Run_small bi bo bv bm bx by' W hS
  have K3 := hide fun W => eval_any 1 _ _ W _ [] (num4 W) (noInts W) (by simp)
  have he : evalErr [] 1 (xD 1 4 []) = 0 := by decide
  have hv : evalVal [] 1 (xD 1 4 []) = 4 := by decide
  rw [he, hv] at K3
  clear he hv
  go_enter Try.func7, Try.ntmps7
  go_wp2_with fail
  refine (K1.out _).mono ?_
  rintro e w1 ⟨bi, bo, bv, bm, rfl, hSm, hb1⟩
  have hS : SmallIn bi bo bv bm (w1.heap.size + 1) w1.heap.size ((w1.alloc (.cells #[.int .i64 7] 3)).alloc (.cells #[.slice (some ⟨w1.heap.size, 0, none⟩) 1 1] 25)) :=
    ⟨hSm.over (((Below.refl _ w1).alloc (Nat.le_refl _) _).alloc (by simp) _), by simp [go_sem], by simp [go_sem]⟩
  have hB1 : Below w.heap.size w ((w1.alloc (.cells #[.int .i64 7] 3)).alloc (.cells #[.slice (some ⟨w1.heap.size, 0, none⟩) 1 1] 25)) := (hb1.alloc hb1.size _).alloc (by have := hb1.size; simp; omega) _
  have K2' := hide (K2.out _ _ _ _ _ _ _ hS)
  clear K1 K2 hSm hb1 hS
  unfold smallV at K2' ⊢
  go_wp2_with fail
  refine (K2'.out).mono ?_
  rintro e w2 ⟨g, c, b1, b2, rfl, hrow, ht, hb2⟩
  have hB2 := hB1.trans (hb2.mono hB1.size)
  clear K2' hb2 hB1
  go_wp2_with fail
  refine (K3.out _).mono ?_
  rintro e w3 ⟨rfl, hb3⟩
  have hba := (Below.refl _ w2).alloc (Nat.le_refl _) (.cells #[.slice (some ⟨g, 0, none⟩) 1 c, .slice (some ⟨b1, 0, none⟩) 1 1, .slice (some ⟨b2, 0, none⟩) 1 1, .int .i64 2, .int .i64 1, .int .i64 0] 39)
  have hb3' := over_trans hba hb3
  have hB3 := hB2.trans (hb3'.mono hB2.size)
  have hr := (RowAt.newA #[.slice (some ⟨g, 0, none⟩) 1 c, .slice (some ⟨b1, 0, none⟩) 1 1, .slice (some ⟨b2, 0, none⟩) 1 1, .int .i64 2, .int .i64 1, .int .i64 0] 39 w2).over hb3
  have r0 := hr 0 _ rfl
  have r2 := hr 2 _ rfl
  have r3 := hr 3 _ rfl
  have r4 := hr 4 _ rfl
  have hrow3 := hrow.over hb3'
  have g0 := hrow3 0 _ rfl
  have g1 := hrow3 1 _ rfl
  have g2 := hrow3 2 _ rfl
  have g3 := hrow3 3 _ rfl
  have t3 := cell_over hb3' _ _ ht
  clear hrow hrow3 ht hr hba hb3 hb3' hB2 K3
  have q3 : (w3.alloc (.cells #[.int .i64 1] 3)).cell? ⟨w3.heap.size, 0, none⟩ = some (.int .i64 1) := by simp [go_sem]
  have K4 := hide (sameInts_one b2 w3.heap.size _ (cell_over ((Below.refl _ w3).alloc (Nat.le_refl _) _) _ _ t3) q3)
  have hB4 : Below w.heap.size w (w3.alloc (.cells #[.int .i64 1] 3)) := hB3.alloc hB3.size _
  go_wp2_with fail
  refine (K4.out).mono ?_
  rintro e w4 ⟨rfl, n, rfl⟩
  have hB5 := below_drewN hB4 n
  go_wp2_with fail
  go_ret
  exact ⟨rfl, hB5⟩
end Go.Proofs.Ytdbepdabkciiiaa.Ex

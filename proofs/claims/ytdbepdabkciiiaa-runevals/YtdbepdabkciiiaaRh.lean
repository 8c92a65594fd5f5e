/- What the small run is asked for is right. -/
import Derived.Test.YtdbepdabkciiiaaRg
namespace Go.Proofs.Ytdbepdabkciiiaa.Ex
open Go.RowKit
set_option linter.unusedVariables false

theorem call31 (args : Array Value) (w : World) : (callFunc 31 args).run Try.prog w = .ok (.enter 31 args) w := by simp [go_sem]
theorem call32 (args : Array Value) (w : World) : (callFunc 32 args).run Try.prog w = .ok (.enter 32 args) w := by simp [go_sem]

set_option maxHeartbeats 1000000 in
theorem isLong_one (by' : Nat) (w : World) : Calls Try.prog 31 #[.slice (some ⟨by', 0, none⟩) 1 1] w fun e w' => e = .returned (.bool false) ∧ w' = w := by
  go_enter Try.func31, Try.ntmps31
  go_wp2_with fail
  go_ret
  exact ⟨rfl, rfl⟩

theorem ints7 {by' : Nat} {w : World} (h : w.cell? ⟨by', 0, none⟩ = some (.int .i64 7)) : IsInts w (.slice (some ⟨by', 0, none⟩) 1 1) [7] := by
  refine ⟨some ⟨by', 0, none⟩, 1, rfl, fun _ => ⟨by', 0, rfl, fun i hi => ?_⟩⟩
  have hi0 : i = 0 := by simpa using hi
  subst hi0
  exact h

set_option maxHeartbeats 1000000 in
theorem hasBeyond_one (by' : Nat) (w : World) (h : w.cell? ⟨by', 0, none⟩ = some (.int .i64 7)) : Calls Try.prog 32 #[.slice (some ⟨by', 0, none⟩) 1 1] w fun e w' => e = .returned (.bool false) ∧ w' = w := by
  have K := hide (containsInts_any [7] _ w (ints7 h) (by simp))
  clear h
  go_enter Try.func32, Try.ntmps32
  go_wp2_with fail
  refine (K.out).mono ?_
  rintro e w1 ⟨rfl, rfl⟩
  go_wp2_with fail
  go_ret
  exact ⟨rfl, rfl⟩

set_option maxHeartbeats 1000000 in
theorem indexLists (F : FuncId) (bx by' : Nat) (w : World) (h : w.cell? ⟨bx, 0, none⟩ = some (.slice (some ⟨by', 0, none⟩) 1 1))
    (hF : Hid (Calls Try.prog F #[.slice (some ⟨by', 0, none⟩) 1 1] w fun e w' => e = .returned (.bool false) ∧ w' = w)) (hC : ∀ (args : Array Value) (w : World), (callFunc F args).run Try.prog w = .ok (.enter F args) w) :
    Calls Try.prog 38 #[.slice (some ⟨bx, 0, none⟩) 1 1, .func (.func F) #[] #[]] w fun e w' => e = .returned (.int .i64 (-1)) ∧ w' = w := by
  go_enter Try.func38, Try.ntmps38
  go_wp2_with fail
  go_loopw [8] (fun i wr => ∃ j : Int, 0 ≤ j ∧ j ≤ 1 ∧ i = .int .i64 j ∧ wr = w) (fun i _ => 1 - (intOf i).toNat)
  case atStart => exact ⟨0, by omega, by omega, rfl, rfl⟩
  case round =>
    obtain ⟨j, hj0, hj, rfl, hw⟩ := hrel
    have hw' := hw.symm
    subst hw'
    clear hw
    rcases (by omega : j = 0 ∨ j = 1) with rfl | rfl
    · go_wp2_with fail
      refine (hF.out).mono ?_
      rintro e w1 ⟨rfl, rfl⟩
      go_wp2_with fail
      exact ⟨⟨1, by omega, by omega, by first | rfl | go_num, by first | rfl | trivial⟩, by simp [intOf]⟩
    · go_wp2_with fail
      go_ret
      exact ⟨rfl, by first | rfl | trivial⟩

set_option maxHeartbeats 1000000 in
theorem containsLists (F : FuncId) (bx by' : Nat) (w : World) (h : w.cell? ⟨bx, 0, none⟩ = some (.slice (some ⟨by', 0, none⟩) 1 1))
    (hF : Hid (Calls Try.prog F #[.slice (some ⟨by', 0, none⟩) 1 1] w fun e w' => e = .returned (.bool false) ∧ w' = w)) (hC : ∀ (args : Array Value) (w : World), (callFunc F args).run Try.prog w = .ok (.enter F args) w) :
    Calls Try.prog 33 #[.slice (some ⟨bx, 0, none⟩) 1 1, .func (.func F) #[] #[]] w fun e w' => e = .returned (.bool false) ∧ w' = w := by
  have K := hide (indexLists F bx by' w h hF hC)
  go_enter Try.func33, Try.ntmps33
  go_wp2_with fail
  refine (K.out).mono ?_
  rintro e w1 ⟨rfl, rfl⟩
  go_wp2_with fail
  go_ret
  exact ⟨rfl, rfl⟩

/-- the small program with what comes in. -/
structure SmallIn (bi bo bv bm bx by' : Nat) (w : World) : Prop where
  prog : Small bi bo bv bm w
  lists : w.cell? ⟨bx, 0, none⟩ = some (.slice (some ⟨by', 0, none⟩) 1 1)
  seven : w.cell? ⟨by', 0, none⟩ = some (.int .i64 7)
theorem SmallIn.over {bi bo bv bm bx by' : Nat} {w w' : World} (h : SmallIn bi bo bv bm bx by' w) (hB : Below w.heap.size w w') : SmallIn bi bo bv bm bx by' w' :=
  ⟨h.prog.over hB, cell_over hB _ _ h.lists, cell_over hB _ _ h.seven⟩

set_option maxHeartbeats 4000000 in
set_option maxRecDepth 100000 in
theorem runCheck_small (bi bo bv bm bx by' : Nat) (w : World) (h : SmallIn bi bo bv bm bx by' w) : Calls Try.prog 25 #[smallV bi bo bv bm, .slice (some ⟨bx, 0, none⟩) 1 1, .int .i64 9] w fun e w' => e = .returned (.int .i64 0) ∧ Below w.heap.size w w' := by
  have hmf : ∀ (fn : Fn) (first cap : Array Value) (w : World), (Instr.makeFunc fn first cap).run Try.prog w = .ok (.func fn first cap) w := fun _ _ _ _ => rfl
  obtain ⟨W0, hW0⟩ : ∃ q, q = w.alloc (.cells (smallC bi bo bv bm).toArray 50) := ⟨_, rfl⟩
  have hbel : Below w.heap.size w W0 := by rw [hW0]; exact (Below.refl _ w).alloc (Nat.le_refl _) _
  have HC : Hid (RowAt (smallC bi bo bv bm) W0 w.heap.size) := by
    rw [hW0]
    exact RowAt.new _ 50 w
  have HS := hide (h.over hbel)
  have K1 := hide (scopeCheck_small bi bo bv bm W0 HS.out.prog)
  have K2 := hide fun W (hs : SmallIn bi bo bv bm bx by' W) => containsLists 31 bx by' W hs.lists (isLong_one by' W) call31
  have K3 := hide fun W (hs : SmallIn bi bo bv bm bx by' W) => containsLists 32 bx by' W hs.lists (hasBeyond_one by' W hs.seven) call32
  have HW := hide hW0
  clear hW0 h
  unfold smallV at K1 ⊢
  go_enter Try.func25, Try.ntmps25
  go_wp2_with fail
  have hw0 := HW.out
  change W0 = w.alloc (.cells #[.int .i64 1, .slice none 0 0, .slice none 0 0, .slice (some ⟨bi, 0, none⟩) 1 1, .slice (some ⟨bo, 0, none⟩) 1 1, .slice (some ⟨bv, 0, none⟩) 1 1, .slice none 0 0, .slice (some ⟨bm, 0, none⟩) 2 2] 50) at hw0
  rw [← hw0]
  clear hw0 HW
  refine (K1.out).mono ?_
  rintro e w1 ⟨rfl, hb1⟩
  have c3 := HC.out.over hb1 3 _ rfl
  have HS1 := hide (HS.out.over hb1)
  have hB1 := hbel.trans (hb1.mono hbel.size)
  clear hbel hb1 K1 HS HC
  go_wp2_with fail
  refine (K2.out _ HS1.out).mono ?_
  rintro e w2 ⟨rfl, rfl⟩
  go_wp2_with fail
  refine (K3.out _ HS1.out).mono ?_
  rintro e w2 ⟨rfl, rfl⟩
  go_wp2_with fail
  go_ret
  exact ⟨rfl, hB1⟩
end Go.Proofs.Ytdbepdabkciiiaa.Ex

/- The commands of the small program: how many there are. -/
import Derived.Test.YtdbepdabkciiiaaRa
namespace Go.Proofs.Ytdbepdabkciiiaa.Ex
open Go.RowKit
set_option linter.unusedVariables false

/-- the two commands of the small program. -/
def mainCells : List Value := [.int .i64 3, .int .i64 0, .int .i64 0, .int .i64 0, .int .i64 0, .slice none 0 0, .slice none 0 0, .slice none 0 0, .slice none 0 0, .int .i64 4, .int .i64 0, .int .i64 0, .int .i64 2, .int .i64 0, .slice none 0 0, .slice none 0 0, .slice none 0 0, .slice none 0 0]
def RowAt (cs : List Value) (w : World) (b : Nat) : Prop := ∀ j u, cs[j]? = some u → w.cell? ⟨b, j, none⟩ = some u
theorem RowAt.over {cs : List Value} {w w' : World} {b : Nat} (h : RowAt cs w b) (hB : Below w.heap.size w w') : RowAt cs w' b := fun j u hu => cell_over hB _ _ (h j u hu)

set_option maxHeartbeats 1000000 in
theorem count_nil (deep many : Int) (w : World) : Calls Try.prog 63 #[.slice none 0 0, .int .i64 deep, .int .i64 many] w fun e w' => e = .returned (.int .i64 many) ∧ w' = w := by
  go_enter Try.func63, Try.ntmps63
  go_wp2_with fail
  go_loopw [2, 11] (fun c i wr => c = .int .i64 many ∧ i = .int .i64 0 ∧ wr = w) (fun _ _ _ => 0)
  case atStart => exact ⟨rfl, rfl, rfl⟩
  case round =>
    obtain ⟨rfl, rfl, rfl⟩ := hrel
    go_wp2_with fail
    go_ret
    exact ⟨rfl, by first | rfl | trivial⟩

set_option maxHeartbeats 4000000 in
set_option maxRecDepth 100000 in
theorem count_main (bm : Nat) (w : World) (hm : RowAt mainCells w bm) : Calls Try.prog 63 #[.slice (some ⟨bm, 0, none⟩) 2 2, .int .i64 1, .int .i64 0] w fun e w' => e = .returned (.int .i64 2) ∧ Below w.heap.size w w' := by
  have K1 := hide must_ok
  have K2 := hide count_nil
  have HM := hide hm
  clear hm
  go_enter Try.func63, Try.ntmps63
  go_wp2_with fail
  go_loopw [2, 11] (fun c i wr => ∃ j : Nat, j ≤ 2 ∧ c = .int .i64 j ∧ i = .int .i64 j ∧ Below w.heap.size w wr) (fun _ i _ => 2 - (intOf i).toNat)
  case atStart => exact ⟨0, by omega, rfl, rfl, Below.refl _ w⟩
  case round =>
    obtain ⟨j, hj, rfl, rfl, hB⟩ := hrel
    rcases (by omega : j = 0 ∨ j = 1 ∨ j = 2) with rfl | rfl | rfl
    · have h := HM.out.over hB
      have m0 := h 0 _ rfl
      have m1 := h 1 _ rfl
      have m2 := h 2 _ rfl
      have m3 := h 3 _ rfl
      have m4 := h 4 _ rfl
      have m5 := h 5 _ rfl
      have m6 := h 6 _ rfl
      have m7 := h 7 _ rfl
      have m8 := h 8 _ rfl
      have hBa : Below w.heap.size w (wr.alloc (.cells #[.int .i64 3, .int .i64 0, .int .i64 0, .int .i64 0, .int .i64 0, .slice none 0 0, .slice none 0 0, .slice none 0 0, .slice none 0 0] 72)) := hB.trans (((Below.refl _ wr).alloc (Nat.le_refl _) _).mono hB.size)
      clear h
      go_wp2_with fail
      refine (K1.out _ _).mono ?_
      rintro e w1 ⟨rfl, rfl⟩
      go_wp2_with fail
      refine (K2.out _ _ _).mono ?_
      rintro e w1 ⟨rfl, rfl⟩
      go_wp2_with fail
      refine (K2.out _ _ _).mono ?_
      rintro e w1 ⟨rfl, rfl⟩
      go_wp2_with fail
      exact ⟨⟨1, by omega, by first | rfl | go_num, by first | rfl | go_num, hBa⟩, by simp [intOf]⟩
    · have h := HM.out.over hB
      have m0 := h 9 _ rfl
      have m1 := h 10 _ rfl
      have m2 := h 11 _ rfl
      have m3 := h 12 _ rfl
      have m4 := h 13 _ rfl
      have m5 := h 14 _ rfl
      have m6 := h 15 _ rfl
      have m7 := h 16 _ rfl
      have m8 := h 17 _ rfl
      have hBa : Below w.heap.size w (wr.alloc (.cells #[.int .i64 4, .int .i64 0, .int .i64 0, .int .i64 2, .int .i64 0, .slice none 0 0, .slice none 0 0, .slice none 0 0, .slice none 0 0] 72)) := hB.trans (((Below.refl _ wr).alloc (Nat.le_refl _) _).mono hB.size)
      clear h
      go_wp2_with fail
      refine (K1.out _ _).mono ?_
      rintro e w1 ⟨rfl, rfl⟩
      go_wp2_with fail
      refine (K2.out _ _ _).mono ?_
      rintro e w1 ⟨rfl, rfl⟩
      go_wp2_with fail
      refine (K2.out _ _ _).mono ?_
      rintro e w1 ⟨rfl, rfl⟩
      go_wp2_with fail
      exact ⟨⟨2, by omega, by first | rfl | go_num, by first | rfl | go_num, hBa⟩, by simp [intOf]⟩
    · go_wp2_with fail
      go_ret
      exact ⟨by first | rfl | trivial, hB⟩

/-- the small program, where its parts lie. -/
abbrev smallV (bi bo bv bm : Nat) : Value := .agg #[.int .i64 1, .slice none 0 0, .slice none 0 0, .slice (some ⟨bi, 0, none⟩) 1 1, .slice (some ⟨bo, 0, none⟩) 1 1, .slice (some ⟨bv, 0, none⟩) 1 1, .slice none 0 0, .slice (some ⟨bm, 0, none⟩) 2 2]
abbrev smallO (bi bo bv bm : Nat) (t : Nat) : Obj := .cells #[.int .i64 1, .slice none 0 0, .slice none 0 0, .slice (some ⟨bi, 0, none⟩) 1 1, .slice (some ⟨bo, 0, none⟩) 1 1, .slice (some ⟨bv, 0, none⟩) 1 1, .slice none 0 0, .slice (some ⟨bm, 0, none⟩) 2 2] t

set_option maxHeartbeats 4000000 in
set_option maxRecDepth 100000 in
theorem limits_small (bi bo bv bm : Nat) (w : World) (hm : RowAt mainCells w bm) : Calls Try.prog 49 #[smallV bi bo bv bm] w fun e w' => e = .returned (.tuple #[]) ∧ Below w.heap.size w w' := by
  have hbel : Below w.heap.size w (w.alloc (smallO bi bo bv bm 80)) := (Below.refl _ w).alloc (Nat.le_refl _) _
  have K1 := hide (count_main bm _ (hm.over hbel))
  unfold smallV
  go_enter Try.func49, Try.ntmps49
  go_wp2_with fail
  go_loopw [2, 9] (fun c i wr => c = .int .i64 0 ∧ i = .int .i64 0 ∧ wr = w.alloc (smallO bi bo bv bm 80)) (fun _ _ _ => 0)
  case atStart => exact ⟨rfl, rfl, rfl⟩
  case round =>
    obtain ⟨rfl, rfl, rfl⟩ := hrel
    unfold smallO
    go_wp2_with fail
    refine (K1.out).mono ?_
    rintro e w1 ⟨rfl, hb1⟩
    have hB1 := hbel.trans (hb1.mono hbel.size)
    clear hb1
    go_wp2_with fail
    go_end0
    exact ⟨rfl, hB1⟩
end Go.Proofs.Ytdbepdabkciiiaa.Ex

/- The small program passes its check. -/
import Derived.Test.YtdbepdabkciiiaaRe
import Derived.Defers
import Derived.Recover
namespace Go.Proofs.Ytdbepdabkciiiaa.Ex
open Go.RowKit
set_option linter.unusedVariables false

/-- the small program lies there. -/
structure Small (bi bo bv bm : Nat) (w : World) : Prop where
  ins : RowAt [.slice none 0 0, .slice none 0 0] w bi
  outs : RowAt [.slice none 0 0, .slice none 0 0] w bo
  vars : RowAt [.bool false, .slice none 0 0, .slice none 0 0] w bv
  main : RowAt mainCells w bm
theorem Small.over {bi bo bv bm : Nat} {w w' : World} (h : Small bi bo bv bm w) (hB : Below w.heap.size w w') : Small bi bo bv bm w' :=
  ⟨h.ins.over hB, h.outs.over hB, h.vars.over hB, h.main.over hB⟩

set_option maxHeartbeats 8000000 in
set_option maxRecDepth 100000 in
theorem check_small (bi bo bv bm : Nat) (w : World) (h : Small bi bo bv bm w) : Calls Try.prog 37 #[smallV bi bo bv bm] w fun e w' => e = .returned (.tuple #[]) ∧ Below w.heap.size w w' := by
  obtain ⟨W0, hW0⟩ : ∃ q, q = w.alloc (.cells (smallC bi bo bv bm).toArray 80) := ⟨_, rfl⟩
  have hbel : Below w.heap.size w W0 := by rw [hW0]; exact (Below.refl _ w).alloc (Nat.le_refl _) _
  have HC : Hid (RowAt (smallC bi bo bv bm) W0 w.heap.size) := by
    rw [hW0]
    exact RowAt.new _ 80 w
  have HS := hide (h.over hbel)
  have K1 := hide actorsOne
  have K2 := hide pass_ok
  have K3 := hide must_ok
  have K4 := hide fun W (hs : Small bi bo bv bm W) => labels_small bi bo bv bm W hs.ins hs.outs hs.vars
  have K5 := hide fun W (hs : Small bi bo bv bm W) => limits_small bi bo bv bm W hs.main
  have K6 := hide fun W (hs : Small bi bo bv bm W) => stmts_main bi bo bv bm W hs.main
  have HW := hide hW0
  clear hW0 h
  unfold smallV at K4 K5 K6 ⊢
  go_enter Try.func37, Try.ntmps37
  go_wp2_with fail
  have hw0 := HW.out
  change W0 = w.alloc (.cells #[.int .i64 1, .slice none 0 0, .slice none 0 0, .slice (some ⟨bi, 0, none⟩) 1 1, .slice (some ⟨bo, 0, none⟩) 1 1, .slice (some ⟨bv, 0, none⟩) 1 1, .slice none 0 0, .slice (some ⟨bm, 0, none⟩) 2 2] 80) at hw0
  rw [← hw0]
  clear hw0 HW
  refine (K1.out _).mono ?_
  rintro e w1 ⟨rfl, hb1⟩
  have hB1 := hb1
  have c0a := HC.out.over hB1 0 _ rfl
  have c1a := HC.out.over hB1 1 _ rfl
  have c2a := HC.out.over hB1 2 _ rfl
  have c3a := HC.out.over hB1 3 _ rfl
  have c4a := HC.out.over hB1 4 _ rfl
  have c5a := HC.out.over hB1 5 _ rfl
  have c6a := HC.out.over hB1 6 _ rfl
  have c7a := HC.out.over hB1 7 _ rfl
  clear hb1
  go_wp2_with fail
  refine (K2.out _).mono ?_
  rintro e wz ⟨rfl, rfl⟩
  go_wp2_with fail
  refine (K3.out _ _).mono ?_
  rintro e wz ⟨rfl, rfl⟩
  go_wp2_with fail
  go_loopw [53] (fun i wr => i = .int .i64 0 ∧ Below W0.heap.size W0 wr) (fun _ _ => 0)
  case atStart => exact ⟨rfl, hB1⟩
  case round =>
    clear c0a c1a c2a c3a c4a c5a c6a c7a hB1
    obtain ⟨rfl, hB1⟩ := hrel
    have c0b := HC.out.over hB1 0 _ rfl
    have c1b := HC.out.over hB1 1 _ rfl
    have c2b := HC.out.over hB1 2 _ rfl
    have c3b := HC.out.over hB1 3 _ rfl
    have c4b := HC.out.over hB1 4 _ rfl
    have c5b := HC.out.over hB1 5 _ rfl
    have c6b := HC.out.over hB1 6 _ rfl
    have c7b := HC.out.over hB1 7 _ rfl
    go_wp2_with fail
    refine (K4.out _ (HS.out.over hB1)).mono ?_
    rintro e w2 ⟨rfl, hb2⟩
    have hB2 := over_trans hB1 hb2
    clear hb2 c0b c1b c2b c3b c4b c5b c6b c7b
    have c0c := HC.out.over hB2 0 _ rfl
    have c1c := HC.out.over hB2 1 _ rfl
    have c2c := HC.out.over hB2 2 _ rfl
    have c3c := HC.out.over hB2 3 _ rfl
    have c4c := HC.out.over hB2 4 _ rfl
    have c5c := HC.out.over hB2 5 _ rfl
    have c6c := HC.out.over hB2 6 _ rfl
    have c7c := HC.out.over hB2 7 _ rfl
    go_wp2_with fail
    refine (K5.out _ (HS.out.over hB2)).mono ?_
    rintro e w3 ⟨rfl, hb2⟩
    have hB3 := over_trans hB2 hb2
    clear hb2 c0c c1c c2c c3c c4c c5c c6c c7c
    have c0d := HC.out.over hB3 0 _ rfl
    have c1d := HC.out.over hB3 1 _ rfl
    have c2d := HC.out.over hB3 2 _ rfl
    have c3d := HC.out.over hB3 3 _ rfl
    have c4d := HC.out.over hB3 4 _ rfl
    have c5d := HC.out.over hB3 5 _ rfl
    have c6d := HC.out.over hB3 6 _ rfl
    have c7d := HC.out.over hB3 7 _ rfl
    go_wp2_with fail
    go_loopw [73] (fun i wr => i = .int .i64 0 ∧ Below W0.heap.size W0 wr) (fun _ _ => 0)
    case atStart => exact ⟨rfl, hB3⟩
    case round =>
      clear c0d c1d c2d c3d c4d c5d c6d c7d hB1 hB2 hB3
      obtain ⟨rfl, hB1⟩ := hrel
      have c0e := HC.out.over hB1 0 _ rfl
      have c1e := HC.out.over hB1 1 _ rfl
      have c2e := HC.out.over hB1 2 _ rfl
      have c3e := HC.out.over hB1 3 _ rfl
      have c4e := HC.out.over hB1 4 _ rfl
      have c5e := HC.out.over hB1 5 _ rfl
      have c6e := HC.out.over hB1 6 _ rfl
      have c7e := HC.out.over hB1 7 _ rfl
      go_wp2_with fail
      refine (K6.out _ (HS.out.over hB1)).mono ?_
      rintro e w4 ⟨rfl, hb2⟩
      have hB2 := over_trans hB1 hb2
      clear hb2 c0e c1e c2e c3e c4e c5e c6e c7e
      go_wp2_with fail
      go_end0
      exact ⟨rfl, hbel.trans (hB2.mono hbel.size)⟩
end Go.Proofs.Ytdbepdabkciiiaa.Ex

/- The commands of the small program: all of them; its labels. -/
import Derived.Test.YtdbepdabkciiiaaRc
namespace Go.Proofs.Ytdbepdabkciiiaa.Ex
open Go.RowKit
set_option linter.unusedVariables false

set_option maxHeartbeats 4000000 in
set_option maxRecDepth 100000 in
theorem stmts_nil (bi bo bv bm : Nat) (w : World) : Calls Try.prog 51 #[smallV bi bo bv bm, .slice none 0 0, .int .i64 0] w fun e w' => e = .returned (.tuple #[]) ∧ Below w.heap.size w w' := by
  have hbel : Below w.heap.size w (w.alloc (smallO bi bo bv bm 80)) := (Below.refl _ w).alloc (Nat.le_refl _) _
  unfold smallV
  go_enter Try.func51, Try.ntmps51
  go_wp2_with fail
  go_loopw [10] (fun i wr => i = .int .i64 0 ∧ Below w.heap.size w wr) (fun _ _ => 0)
  case atStart => exact ⟨rfl, hbel⟩
  case round =>
    obtain ⟨rfl, hB⟩ := hrel
    go_wp2_with fail
    go_end0
    exact ⟨rfl, hB⟩

set_option maxHeartbeats 8000000 in
set_option maxRecDepth 100000 in
theorem stmts_main (bi bo bv bm : Nat) (w : World) (hm : RowAt mainCells w bm) : Calls Try.prog 51 #[smallV bi bo bv bm, .slice (some ⟨bm, 0, none⟩) 2 2, .int .i64 0] w fun e w' => e = .returned (.tuple #[]) ∧ Below w.heap.size w w' := by
  have hbel : Below w.heap.size w (w.alloc (smallO bi bo bv bm 80)) := (Below.refl _ w).alloc (Nat.le_refl _) _
  have K1 := hide fun W => stmts_nil bi bo bv bm W
  have K2 := hide fun W => stmt_get bi bo bv bm W
  have K3 := hide fun W => stmt_put bi bo bv bm W
  have HM := hide hm
  have HC : Hid (RowAt [.int .i64 1, .slice none 0 0, .slice none 0 0, .slice (some ⟨bi, 0, none⟩) 1 1, .slice (some ⟨bo, 0, none⟩) 1 1, .slice (some ⟨bv, 0, none⟩) 1 1, .slice none 0 0, .slice (some ⟨bm, 0, none⟩) 2 2] (w.alloc (smallO bi bo bv bm 80)) w.heap.size) := fun j u hu => by
    rw [Lib.cell_of_heap (heap_alloc_new w _)]
    simpa using hu
  clear hm
  unfold smallV at K1 K2 K3 ⊢
  unfold smallO at hbel HC
  go_enter Try.func51, Try.ntmps51
  go_wp2_with fail
  go_loopw [10] (fun i wr => ∃ j : Nat, j ≤ 2 ∧ i = .int .i64 j ∧ Below (w.alloc (.cells #[.int .i64 1, .slice none 0 0, .slice none 0 0, .slice (some ⟨bi, 0, none⟩) 1 1, .slice (some ⟨bo, 0, none⟩) 1 1, .slice (some ⟨bv, 0, none⟩) 1 1, .slice none 0 0, .slice (some ⟨bm, 0, none⟩) 2 2] 80)).heap.size (w.alloc (.cells #[.int .i64 1, .slice none 0 0, .slice none 0 0, .slice (some ⟨bi, 0, none⟩) 1 1, .slice (some ⟨bo, 0, none⟩) 1 1, .slice (some ⟨bv, 0, none⟩) 1 1, .slice none 0 0, .slice (some ⟨bm, 0, none⟩) 2 2] 80)) wr) (fun i _ => 2 - (intOf i).toNat)
  case atStart => exact ⟨0, by omega, rfl, Below.refl _ _⟩
  case round =>
    obtain ⟨j, hj, rfl, hB⟩ := hrel
    rcases (by omega : j = 0 ∨ j = 1 ∨ j = 2) with rfl | rfl | rfl
    · have h := HM.out.over (hbel.trans (hB.mono hbel.size))
      have m0 := h 0 _ rfl
      have m1 := h 1 _ rfl
      have m2 := h 2 _ rfl
      have m3 := h 3 _ rfl
      have m4 := h 4 _ rfl
      have m5 := h 5 _ rfl
      have m6 := h 6 _ rfl
      have m7 := h 7 _ rfl
      have m8 := h 8 _ rfl
      have hBa := over_trans hB ((Below.refl _ wr).alloc (Nat.le_refl _) (.cells #[.int .i64 3, .int .i64 0, .int .i64 0, .int .i64 0, .int .i64 0, .slice none 0 0, .slice none 0 0, .slice none 0 0, .slice none 0 0] 72))
      have hc := HC.out.over hBa
      have c0 := hc 0 _ rfl
      have c1 := hc 1 _ rfl
      have c2 := hc 2 _ rfl
      have c3 := hc 3 _ rfl
      have c4 := hc 4 _ rfl
      have c5 := hc 5 _ rfl
      have c6 := hc 6 _ rfl
      have c7 := hc 7 _ rfl
      have s5 : (wr.alloc (.cells #[.int .i64 3, .int .i64 0, .int .i64 0, .int .i64 0, .int .i64 0, .slice none 0 0, .slice none 0 0, .slice none 0 0, .slice none 0 0] 72)).cell? ⟨wr.heap.size, 7, none⟩ = some (.slice none 0 0) := by simp [go_sem]
      have s6 : (wr.alloc (.cells #[.int .i64 3, .int .i64 0, .int .i64 0, .int .i64 0, .int .i64 0, .slice none 0 0, .slice none 0 0, .slice none 0 0, .slice none 0 0] 72)).cell? ⟨wr.heap.size, 8, none⟩ = some (.slice none 0 0) := by simp [go_sem]
      clear h hc
      go_wp2_with fail
      refine (K2.out _).mono ?_
      rintro e w1 ⟨rfl, hb1⟩
      have t5 := cell_over hb1 _ _ s5
      have t6 := cell_over hb1 _ _ s6
      have hB1 := over_trans hBa hb1
      have hc := HC.out.over hB1
      clear s5 s6 hb1 hBa c0 c1 c2 c3 c4 c5 c6 c7
      have c0 := hc 0 _ rfl
      have c1 := hc 1 _ rfl
      have c2 := hc 2 _ rfl
      have c3 := hc 3 _ rfl
      have c4 := hc 4 _ rfl
      have c5 := hc 5 _ rfl
      have c6 := hc 6 _ rfl
      have c7 := hc 7 _ rfl
      clear hc
      go_wp2_with fail
      refine (K1.out _).mono ?_
      rintro e w2 ⟨rfl, hb1⟩
      have s6 := cell_over hb1 _ _ t6
      have hB2 := over_trans hB1 hb1
      have hc := HC.out.over hB2
      clear t5 t6 hb1 hB1 c0 c1 c2 c3 c4 c5 c6 c7
      have c0 := hc 0 _ rfl
      have c1 := hc 1 _ rfl
      have c2 := hc 2 _ rfl
      have c3 := hc 3 _ rfl
      have c4 := hc 4 _ rfl
      have c5 := hc 5 _ rfl
      have c6 := hc 6 _ rfl
      have c7 := hc 7 _ rfl
      clear hc
      go_wp2_with fail
      refine (K1.out _).mono ?_
      rintro e w3 ⟨rfl, hb1⟩
      have hB3 := over_trans hB2 hb1
      clear s6 hb1 hB2 c0 c1 c2 c3 c4 c5 c6 c7
      go_wp2_with fail
      exact ⟨⟨1, by omega, by first | rfl | go_num, hB3⟩, by simp [intOf]⟩
    · have h := HM.out.over (hbel.trans (hB.mono hbel.size))
      have m0 := h 9 _ rfl
      have m1 := h 10 _ rfl
      have m2 := h 11 _ rfl
      have m3 := h 12 _ rfl
      have m4 := h 13 _ rfl
      have m5 := h 14 _ rfl
      have m6 := h 15 _ rfl
      have m7 := h 16 _ rfl
      have m8 := h 17 _ rfl
      have hBa := over_trans hB ((Below.refl _ wr).alloc (Nat.le_refl _) (.cells #[.int .i64 4, .int .i64 0, .int .i64 0, .int .i64 2, .int .i64 0, .slice none 0 0, .slice none 0 0, .slice none 0 0, .slice none 0 0] 72))
      have hc := HC.out.over hBa
      have c0 := hc 0 _ rfl
      have c1 := hc 1 _ rfl
      have c2 := hc 2 _ rfl
      have c3 := hc 3 _ rfl
      have c4 := hc 4 _ rfl
      have c5 := hc 5 _ rfl
      have c6 := hc 6 _ rfl
      have c7 := hc 7 _ rfl
      have s5 : (wr.alloc (.cells #[.int .i64 4, .int .i64 0, .int .i64 0, .int .i64 2, .int .i64 0, .slice none 0 0, .slice none 0 0, .slice none 0 0, .slice none 0 0] 72)).cell? ⟨wr.heap.size, 7, none⟩ = some (.slice none 0 0) := by simp [go_sem]
      have s6 : (wr.alloc (.cells #[.int .i64 4, .int .i64 0, .int .i64 0, .int .i64 2, .int .i64 0, .slice none 0 0, .slice none 0 0, .slice none 0 0, .slice none 0 0] 72)).cell? ⟨wr.heap.size, 8, none⟩ = some (.slice none 0 0) := by simp [go_sem]
      clear h hc
      go_wp2_with fail
      refine (K3.out _).mono ?_
      rintro e w1 ⟨rfl, hb1⟩
      have t5 := cell_over hb1 _ _ s5
      have t6 := cell_over hb1 _ _ s6
      have hB1 := over_trans hBa hb1
      have hc := HC.out.over hB1
      clear s5 s6 hb1 hBa c0 c1 c2 c3 c4 c5 c6 c7
      have c0 := hc 0 _ rfl
      have c1 := hc 1 _ rfl
      have c2 := hc 2 _ rfl
      have c3 := hc 3 _ rfl
      have c4 := hc 4 _ rfl
      have c5 := hc 5 _ rfl
      have c6 := hc 6 _ rfl
      have c7 := hc 7 _ rfl
      clear hc
      go_wp2_with fail
      refine (K1.out _).mono ?_
      rintro e w2 ⟨rfl, hb1⟩
      have s6 := cell_over hb1 _ _ t6
      have hB2 := over_trans hB1 hb1
      have hc := HC.out.over hB2
      clear t5 t6 hb1 hB1 c0 c1 c2 c3 c4 c5 c6 c7
      have c0 := hc 0 _ rfl
      have c1 := hc 1 _ rfl
      have c2 := hc 2 _ rfl
      have c3 := hc 3 _ rfl
      have c4 := hc 4 _ rfl
      have c5 := hc 5 _ rfl
      have c6 := hc 6 _ rfl
      have c7 := hc 7 _ rfl
      clear hc
      go_wp2_with fail
      refine (K1.out _).mono ?_
      rintro e w3 ⟨rfl, hb1⟩
      have hB3 := over_trans hB2 hb1
      clear s6 hb1 hB2 c0 c1 c2 c3 c4 c5 c6 c7
      go_wp2_with fail
      exact ⟨⟨2, by omega, by first | rfl | go_num, hB3⟩, by simp [intOf]⟩
    · go_wp2_with fail
      go_end0
      exact ⟨rfl, hbel.trans (hB.mono hbel.size)⟩

theorem Try.infoL : (Try.prog.info? 68).map (fun i => (i.zero, i.size, i.bytes)) = some (some (.agg #[.slice none 0 0, .slice none 0 0]), 2, 48) := by kernel_rfl

set_option maxHeartbeats 4000000 in
set_option maxRecDepth 100000 in
theorem grow_two (w : World) : Calls Try.prog 68 #[.slice none 0 0, .int .i64 2] w fun e w' => ∃ v, e = .returned v ∧ w'.ownsRow w.heap.size 68 2 v 0 [] ∧ Below w.heap.size w w' := by
  go_enter Try.func68, Try.ntmps68
  go_wp2_with fail
  go_ret
  refine ⟨_, rfl, ⟨rfl, Or.inr ⟨w.heap.size, grownCap w 2 0 68, _, rfl, Nat.le_refl _, heap_alloc_new w _, Nat.zero_le _, grownCap_le_maxLen _ _ _ _ (by decide), ?_, rfl⟩⟩, ((Below.refl _ w).alloc (Nat.le_refl _) _).drew⟩
  have := grownCap_ge w 2 0 68
  simp [Builtin.zeroCells]
  unfold grownCap at this ⊢
  omega

set_option maxHeartbeats 8000000 in
set_option maxRecDepth 100000 in
theorem concat_two (g bi bo : Nat) (w : World) (hg : RowAt [.slice (some ⟨bi, 0, none⟩) 1 1, .slice (some ⟨bo, 0, none⟩) 1 1] w g) (h1 : RowAt [.slice none 0 0, .slice none 0 0] w bi) (h2 : RowAt [.slice none 0 0, .slice none 0 0] w bo) :
    Calls Try.prog 61 #[.slice (some ⟨g, 0, none⟩) 2 2] w fun e w' => ∃ v, e = .returned v ∧ w'.ownsRow w.heap.size 68 2 v 2 [.slice none 0 0, .slice none 0 0, .slice none 0 0, .slice none 0 0] ∧ Below w.heap.size w w' := by
  obtain ⟨i0, hi, hz0, hz1, hz2⟩ := info_parts Try.infoL
  have K1 := hide (grow_two w)
  have HG := hide hg
  have H1 := hide h1
  have H2 := hide h2
  clear hg h1 h2
  go_enter Try.func61, Try.ntmps61
  go_wp2_with fail
  go_loopw [3, 11] (fun s i wr => ∃ j : Nat, j ≤ 2 ∧ s = .int .i64 j ∧ i = .int .i64 j ∧ wr = w) (fun _ i _ => 2 - (intOf i).toNat)
  case atStart => exact ⟨0, by omega, rfl, rfl, rfl⟩
  case round =>
    obtain ⟨j, hj, rfl, rfl, hw⟩ := hrel
    have hw' := hw.symm
    subst hw'
    clear hw
    rcases (by omega : j = 0 ∨ j = 1 ∨ j = 2) with rfl | rfl | rfl
    · have q := HG.out 0 _ rfl
      go_wp2_with fail
      exact ⟨⟨1, by omega, by first | rfl | go_num, by first | rfl | go_num, by first | rfl | trivial⟩, by simp [intOf]⟩
    · have q := HG.out 1 _ rfl
      go_wp2_with fail
      exact ⟨⟨2, by omega, by first | rfl | go_num, by first | rfl | go_num, by first | rfl | trivial⟩, by simp [intOf]⟩
    · go_wp2_with fail
      refine (K1.out).mono ?_
      rintro e w1 ⟨v, rfl, hown, hb1⟩
      go_wp2_with fail
      go_loopw [6, 27] (fun nv i wq => ∃ j : Nat, j ≤ 2 ∧ i = .int .i64 j ∧ wq.ownsRow w.heap.size 68 2 nv j (List.replicate (j * 2) (.slice none 0 0)) ∧ Below w.heap.size w wq) (fun _ i _ => 2 - (intOf i).toNat)
      case atStart => exact ⟨0, by omega, rfl, hown, hb1⟩
      case round =>
        clear hown hb1
        obtain ⟨j, hj, rfl, hown, hB⟩ := hrel
        rcases (by omega : j = 0 ∨ j = 1 ∨ j = 2) with rfl | rfl | rfl
        · have q := HG.out.over hB 0 _ rfl
          have hs1 : w.heap.size ≤ wr.heap.size := hB.size
          have hy := H1.out.over hB
          go_wp2_with (at_builtin; refine wpList_append_own _ rfl _ _ 45 rfl w.heap.size 68 i0 (.agg #[.slice none 0 0, .slice none 0 0]) 2 48 Try.underlying45 hi hz0 hz1 hz2 rfl (by decide) _ _ _ rfl hown ⟨bi, 0, none⟩ 1 1 [.slice none 0 0, .slice none 0 0] rfl rfl (fun jj u hu => by rw [Addr.add_lit, Nat.zero_add]; exact hy jj u hu) (by simp [Value.oneCell']) (by unfold maxLen; omega) (by omega) hs1 ?_)
          intro v2 w3 hown2 hgr2 _
          have hbl2 := below_grown hown hgr2 hs1
          go_wp2_with fail
          exact ⟨⟨1, by omega, by first | rfl | go_num, hown2, hB.trans hbl2⟩, by simp [intOf]⟩
        · have q := HG.out.over hB 1 _ rfl
          have hs1 : w.heap.size ≤ wr.heap.size := hB.size
          have hy := H2.out.over hB
          go_wp2_with (at_builtin; refine wpList_append_own _ rfl _ _ 45 rfl w.heap.size 68 i0 (.agg #[.slice none 0 0, .slice none 0 0]) 2 48 Try.underlying45 hi hz0 hz1 hz2 rfl (by decide) _ _ _ rfl hown ⟨bo, 0, none⟩ 1 1 [.slice none 0 0, .slice none 0 0] rfl rfl (fun jj u hu => by rw [Addr.add_lit, Nat.zero_add]; exact hy jj u hu) (by simp [Value.oneCell']) (by unfold maxLen; omega) (by omega) hs1 ?_)
          intro v2 w3 hown2 hgr2 _
          have hbl2 := below_grown hown hgr2 hs1
          go_wp2_with fail
          exact ⟨⟨2, by omega, by first | rfl | go_num, hown2, hB.trans hbl2⟩, by simp [intOf]⟩
        · go_wp2_with fail
          go_ret
          exact ⟨_, rfl, hown, hB⟩
end Go.Proofs.Ytdbepdabkciiiaa.Ex

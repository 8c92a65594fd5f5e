/- The commands of the small program: all of them; its labels. -/
import Derived.Test.YtpbnmmgocpobcaaM18
import Derived.Defers
import Derived.Recover
namespace Go.Proofs.Ytpbnmmgocpobcaa.Ex
open Go.RowKit
set_option linter.unusedVariables false

set_option maxHeartbeats 4000000 in
set_option maxRecDepth 100000 in
theorem stmts_nil (bi bo bv bm : Nat) (w : World) : Calls Try.prog 45 #[smallV bi bo bv bm, .slice none 0 0, .int .i64 0] w fun e w' => e = .returned (.tuple #[]) ∧ Below w.heap.size w w' := by
  have hbel : Below w.heap.size w (w.alloc (smallO bi bo bv bm 75)) := (Below.refl _ w).alloc (Nat.le_refl _) _
  unfold smallV
  go_enter Try.func45, Try.ntmps45
  go_wp2_with fail
  go_loopw [10] (fun i wr => i = .int .i64 0 ∧ Below w.heap.size w wr) (fun _ _ => 0)
  case atStart => exact ⟨rfl, hbel⟩
  case round =>
    obtain ⟨rfl, hB⟩ := hrel
    go_wp2_with fail
    go_end0
    exact ⟨rfl, hB⟩

set_option maxHeartbeats 8000000 in
set_option maxRecDepth 100000 in
theorem stmts_main (bi bo bv bm : Nat) (w : World) (hm : RowAt mainCells w bm) : Calls Try.prog 45 #[smallV bi bo bv bm, .slice (some ⟨bm, 0, none⟩) 2 2, .int .i64 0] w fun e w' => e = .returned (.tuple #[]) ∧ Below w.heap.size w w' := by
  have hbel : Below w.heap.size w (w.alloc (smallO bi bo bv bm 75)) := (Below.refl _ w).alloc (Nat.le_refl _) _
  have K1 := hide fun W => stmts_nil bi bo bv bm W
  have K2 := hide fun W => stmt_get bi bo bv bm W
  have K3 := hide fun W => stmt_put bi bo bv bm W
  have HM := hide hm
  have HC : Hid (RowAt [.int .i64 1, .slice none 0 0, .slice none 0 0, .slice (some ⟨bi, 0, none⟩) 1 1, .slice (some ⟨bo, 0, none⟩) 1 1, .slice (some ⟨bv, 0, none⟩) 1 1, .slice none 0 0, .slice (some ⟨bm, 0, none⟩) 2 2] (w.alloc (smallO bi bo bv bm 75)) w.heap.size) := fun j u hu => by
    rw [Lib.cell_of_heap (heap_alloc_new w _)]
    simpa using hu
  clear hm
  unfold smallV at K1 K2 K3 ⊢
  unfold smallO at hbel HC
  go_enter Try.func45, Try.ntmps45
  go_wp2_with fail
  go_loopw [10] (fun i wr => ∃ j : Nat, j ≤ 2 ∧ i = .int .i64 j ∧ Below (w.alloc (.cells #[.int .i64 1, .slice none 0 0, .slice none 0 0, .slice (some ⟨bi, 0, none⟩) 1 1, .slice (some ⟨bo, 0, none⟩) 1 1, .slice (some ⟨bv, 0, none⟩) 1 1, .slice none 0 0, .slice (some ⟨bm, 0, none⟩) 2 2] 75)).heap.size (w.alloc (.cells #[.int .i64 1, .slice none 0 0, .slice none 0 0, .slice (some ⟨bi, 0, none⟩) 1 1, .slice (some ⟨bo, 0, none⟩) 1 1, .slice (some ⟨bv, 0, none⟩) 1 1, .slice none 0 0, .slice (some ⟨bm, 0, none⟩) 2 2] 75)) wr) (fun i _ => 2 - (intOf i).toNat)
  case atStart => exact ⟨0, by omega, rfl, Below.refl _ _⟩
  case round =>
    obtain ⟨j, hj, rfl, hB⟩ := hrel
    rcases (by omega : j = 0 ∨ j = 1 ∨ j = 2) with rfl | rfl | rfl
    · have h := HM.out.over (hbel.trans (hB.mono hbel.size))
      have m0 := h 0 _ rfl
      have m1 := h 1 _ rfl
      have m2 := h 2 _ rfl
      have m3 := h 3 _ rfl
      have m4 := h 4 _ rfl
      have m5 := h 5 _ rfl
      have m6 := h 6 _ rfl
      have m7 := h 7 _ rfl
      have m8 := h 8 _ rfl
      have hBa := over_trans hB ((Below.refl _ wr).alloc (Nat.le_refl _) (.cells #[.int .i64 3, .int .i64 0, .int .i64 0, .int .i64 0, .int .i64 0, .slice none 0 0, .slice none 0 0, .slice none 0 0, .slice none 0 0] 71))
      have hc := HC.out.over hBa
      have c0 := hc 0 _ rfl
      have c1 := hc 1 _ rfl
      have c2 := hc 2 _ rfl
      have c3 := hc 3 _ rfl
      have c4 := hc 4 _ rfl
      have c5 := hc 5 _ rfl
      have c6 := hc 6 _ rfl
      have c7 := hc 7 _ rfl
      have s5 : (wr.alloc (.cells #[.int .i64 3, .int .i64 0, .int .i64 0, .int .i64 0, .int .i64 0, .slice none 0 0, .slice none 0 0, .slice none 0 0, .slice none 0 0] 71)).cell? ⟨wr.heap.size, 7, none⟩ = some (.slice none 0 0) := by simp [go_sem]
      have s6 : (wr.alloc (.cells #[.int .i64 3, .int .i64 0, .int .i64 0, .int .i64 0, .int .i64 0, .slice none 0 0, .slice none 0 0, .slice none 0 0, .slice none 0 0] 71)).cell? ⟨wr.heap.size, 8, none⟩ = some (.slice none 0 0) := by simp [go_sem]
      clear h hc
      go_wp2_with fail
      refine (K2.out _).mono ?_
      rintro e w1 ⟨rfl, hb1⟩
      have t5 := cell_over hb1 _ _ s5
      have t6 := cell_over hb1 _ _ s6
      have hB1 := over_trans hBa hb1
      have hc := HC.out.over hB1
      clear s5 s6 hb1 hBa c0 c1 c2 c3 c4 c5 c6 c7
      have c0 := hc 0 _ rfl
      have c1 := hc 1 _ rfl
      have c2 := hc 2 _ rfl
      have c3 := hc 3 _ rfl
      have c4 := hc 4 _ rfl
      have c5 := hc 5 _ rfl
      have c6 := hc 6 _ rfl
      have c7 := hc 7 _ rfl
      clear hc
      go_wp2_with fail
      refine (K1.out _).mono ?_
      rintro e w2 ⟨rfl, hb1⟩
      have s6 := cell_over hb1 _ _ t6
      have hB2 := over_trans hB1 hb1
      have hc := HC.out.over hB2
      clear t5 t6 hb1 hB1 c0 c1 c2 c3 c4 c5 c6 c7
      have c0 := hc 0 _ rfl
      have c1 := hc 1 _ rfl
      have c2 := hc 2 _ rfl
      have c3 := hc 3 _ rfl
      have c4 := hc 4 _ rfl
      have c5 := hc 5 _ rfl
      have c6 := hc 6 _ rfl
      have c7 := hc 7 _ rfl
      clear hc
      go_wp2_with fail
      refine (K1.out _).mono ?_
      rintro e w3 ⟨rfl, hb1⟩
      have hB3 := over_trans hB2 hb1
      clear s6 hb1 hB2 c0 c1 c2 c3 c4 c5 c6 c7
      go_wp2_with fail
      exact ⟨⟨1, by omega, by first | rfl | go_num, hB3⟩, by simp [intOf]⟩
    · have h := HM.out.over (hbel.trans (hB.mono hbel.size))
      have m0 := h 9 _ rfl
      have m1 := h 10 _ rfl
      have m2 := h 11 _ rfl
      have m3 := h 12 _ rfl
      have m4 := h 13 _ rfl
      have m5 := h 14 _ rfl
      have m6 := h 15 _ rfl
      have m7 := h 16 _ rfl
      have m8 := h 17 _ rfl
      have hBa := over_trans hB ((Below.refl _ wr).alloc (Nat.le_refl _) (.cells #[.int .i64 4, .int .i64 0, .int .i64 0, .int .i64 2, .int .i64 0, .slice none 0 0, .slice none 0 0, .slice none 0 0, .slice none 0 0] 71))
      have hc := HC.out.over hBa
      have c0 := hc 0 _ rfl
      have c1 := hc 1 _ rfl
      have c2 := hc 2 _ rfl
      have c3 := hc 3 _ rfl
      have c4 := hc 4 _ rfl
      have c5 := hc 5 _ rfl
      have c6 := hc 6 _ rfl
      have c7 := hc 7 _ rfl
      have s5 : (wr.alloc (.cells #[.int .i64 4, .int .i64 0, .int .i64 0, .int .i64 2, .int .i64 0, .slice none 0 0, .slice none 0 0, .slice none 0 0, .slice none 0 0] 71)).cell? ⟨wr.heap.size, 7, none⟩ = some (.slice none 0 0) := by simp [go_sem]
      have s6 : (wr.alloc (.cells #[.int .i64 4, .int .i64 0, .int .i64 0, .int .i64 2, .int .i64 0, .slice none 0 0, .slice none 0 0, .slice none 0 0, .slice none 0 0] 71)).cell? ⟨wr.heap.size, 8, none⟩ = some (.slice none 0 0) := by simp [go_sem]
      clear h hc
      go_wp2_with fail
      refine (K3.out _).mono ?_
      rintro e w1 ⟨rfl, hb1⟩
      have t5 := cell_over hb1 _ _ s5
      have t6 := cell_over hb1 _ _ s6
      have hB1 := over_trans hBa hb1
      have hc := HC.out.over hB1
      clear s5 s6 hb1 hBa c0 c1 c2 c3 c4 c5 c6 c7
      have c0 := hc 0 _ rfl
      have c1 := hc 1 _ rfl
      have c2 := hc 2 _ rfl
      have c3 := hc 3 _ rfl
      have c4 := hc 4 _ rfl
      have c5 := hc 5 _ rfl
      have c6 := hc 6 _ rfl
      have c7 := hc 7 _ rfl
      clear hc
      go_wp2_with fail
      refine (K1.out _).mono ?_
      rintro e w2 ⟨rfl, hb1⟩
      have s6 := cell_over hb1 _ _ t6
      have hB2 := over_trans hB1 hb1
      have hc := HC.out.over hB2
      clear t5 t6 hb1 hB1 c0 c1 c2 c3 c4 c5 c6 c7
      have c0 := hc 0 _ rfl
      have c1 := hc 1 _ rfl
      have c2 := hc 2 _ rfl
      have c3 := hc 3 _ rfl
      have c4 := hc 4 _ rfl
      have c5 := hc 5 _ rfl
      have c6 := hc 6 _ rfl
      have c7 := hc 7 _ rfl
      clear hc
      go_wp2_with fail
      refine (K1.out _).mono ?_
      rintro e w3 ⟨rfl, hb1⟩
      have hB3 := over_trans hB2 hb1
      clear s6 hb1 hB2 c0 c1 c2 c3 c4 c5 c6 c7
      go_wp2_with fail
      exact ⟨⟨2, by omega, by first | rfl | go_num, hB3⟩, by simp [intOf]⟩
    · go_wp2_with fail
      go_end0
      exact ⟨rfl, hbel.trans (hB.mono hbel.size)⟩

theorem Try.infoL : (Try.prog.info? 67).map (fun i => (i.zero, i.size, i.bytes)) = some (some (.agg #[.slice none 0 0, .slice none 0 0]), 2, 48) := by kernel_rfl

set_option maxHeartbeats 4000000 in
set_option maxRecDepth 100000 in
theorem grow_two (w : World) : Calls Try.prog 64 #[.slice none 0 0, .int .i64 2] w fun e w' => ∃ v, e = .returned v ∧ w'.ownsRow w.heap.size 67 2 v 0 [] ∧ Below w.heap.size w w' := by
  go_enter Try.func64, Try.ntmps64
  go_wp2_with fail
  go_ret
  refine ⟨_, rfl, ⟨rfl, Or.inr ⟨w.heap.size, grownCap w 2 0 67, _, rfl, Nat.le_refl _, heap_alloc_new w _, Nat.zero_le _, grownCap_le_maxLen _ _ _ _ (by decide), ?_, rfl⟩⟩, ((Below.refl _ w).alloc (Nat.le_refl _) _).drew⟩
  have := grownCap_ge w 2 0 67
  simp [Builtin.zeroCells]
  unfold grownCap at this ⊢
  omega

set_option maxHeartbeats 8000000 in
set_option maxRecDepth 100000 in
theorem concat_two (g bi bo : Nat) (w : World) (hg : RowAt [.slice (some ⟨bi, 0, none⟩) 1 1, .slice (some ⟨bo, 0, none⟩) 1 1] w g) (h1 : RowAt [.slice none 0 0, .slice none 0 0] w bi) (h2 : RowAt [.slice none 0 0, .slice none 0 0] w bo) :
    Calls Try.prog 57 #[.slice (some ⟨g, 0, none⟩) 2 2] w fun e w' => ∃ v, e = .returned v ∧ w'.ownsRow w.heap.size 67 2 v 2 [.slice none 0 0, .slice none 0 0, .slice none 0 0, .slice none 0 0] ∧ Below w.heap.size w w' := by
  obtain ⟨i0, hi, hz0, hz1, hz2⟩ := info_parts Try.infoL
  have K1 := hide (grow_two w)
  have HG := hide hg
  have H1 := hide h1
  have H2 := hide h2
  clear hg h1 h2
  go_enter Try.func57, Try.ntmps57
  go_wp2_with fail
  go_loopw [3, 11] (fun s i wr => ∃ j : Nat, j ≤ 2 ∧ s = .int .i64 j ∧ i = .int .i64 j ∧ wr = w) (fun _ i _ => 2 - (intOf i).toNat)
  case atStart => exact ⟨0, by omega, rfl, rfl, rfl⟩
  case round =>
    obtain ⟨j, hj, rfl, rfl, hw⟩ := hrel
    have hw' := hw.symm
    subst hw'
    clear hw
    rcases (by omega : j = 0 ∨ j = 1 ∨ j = 2) with rfl | rfl | rfl
    · have q := HG.out 0 _ rfl
      go_wp2_with fail
      exact ⟨⟨1, by omega, by first | rfl | go_num, by first | rfl | go_num, by first | rfl | trivial⟩, by simp [intOf]⟩
    · have q := HG.out 1 _ rfl
      go_wp2_with fail
      exact ⟨⟨2, by omega, by first | rfl | go_num, by first | rfl | go_num, by first | rfl | trivial⟩, by simp [intOf]⟩
    · go_wp2_with fail
      refine (K1.out).mono ?_
      rintro e w1 ⟨v, rfl, hown, hb1⟩
      go_wp2_with fail
      go_loopw [6, 27] (fun nv i wq => ∃ j : Nat, j ≤ 2 ∧ i = .int .i64 j ∧ wq.ownsRow w.heap.size 67 2 nv j (List.replicate (j * 2) (.slice none 0 0)) ∧ Below w.heap.size w wq) (fun _ i _ => 2 - (intOf i).toNat)
      case atStart => exact ⟨0, by omega, rfl, hown, hb1⟩
      case round =>
        clear hown hb1
        obtain ⟨j, hj, rfl, hown, hB⟩ := hrel
        rcases (by omega : j = 0 ∨ j = 1 ∨ j = 2) with rfl | rfl | rfl
        · have q := HG.out.over hB 0 _ rfl
          have hs1 : w.heap.size ≤ wr.heap.size := hB.size
          have hy := H1.out.over hB
          go_wp2_with (at_builtin; refine wpList_append_own _ rfl _ _ 26 rfl w.heap.size 67 i0 (.agg #[.slice none 0 0, .slice none 0 0]) 2 48 Try.underlying26 hi hz0 hz1 hz2 rfl (by decide) _ _ _ rfl hown ⟨bi, 0, none⟩ 1 1 [.slice none 0 0, .slice none 0 0] rfl rfl (fun jj u hu => by rw [Addr.add_lit, Nat.zero_add]; exact hy jj u hu) (by simp [Value.oneCell']) (by unfold maxLen; omega) (by omega) hs1 ?_)
          intro v2 w3 hown2 hgr2 _
          have hbl2 := below_grown hown hgr2 hs1
          go_wp2_with fail
          exact ⟨⟨1, by omega, by first | rfl | go_num, hown2, hB.trans hbl2⟩, by simp [intOf]⟩
        · have q := HG.out.over hB 1 _ rfl
          have hs1 : w.heap.size ≤ wr.heap.size := hB.size
          have hy := H2.out.over hB
          go_wp2_with (at_builtin; refine wpList_append_own _ rfl _ _ 26 rfl w.heap.size 67 i0 (.agg #[.slice none 0 0, .slice none 0 0]) 2 48 Try.underlying26 hi hz0 hz1 hz2 rfl (by decide) _ _ _ rfl hown ⟨bo, 0, none⟩ 1 1 [.slice none 0 0, .slice none 0 0] rfl rfl (fun jj u hu => by rw [Addr.add_lit, Nat.zero_add]; exact hy jj u hu) (by simp [Value.oneCell']) (by unfold maxLen; omega) (by omega) hs1 ?_)
          intro v2 w3 hown2 hgr2 _
          have hbl2 := below_grown hown hgr2 hs1
          go_wp2_with fail
          exact ⟨⟨2, by omega, by first | rfl | go_num, hown2, hB.trans hbl2⟩, by simp [intOf]⟩
        · go_wp2_with fail
          go_ret
          exact ⟨_, rfl, hown, hB⟩
end Go.Proofs.Ytpbnmmgocpobcaa.Ex
/- The labels of the small program; the whole of its check. -/
namespace Go.Proofs.Ytpbnmmgocpobcaa.Ex
open Go.RowKit
set_option linter.unusedVariables false

abbrev nils (n : Nat) : List Value := List.replicate n (.slice none 0 0)
abbrev smallC (bi bo bv bm : Nat) : List Value := [.int .i64 1, .slice none 0 0, .slice none 0 0, .slice (some ⟨bi, 0, none⟩) 1 1, .slice (some ⟨bo, 0, none⟩) 1 1, .slice (some ⟨bv, 0, none⟩) 1 1, .slice none 0 0, .slice (some ⟨bm, 0, none⟩) 2 2]
theorem RowAt.new (cs : List Value) (t : Nat) (w : World) : RowAt cs (w.alloc (.cells cs.toArray t)) w.heap.size := fun j u hu => by
  rw [Lib.cell_of_heap (heap_alloc_new w _)]
  simpa using hu

theorem own_cells2 {W : World} {B e : Nat} {v : Value} {n : Nat} {xs : List Value} (h : W.ownsRow B e 2 v n xs) (hn : 0 < n) : ∃ g cap, v = .slice (some ⟨g, 0, none⟩) n cap ∧ B ≤ g ∧ g < W.heap.size ∧ ∀ j u, xs[j]? = some u → W.cell? ((⟨g, 0, none⟩ : Addr).add j) = some u := by
  rcases h.2 with ⟨_, h0⟩ | ⟨g, cap, cur, hv, hb, hg, h1, h2, h3, h4⟩
  · omega
  · refine ⟨g, cap, hv, hb, (Array.getElem?_eq_some_iff.1 hg).1, fun j u hu => ?_⟩
    rw [Addr.add_lit, Lib.cell_of_heap hg]
    rw [← h4, List.getElem?_take] at hu
    split at hu
    · simpa using hu
    · cases hu

set_option maxHeartbeats 8000000 in
set_option maxRecDepth 100000 in
theorem labels_small (bi bo bv bm : Nat) (w : World) (h1 : RowAt [.slice none 0 0, .slice none 0 0] w bi) (h2 : RowAt [.slice none 0 0, .slice none 0 0] w bo) (h3 : RowAt [.bool false, .slice none 0 0, .slice none 0 0] w bv) :
    Calls Try.prog 42 #[smallV bi bo bv bm] w fun e w' => e = .returned (.tuple #[]) ∧ Below w.heap.size w w' := by
  obtain ⟨W0, hW0⟩ : ∃ q, q = (w.alloc (.cells (smallC bi bo bv bm).toArray 75)).alloc (.cells [.slice (some ⟨bi, 0, none⟩) 1 1, .slice (some ⟨bo, 0, none⟩) 1 1].toArray 26) := ⟨_, rfl⟩
  have hbel : Below w.heap.size w W0 := by rw [hW0]; exact ((Below.refl _ w).alloc (Nat.le_refl _) _).alloc (by simp) _
  have HC : Hid (RowAt (smallC bi bo bv bm) W0 w.heap.size) := by
    rw [hW0]
    exact (RowAt.new _ 75 w).over ((Below.refl _ _).alloc (Nat.le_refl _) _)
  have hgg : RowAt [.slice (some ⟨bi, 0, none⟩) 1 1, .slice (some ⟨bo, 0, none⟩) 1 1] W0 (w.heap.size + 1) := by
    rw [hW0]
    have := RowAt.new [.slice (some ⟨bi, 0, none⟩) 1 1, .slice (some ⟨bo, 0, none⟩) 1 1] 26 (w.alloc (.cells (smallC bi bo bv bm).toArray 75))
    simpa using this
  have K1 := hide (concat_two (w.heap.size + 1) bi bo W0 hgg (h1.over hbel) (h2.over hbel))
  have K2 := hide labelNone
  have K3 := hide pass_ok
  have K4 := hide must_ok
  have HV := hide (h3.over hbel)
  clear h1 h2 h3 hgg
  have HW := hide hW0
  clear hW0
  unfold smallV
  go_enter Try.func42, Try.ntmps42
  go_wp2_with fail
  have hw0 := HW.out
  change W0 = (w.alloc (.cells #[.int .i64 1, .slice none 0 0, .slice none 0 0, .slice (some ⟨bi, 0, none⟩) 1 1, .slice (some ⟨bo, 0, none⟩) 1 1, .slice (some ⟨bv, 0, none⟩) 1 1, .slice none 0 0, .slice (some ⟨bm, 0, none⟩) 2 2] 75)).alloc (.cells #[.slice (some ⟨bi, 0, none⟩) 1 1, .slice (some ⟨bo, 0, none⟩) 1 1] 26) at hw0
  rw [← hw0]
  refine (K1.out).mono ?_
  rintro e w1 ⟨v, rfl, hown, hb1⟩
  clear hw0 HW K1
  obtain ⟨g, gc, rfl, hgb, hgl, hgc⟩ := own_cells2 hown (by omega)
  have hgr : RowAt [.slice none 0 0, .slice none 0 0, .slice none 0 0, .slice none 0 0] w1 g := fun j u hu => by
    have := hgc j u hu
    rw [Addr.add_lit, Nat.zero_add] at this
    exact this
  have HGR := hide hgr
  have HC1 := hide (HC.out.over hb1)
  have HV1 := hide (HV.out.over hb1)
  have hB1 := hbel.trans (hb1.mono hbel.size)
  clear hgr hgc hown HC HV hb1 hbel hgb hgl
  go_wp2_with fail
  go_loopw [17] (fun i wr => ∃ j : Int, 0 ≤ j ∧ j ≤ 2 ∧ i = .int .i64 j ∧ Below w1.heap.size w1 wr) (fun i _ => 2 - (intOf i).toNat)
  case atStart => exact ⟨0, by omega, by omega, rfl, Below.refl _ _⟩
  case round =>
    obtain ⟨j, hj0, hj, rfl, hB⟩ := hrel
    rcases (by omega : j = 0 ∨ j = 1 ∨ j = 2) with rfl | rfl | rfl
    · have q0 := HGR.out.over hB 0 _ rfl
      have q1 := HGR.out.over hB 1 _ rfl
      have hBa := over_trans hB ((Below.refl _ wr).alloc (Nat.le_refl _) (.cells #[.slice none 0 0, .slice none 0 0] 67))
      have c0 := HC1.out.over hBa 0 _ rfl
      have c1 := HC1.out.over hBa 1 _ rfl
      go_wp2_with fail
      refine (K2.out _).mono ?_
      rintro e w2 ⟨rfl, hb2⟩
      have hB2 := over_trans hBa hb2
      clear hb2 hBa q0 q1 c0 c1 hB
      go_wp2_with fail
      refine (K3.out _).mono ?_
      rintro e w3 ⟨rfl, rfl⟩
      go_wp2_with fail
      exact ⟨⟨1, by omega, by omega, by first | rfl | go_num, hB2⟩, by simp [intOf]⟩
    · have q0 := HGR.out.over hB 2 _ rfl
      have q1 := HGR.out.over hB 3 _ rfl
      have hBa := over_trans hB ((Below.refl _ wr).alloc (Nat.le_refl _) (.cells #[.slice none 0 0, .slice none 0 0] 67))
      have c0 := HC1.out.over hBa 0 _ rfl
      have c1 := HC1.out.over hBa 1 _ rfl
      go_wp2_with fail
      refine (K2.out _).mono ?_
      rintro e w2 ⟨rfl, hb2⟩
      have hB2 := over_trans hBa hb2
      clear hb2 hBa q0 q1 c0 c1 hB
      go_wp2_with fail
      refine (K3.out _).mono ?_
      rintro e w3 ⟨rfl, rfl⟩
      go_wp2_with fail
      exact ⟨⟨2, by omega, by omega, by first | rfl | go_num, hB2⟩, by simp [intOf]⟩
    · have HC2 := hide (HC1.out.over hB)
      have HV2 := hide (HV1.out.over hB)
      have hB2 := hB1.trans (hB.mono hB1.size)
      obtain ⟨w2, hw2⟩ : ∃ q, q = wr := ⟨_, rfl⟩
      rw [← hw2] at HC2 HV2 hB2 ⊢
      clear hw2 hB HC1 HV1 HGR hB1
      have c5 := HC2.out 5 _ rfl
      go_wp2_with fail
      go_loopw [32] (fun i wr => ∃ j : Int, 0 ≤ j ∧ j ≤ 1 ∧ i = .int .i64 j ∧ Below w2.heap.size w2 wr) (fun i _ => 1 - (intOf i).toNat)
      case atStart => exact ⟨0, by omega, by omega, rfl, Below.refl _ _⟩
      case round =>
        obtain ⟨j, hj0, hj, rfl, hB⟩ := hrel
        rcases (by omega : j = 0 ∨ j = 1) with rfl | rfl
        · have q0 := HV2.out.over hB 0 _ rfl
          have q1 := HV2.out.over hB 1 _ rfl
          have q2 := HV2.out.over hB 2 _ rfl
          have hBa := over_trans hB ((Below.refl _ wr).alloc (Nat.le_refl _) (.cells #[.bool false, .slice none 0 0, .slice none 0 0] 69))
          have c0 := HC2.out.over hBa 0 _ rfl
          have c1 := HC2.out.over hBa 1 _ rfl
          clear c5
          go_wp2_with fail
          refine (K2.out _).mono ?_
          rintro e w4 ⟨rfl, hb2⟩
          have hB4 := over_trans hBa hb2
          clear hb2 hBa q0 q1 q2 c0 c1 hB
          go_wp2_with fail
          refine (K3.out _).mono ?_
          rintro e w3 ⟨rfl, rfl⟩
          go_wp2_with fail
          exact ⟨⟨1, by omega, by omega, by first | rfl | go_num, hB4⟩, by simp [intOf]⟩
        · have HV3 := hide (HV2.out.over hB)
          have c5' := HC2.out.over hB 5 _ rfl
          have hB3 := hB2.trans (hB.mono hB2.size)
          obtain ⟨w3, hw3⟩ : ∃ q, q = wr := ⟨_, rfl⟩
          rw [← hw3] at HV3 hB3 c5' ⊢
          clear hw3 hB HC2 HV2 hB2 c5
          go_wp2_with fail
          go_loopw [48] (fun i wr => ∃ j : Int, 0 ≤ j ∧ j ≤ 1 ∧ i = .int .i64 j ∧ Below w3.heap.size w3 wr) (fun i _ => 1 - (intOf i).toNat)
          case atStart => exact ⟨0, by omega, by omega, rfl, Below.refl _ _⟩
          case round =>
            obtain ⟨j, hj0, hj, rfl, hB⟩ := hrel
            rcases (by omega : j = 0 ∨ j = 1) with rfl | rfl
            · have q0 := HV3.out.over hB 0 _ rfl
              have q1 := HV3.out.over hB 1 _ rfl
              have q2 := HV3.out.over hB 2 _ rfl
              have hBa := over_trans hB ((Below.refl _ wr).alloc (Nat.le_refl _) (.cells #[.bool false, .slice none 0 0, .slice none 0 0] 69))
              clear c5'
              go_wp2_with fail
              refine (K4.out _ _).mono ?_
              rintro e w4 ⟨rfl, rfl⟩
              go_wp2_with fail
              exact ⟨⟨1, by omega, by omega, by first | rfl | go_num, hBa⟩, by simp [intOf]⟩
            · go_wp2_with fail
              go_end0
              exact ⟨rfl, hB3.trans (hB.mono hB3.size)⟩
end Go.Proofs.Ytpbnmmgocpobcaa.Ex
/- The small program passes its check. -/
namespace Go.Proofs.Ytpbnmmgocpobcaa.Ex
open Go.RowKit
set_option linter.unusedVariables false

/-- the small program lies there. -/
structure Small (bi bo bv bm : Nat) (w : World) : Prop where
  ins : RowAt [.slice none 0 0, .slice none 0 0] w bi
  outs : RowAt [.slice none 0 0, .slice none 0 0] w bo
  vars : RowAt [.bool false, .slice none 0 0, .slice none 0 0] w bv
  main : RowAt mainCells w bm
theorem Small.over {bi bo bv bm : Nat} {w w' : World} (h : Small bi bo bv bm w) (hB : Below w.heap.size w w') : Small bi bo bv bm w' :=
  ⟨h.ins.over hB, h.outs.over hB, h.vars.over hB, h.main.over hB⟩

set_option maxHeartbeats 8000000 in
set_option maxRecDepth 100000 in
theorem check_small (bi bo bv bm : Nat) (w : World) (h : Small bi bo bv bm w) : Calls Try.prog 27 #[smallV bi bo bv bm] w fun e w' => e = .returned (.tuple #[]) ∧ Below w.heap.size w w' := by
  obtain ⟨W0, hW0⟩ : ∃ q, q = w.alloc (.cells (smallC bi bo bv bm).toArray 75) := ⟨_, rfl⟩
  have hbel : Below w.heap.size w W0 := by rw [hW0]; exact (Below.refl _ w).alloc (Nat.le_refl _) _
  have HC : Hid (RowAt (smallC bi bo bv bm) W0 w.heap.size) := by
    rw [hW0]
    exact RowAt.new _ 75 w
  have HS := hide (h.over hbel)
  have K1 := hide actorsOne
  have K2 := hide pass_ok
  have K3 := hide must_ok
  have K4 := hide fun W (hs : Small bi bo bv bm W) => labels_small bi bo bv bm W hs.ins hs.outs hs.vars
  have K5 := hide fun W (hs : Small bi bo bv bm W) => limits_small bi bo bv bm W hs.main
  have K6 := hide fun W (hs : Small bi bo bv bm W) => stmts_main bi bo bv bm W hs.main
  have HW := hide hW0
  clear hW0 h
  unfold smallV at K4 K5 K6 ⊢
  go_enter Try.func27, Try.ntmps27
  go_wp2_with fail
  have hw0 := HW.out
  change W0 = w.alloc (.cells #[.int .i64 1, .slice none 0 0, .slice none 0 0, .slice (some ⟨bi, 0, none⟩) 1 1, .slice (some ⟨bo, 0, none⟩) 1 1, .slice (some ⟨bv, 0, none⟩) 1 1, .slice none 0 0, .slice (some ⟨bm, 0, none⟩) 2 2] 75) at hw0
  rw [← hw0]
  clear hw0 HW
  refine (K1.out _).mono ?_
  rintro e w1 ⟨rfl, hb1⟩
  have hB1 := hb1
  have c0a := HC.out.over hB1 0 _ rfl
  have c1a := HC.out.over hB1 1 _ rfl
  have c2a := HC.out.over hB1 2 _ rfl
  have c3a := HC.out.over hB1 3 _ rfl
  have c4a := HC.out.over hB1 4 _ rfl
  have c5a := HC.out.over hB1 5 _ rfl
  have c6a := HC.out.over hB1 6 _ rfl
  have c7a := HC.out.over hB1 7 _ rfl
  clear hb1
  go_wp2_with fail
  refine (K2.out _).mono ?_
  rintro e wz ⟨rfl, rfl⟩
  go_wp2_with fail
  refine (K3.out _ _).mono ?_
  rintro e wz ⟨rfl, rfl⟩
  go_wp2_with fail
  go_loopw [53] (fun i wr => i = .int .i64 0 ∧ Below W0.heap.size W0 wr) (fun _ _ => 0)
  case atStart => exact ⟨rfl, hB1⟩
  case round =>
    clear c0a c1a c2a c3a c4a c5a c6a c7a hB1
    obtain ⟨rfl, hB1⟩ := hrel
    have c0b := HC.out.over hB1 0 _ rfl
    have c1b := HC.out.over hB1 1 _ rfl
    have c2b := HC.out.over hB1 2 _ rfl
    have c3b := HC.out.over hB1 3 _ rfl
    have c4b := HC.out.over hB1 4 _ rfl
    have c5b := HC.out.over hB1 5 _ rfl
    have c6b := HC.out.over hB1 6 _ rfl
    have c7b := HC.out.over hB1 7 _ rfl
    go_wp2_with fail
    refine (K4.out _ (HS.out.over hB1)).mono ?_
    rintro e w2 ⟨rfl, hb2⟩
    have hB2 := over_trans hB1 hb2
    clear hb2 c0b c1b c2b c3b c4b c5b c6b c7b
    have c0c := HC.out.over hB2 0 _ rfl
    have c1c := HC.out.over hB2 1 _ rfl
    have c2c := HC.out.over hB2 2 _ rfl
    have c3c := HC.out.over hB2 3 _ rfl
    have c4c := HC.out.over hB2 4 _ rfl
    have c5c := HC.out.over hB2 5 _ rfl
    have c6c := HC.out.over hB2 6 _ rfl
    have c7c := HC.out.over hB2 7 _ rfl
    go_wp2_with fail
    refine (K5.out _ (HS.out.over hB2)).mono ?_
    rintro e w3 ⟨rfl, hb2⟩
    have hB3 := over_trans hB2 hb2
    clear hb2 c0c c1c c2c c3c c4c c5c c6c c7c
    have c0d := HC.out.over hB3 0 _ rfl
    have c1d := HC.out.over hB3 1 _ rfl
    have c2d := HC.out.over hB3 2 _ rfl
    have c3d := HC.out.over hB3 3 _ rfl
    have c4d := HC.out.over hB3 4 _ rfl
    have c5d := HC.out.over hB3 5 _ rfl
    have c6d := HC.out.over hB3 6 _ rfl
    have c7d := HC.out.over hB3 7 _ rfl
    go_wp2_with fail
    go_loopw [73] (fun i wr => i = .int .i64 0 ∧ Below W0.heap.size W0 wr) (fun _ _ => 0)
    case atStart => exact ⟨rfl, hB3⟩
    case round =>
      clear c0d c1d c2d c3d c4d c5d c6d c7d hB1 hB2 hB3
      obtain ⟨rfl, hB1⟩ := hrel
      have c0e := HC.out.over hB1 0 _ rfl
      have c1e := HC.out.over hB1 1 _ rfl
      have c2e := HC.out.over hB1 2 _ rfl
      have c3e := HC.out.over hB1 3 _ rfl
      have c4e := HC.out.over hB1 4 _ rfl
      have c5e := HC.out.over hB1 5 _ rfl
      have c6e := HC.out.over hB1 6 _ rfl
      have c7e := HC.out.over hB1 7 _ rfl
      go_wp2_with fail
      refine (K6.out _ (HS.out.over hB1)).mono ?_
      rintro e w4 ⟨rfl, hb2⟩
      have hB2 := over_trans hB1 hb2
      clear hb2 c0e c1e c2e c3e c4e c5e c6e c7e
      go_wp2_with fail
      go_end0
      exact ⟨rfl, hbel.trans (hB2.mono hbel.size)⟩
end Go.Proofs.Ytpbnmmgocpobcaa.Ex

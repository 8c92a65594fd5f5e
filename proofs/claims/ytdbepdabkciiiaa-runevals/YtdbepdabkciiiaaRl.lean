/- The small run, all of it. -/
import Derived.Test.YtdbepdabkciiiaaRk
namespace Go.Proofs.Ytdbepdabkciiiaa.Ex
open Go.RowKit
set_option linter.unusedVariables false

/-- where the small run stands, ahead of a command. -/
def At (B : Nat) (j : Int) (br b1 b2 b3 bi bo bv bm bx : Nat) (w w' : World) : Prop :=
  (j = 0 ∧ Rn (rnC (.slice none 0 0) 0 2 b1 b2 b3 bi bo bv bm bx) 0 0 br b1 b2 b3 w' ∨ j = 1 ∧ Rn (rnC (.slice none 0 0) 1 2 b1 b2 b3 bi bo bv bm bx) 7 1 br b1 b2 b3 w' ∨
    j = 2 ∧ ∃ g c, B ≤ g ∧ g ≠ br ∧ Rn (rnC (.slice (some ⟨g, 0, none⟩) 1 c) 2 2 b1 b2 b3 bi bo bv bm bx) 7 1 br b1 b2 b3 w' ∧ RowAt [.int .i64 1, .int .i64 1, .int .i64 0, .int .i64 7] w' g) ∧ Below B w w'

theorem over_B {B : Nat} {w w1 w2 : World} (h : Below B w w1) (h2 : Below w1.heap.size w1 w2) (kw : B ≤ w.heap.size := by assumption) : Below B w w2 := h.trans (h2.mono (Nat.le_trans kw h.size))

set_option maxHeartbeats 8000000 in
set_option maxRecDepth 100000 in
theorem stmtsRun_small (B : Nat) (br b1 b2 b3 bi bo bv bm bx by' : Nat) (w : World) (h : Rn (rnC (.slice none 0 0) 0 2 b1 b2 b3 bi bo bv bm bx) 0 0 br b1 b2 b3 w) (hS : SmallIn bi bo bv bm bx by' w)
    (k : B ≤ br ∧ B ≤ b1 ∧ B ≤ b2 ∧ B ≤ w.heap.size) (km : bm < B ∧ bx < B ∧ by' < B) :
    Calls Try.prog 35 #[.pointer (some ⟨br, 0, none⟩), .slice (some ⟨bm, 0, none⟩) 2 2, .int .i64 0] w fun e w' => e = .returned (.bool true) ∧ At B 2 br b1 b2 b3 bi bo bv bm bx w w' := by
  obtain ⟨kr, k1, k2, kw⟩ := k
  obtain ⟨m1, m2, m3⟩ := km
  have HM := hide fun W (hB : Below B w W) (j : Nat) u (hu : mainCells[j]? = some u) => (hB.cell (p := ⟨bm, j, none⟩) m1).trans (hS.prog.main j u hu)
  have HX := hide fun W (hB : Below B w W) => (hB.cell (p := ⟨bx, 0, none⟩) m2).trans hS.lists
  have HY := hide fun W (hB : Below B w W) => (hB.cell (p := ⟨by', 0, none⟩) m3).trans hS.seven
  have HI : Hid (At B 0 br b1 b2 b3 bi bo bv bm bx w w) := ⟨Or.inl ⟨rfl, h⟩, Below.refl _ _⟩
  have K3 := hide size_small
  clear h hS
  go_enter Try.func35, Try.ntmps35
  go_wp2_with fail
  go_loopw [2, 11] (fun a i wr => ∃ j : Int, 0 ≤ j ∧ j ≤ 2 ∧ a = .int .i64 j ∧ i = .int .i64 j ∧ At B j br b1 b2 b3 bi bo bv bm bx w wr) (fun _ i _ => 2 - (intOf i).toNat)
  case atStart => exact ⟨0, by omega, by omega, rfl, rfl, HI.out⟩
  case round =>
    clear HI
    obtain ⟨j, hj0, hj, rfl, rfl, hA, hB⟩ := hrel
    rcases (by omega : j = 0 ∨ j = 1 ∨ j = 2) with rfl | rfl | rfl
    · have hR : Rn (rnC (.slice none 0 0) 0 2 b1 b2 b3 bi bo bv bm bx) 0 0 br b1 b2 b3 wr := by
        rcases hA with ⟨_, h⟩ | ⟨_, h⟩ | ⟨_, h⟩
        · exact h
        · omega
        · omega
      clear hA
      obtain ⟨l0, l1, l2, l3⟩ := hR.lt
      have nb0 : wr.heap.size ≠ br := by omega
      have nb1 : wr.heap.size ≠ b1 := by omega
      have nb2 : wr.heap.size ≠ b2 := by omega
      have hba := (Below.refl _ wr).alloc (Nat.le_refl _) (.cells #[.int .i64 3, .int .i64 0, .int .i64 0, .int .i64 0, .int .i64 0, .slice none 0 0, .slice none 0 0, .slice none 0 0, .slice none 0 0] 72)
      have hB1 := over_B hB hba
      have K1 := hide (step_small (.slice none 0 0) 0 0 0 br b1 b2 b3 bi bo bv bm bx _ (hR.over hba) ⟨by omega, by omega⟩)
      have m0 := HM.out wr hB 0 _ rfl
      have m1 := HM.out wr hB 1 _ rfl
      have m2 := HM.out wr hB 2 _ rfl
      have m3 := HM.out wr hB 3 _ rfl
      have m4 := HM.out wr hB 4 _ rfl
      have m5 := HM.out wr hB 5 _ rfl
      have m6 := HM.out wr hB 6 _ rfl
      have m7 := HM.out wr hB 7 _ rfl
      have m8 := HM.out wr hB 8 _ rfl
      have s0 : (wr.alloc (.cells #[.int .i64 3, .int .i64 0, .int .i64 0, .int .i64 0, .int .i64 0, .slice none 0 0, .slice none 0 0, .slice none 0 0, .slice none 0 0] 72)).cell? ⟨wr.heap.size, 0, none⟩ = some (.int .i64 3) := by simp [go_sem]
      have s1 : (wr.alloc (.cells #[.int .i64 3, .int .i64 0, .int .i64 0, .int .i64 0, .int .i64 0, .slice none 0 0, .slice none 0 0, .slice none 0 0, .slice none 0 0] 72)).cell? ⟨wr.heap.size, 1, none⟩ = some (.int .i64 0) := by simp [go_sem]
      have s2 : (wr.alloc (.cells #[.int .i64 3, .int .i64 0, .int .i64 0, .int .i64 0, .int .i64 0, .slice none 0 0, .slice none 0 0, .slice none 0 0, .slice none 0 0] 72)).cell? ⟨wr.heap.size, 2, none⟩ = some (.int .i64 0) := by simp [go_sem]
      have s3 : (wr.alloc (.cells #[.int .i64 3, .int .i64 0, .int .i64 0, .int .i64 0, .int .i64 0, .slice none 0 0, .slice none 0 0, .slice none 0 0, .slice none 0 0] 72)).cell? ⟨wr.heap.size, 3, none⟩ = some (.int .i64 0) := by simp [go_sem]
      have s4 : (wr.alloc (.cells #[.int .i64 3, .int .i64 0, .int .i64 0, .int .i64 0, .int .i64 0, .slice none 0 0, .slice none 0 0, .slice none 0 0, .slice none 0 0] 72)).cell? ⟨wr.heap.size, 4, none⟩ = some (.int .i64 0) := by simp [go_sem]
      have s5 : (wr.alloc (.cells #[.int .i64 3, .int .i64 0, .int .i64 0, .int .i64 0, .int .i64 0, .slice none 0 0, .slice none 0 0, .slice none 0 0, .slice none 0 0] 72)).cell? ⟨wr.heap.size, 5, none⟩ = some (.slice none 0 0) := by simp [go_sem]
      have s6 : (wr.alloc (.cells #[.int .i64 3, .int .i64 0, .int .i64 0, .int .i64 0, .int .i64 0, .slice none 0 0, .slice none 0 0, .slice none 0 0, .slice none 0 0] 72)).cell? ⟨wr.heap.size, 6, none⟩ = some (.slice none 0 0) := by simp [go_sem]
      have s7 : (wr.alloc (.cells #[.int .i64 3, .int .i64 0, .int .i64 0, .int .i64 0, .int .i64 0, .slice none 0 0, .slice none 0 0, .slice none 0 0, .slice none 0 0] 72)).cell? ⟨wr.heap.size, 7, none⟩ = some (.slice none 0 0) := by simp [go_sem]
      have s8 : (wr.alloc (.cells #[.int .i64 3, .int .i64 0, .int .i64 0, .int .i64 0, .int .i64 0, .slice none 0 0, .slice none 0 0, .slice none 0 0, .slice none 0 0] 72)).cell? ⟨wr.heap.size, 8, none⟩ = some (.slice none 0 0) := by simp [go_sem]
      clear hR
      go_wp2_with fail
      refine (K1.out).mono ?_
      rintro e w1 ⟨rfl, hr1, hg1⟩
      have hB2 := hB1.trans (grow_below hg1 (by simp; omega) kr)
      have t0 := grow_cell hg1 s0 nb0
      have t1 := grow_cell hg1 s1 nb0
      have t2 := grow_cell hg1 s2 nb0
      have t3 := grow_cell hg1 s3 nb0
      have t4 := grow_cell hg1 s4 nb0
      have t5 := grow_cell hg1 s5 nb0
      have t6 := grow_cell hg1 s6 nb0
      have t7 := grow_cell hg1 s7 nb0
      have t8 := grow_cell hg1 s8 nb0
      have K2 := hide (get_small 1 br b1 b2 b3 bi bo bv bm bx by' w1 hr1 (HX.out _ hB2) (HY.out _ hB2) (by omega))
      have hs1 : B ≤ w1.heap.size := Nat.le_trans kw hB2.size
      clear K1 hr1 hg1 hB hB1 hba m0 s0 m1 s1 m2 s2 m3 s3 m4 s4 m5 s5 m6 s6 m7 s7 m8 s8
      go_wp2_with fail
      refine (K2.out).mono ?_
      rintro e w2 ⟨rfl, hr2, hk2⟩
      have u0 := hk2.cell t0 nb0 nb1 nb2
      have u1 := hk2.cell t1 nb0 nb1 nb2
      have u2 := hk2.cell t2 nb0 nb1 nb2
      have u3 := hk2.cell t3 nb0 nb1 nb2
      have u4 := hk2.cell t4 nb0 nb1 nb2
      have u5 := hk2.cell t5 nb0 nb1 nb2
      have u6 := hk2.cell t6 nb0 nb1 nb2
      have u7 := hk2.cell t7 nb0 nb1 nb2
      have u8 := hk2.cell t8 nb0 nb1 nb2
      have hB3 := hB2.trans (hk2.below kr k1 k2 hs1)
      clear K2 hk2 t0 t1 t2 t3 t4 t5 t6 t7 t8
      go_wp2_with fail
      refine (K3.out _ _ _ _ _ _).mono ?_
      rintro e w3 ⟨rfl, hb3⟩
      have hs2 : B ≤ w2.heap.size := Nat.le_trans kw hB3.size
      have hB4 := hB3.trans (hb3.mono hs2)
      have HF : Hid (At B 1 br b1 b2 b3 bi bo bv bm bx w w3) := ⟨Or.inr (Or.inl ⟨rfl, hr2.over hb3⟩), hB4⟩
      clear hb3 hB4 hB3 hB2 hr2 u0 u1 u2 u3 u4 u5 u6 u7 u8
      go_wp2_with fail
      exact ⟨⟨1, by omega, by omega, by first | rfl | go_num, by first | rfl | go_num, HF.out⟩, by simp [intOf]⟩
    · have hR : Rn (rnC (.slice none 0 0) 1 2 b1 b2 b3 bi bo bv bm bx) 7 1 br b1 b2 b3 wr := by
        rcases hA with ⟨_, h⟩ | ⟨_, h⟩ | ⟨_, h⟩
        · omega
        · exact h
        · omega
      clear hA
      obtain ⟨l0, l1, l2, l3⟩ := hR.lt
      have nb0 : wr.heap.size ≠ br := by omega
      have nb1 : wr.heap.size ≠ b1 := by omega
      have nb2 : wr.heap.size ≠ b2 := by omega
      have hba := (Below.refl _ wr).alloc (Nat.le_refl _) (.cells #[.int .i64 4, .int .i64 0, .int .i64 0, .int .i64 2, .int .i64 0, .slice none 0 0, .slice none 0 0, .slice none 0 0, .slice none 0 0] 72)
      have hB1 := over_B hB hba
      have K1 := hide (step_small (.slice none 0 0) 1 7 1 br b1 b2 b3 bi bo bv bm bx _ (hR.over hba) ⟨by omega, by omega⟩)
      have m0 := HM.out wr hB 9 _ rfl
      have m1 := HM.out wr hB 10 _ rfl
      have m2 := HM.out wr hB 11 _ rfl
      have m3 := HM.out wr hB 12 _ rfl
      have m4 := HM.out wr hB 13 _ rfl
      have m5 := HM.out wr hB 14 _ rfl
      have m6 := HM.out wr hB 15 _ rfl
      have m7 := HM.out wr hB 16 _ rfl
      have m8 := HM.out wr hB 17 _ rfl
      have s0 : (wr.alloc (.cells #[.int .i64 4, .int .i64 0, .int .i64 0, .int .i64 2, .int .i64 0, .slice none 0 0, .slice none 0 0, .slice none 0 0, .slice none 0 0] 72)).cell? ⟨wr.heap.size, 0, none⟩ = some (.int .i64 4) := by simp [go_sem]
      have s1 : (wr.alloc (.cells #[.int .i64 4, .int .i64 0, .int .i64 0, .int .i64 2, .int .i64 0, .slice none 0 0, .slice none 0 0, .slice none 0 0, .slice none 0 0] 72)).cell? ⟨wr.heap.size, 1, none⟩ = some (.int .i64 0) := by simp [go_sem]
      have s2 : (wr.alloc (.cells #[.int .i64 4, .int .i64 0, .int .i64 0, .int .i64 2, .int .i64 0, .slice none 0 0, .slice none 0 0, .slice none 0 0, .slice none 0 0] 72)).cell? ⟨wr.heap.size, 2, none⟩ = some (.int .i64 0) := by simp [go_sem]
      have s3 : (wr.alloc (.cells #[.int .i64 4, .int .i64 0, .int .i64 0, .int .i64 2, .int .i64 0, .slice none 0 0, .slice none 0 0, .slice none 0 0, .slice none 0 0] 72)).cell? ⟨wr.heap.size, 3, none⟩ = some (.int .i64 2) := by simp [go_sem]
      have s4 : (wr.alloc (.cells #[.int .i64 4, .int .i64 0, .int .i64 0, .int .i64 2, .int .i64 0, .slice none 0 0, .slice none 0 0, .slice none 0 0, .slice none 0 0] 72)).cell? ⟨wr.heap.size, 4, none⟩ = some (.int .i64 0) := by simp [go_sem]
      have s5 : (wr.alloc (.cells #[.int .i64 4, .int .i64 0, .int .i64 0, .int .i64 2, .int .i64 0, .slice none 0 0, .slice none 0 0, .slice none 0 0, .slice none 0 0] 72)).cell? ⟨wr.heap.size, 5, none⟩ = some (.slice none 0 0) := by simp [go_sem]
      have s6 : (wr.alloc (.cells #[.int .i64 4, .int .i64 0, .int .i64 0, .int .i64 2, .int .i64 0, .slice none 0 0, .slice none 0 0, .slice none 0 0, .slice none 0 0] 72)).cell? ⟨wr.heap.size, 6, none⟩ = some (.slice none 0 0) := by simp [go_sem]
      have s7 : (wr.alloc (.cells #[.int .i64 4, .int .i64 0, .int .i64 0, .int .i64 2, .int .i64 0, .slice none 0 0, .slice none 0 0, .slice none 0 0, .slice none 0 0] 72)).cell? ⟨wr.heap.size, 7, none⟩ = some (.slice none 0 0) := by simp [go_sem]
      have s8 : (wr.alloc (.cells #[.int .i64 4, .int .i64 0, .int .i64 0, .int .i64 2, .int .i64 0, .slice none 0 0, .slice none 0 0, .slice none 0 0, .slice none 0 0] 72)).cell? ⟨wr.heap.size, 8, none⟩ = some (.slice none 0 0) := by simp [go_sem]
      clear hR
      go_wp2_with fail
      refine (K1.out).mono ?_
      rintro e w1 ⟨rfl, hr1, hg1⟩
      have hB2 := hB1.trans (grow_below hg1 (by simp; omega) kr)
      have t0 := grow_cell hg1 s0 nb0
      have t1 := grow_cell hg1 s1 nb0
      have t2 := grow_cell hg1 s2 nb0
      have t3 := grow_cell hg1 s3 nb0
      have t4 := grow_cell hg1 s4 nb0
      have t5 := grow_cell hg1 s5 nb0
      have t6 := grow_cell hg1 s6 nb0
      have t7 := grow_cell hg1 s7 nb0
      have t8 := grow_cell hg1 s8 nb0
      have K2 := hide (put_small 2 br b1 b2 b3 bi bo bv bm bx w1 hr1)
      have hs1 : B ≤ w1.heap.size := Nat.le_trans kw hB2.size
      clear K1 hr1 hg1 hB hB1 hba m0 s0 m1 s1 m2 s2 m3 s3 m4 s4 m5 s5 m6 s6 m7 s7 m8 s8
      go_wp2_with fail
      refine (K2.out).mono ?_
      rintro e w2 ⟨rfl, g, c, hr2, hrow, hgb, hgs, hk2⟩
      have u0 := hk2.cell t0 nb0 nb1 nb2
      have u1 := hk2.cell t1 nb0 nb1 nb2
      have u2 := hk2.cell t2 nb0 nb1 nb2
      have u3 := hk2.cell t3 nb0 nb1 nb2
      have u4 := hk2.cell t4 nb0 nb1 nb2
      have u5 := hk2.cell t5 nb0 nb1 nb2
      have u6 := hk2.cell t6 nb0 nb1 nb2
      have u7 := hk2.cell t7 nb0 nb1 nb2
      have u8 := hk2.cell t8 nb0 nb1 nb2
      have hB3 := hB2.trans (hk2.below kr k1 k2 hs1)
      clear K2 hk2 t0 t1 t2 t3 t4 t5 t6 t7 t8
      go_wp2_with fail
      refine (K3.out _ _ _ _ _ _).mono ?_
      rintro e w3 ⟨rfl, hb3⟩
      have hs2 : B ≤ w2.heap.size := Nat.le_trans kw hB3.size
      have hB4 := hB3.trans (hb3.mono hs2)
      have HF : Hid (At B 2 br b1 b2 b3 bi bo bv bm bx w w3) := ⟨Or.inr (Or.inr ⟨rfl, g, c, by omega, hgb, hr2.over hb3, hrow.over hb3⟩), hB4⟩
      clear hb3 hB4 hB3 hB2 hr2 hrow u0 u1 u2 u3 u4 u5 u6 u7 u8
      go_wp2_with fail
      exact ⟨⟨2, by omega, by omega, by first | rfl | go_num, by first | rfl | go_num, HF.out⟩, by simp [intOf]⟩
    · have HF : Hid (At B 2 br b1 b2 b3 bi bo bv bm bx w wr) := ⟨hA, hB⟩
      clear hA hB
      go_wp2_with fail
      go_ret
      exact ⟨rfl, HF.out⟩
end Go.Proofs.Ytdbepdabkciiiaa.Ex

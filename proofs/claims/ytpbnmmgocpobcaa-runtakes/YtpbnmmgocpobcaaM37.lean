/- The small run, all of it. -/
import Derived.Test.YtpbnmmgocpobcaaM27
import Derived.Test.YtpbnmmgocpobcaaM36
namespace Go.Proofs.Ytpbnmmgocpobcaa.Ex
open Go.RowKit
set_option linter.unusedVariables false

/-- where the small run stands, ahead of a command. -/
def At (B : Nat) (j : Int) (br b1 b2 b3 bi bo bv bm bx : Nat) (w w' : World) : Prop :=
  (j = 0 ∧ Rn (rnC (.slice none 0 0) 0 2 b1 b2 b3 bi bo bv bm bx) 0 0 br b1 b2 b3 w' ∨ j = 1 ∧ Rn (rnC (.slice none 0 0) 1 2 b1 b2 b3 bi bo bv bm bx) 7 1 br b1 b2 b3 w' ∨
    j = 2 ∧ ∃ g c, B ≤ g ∧ g ≠ br ∧ Rn (rnC (.slice (some ⟨g, 0, none⟩) 1 c) 2 2 b1 b2 b3 bi bo bv bm bx) 7 1 br b1 b2 b3 w' ∧ RowAt [.int .i64 1, .int .i64 1, .int .i64 0, .int .i64 7] w' g) ∧ Below B w w'

theorem over_B {B : Nat} {w w1 w2 : World} (h : Below B w w1) (h2 : Below w1.heap.size w1 w2) (kw : B ≤ w.heap.size := by assumption) : Below B w w2 := h.trans (h2.mono (Nat.le_trans kw h.size))

set_option maxHeartbeats 8000000 in
set_option maxRecDepth 100000 in
theorem stmtsRun_small (B : Nat) (br b1 b2 b3 bi bo bv bm bx by' : Nat) (w : World) (h : Rn (rnC (.slice none 0 0) 0 2 b1 b2 b3 bi bo bv bm bx) 0 0 br b1 b2 b3 w) (hS : SmallIn bi bo bv bm bx by' w)
    (k : B ≤ br ∧ B ≤ b1 ∧ B ≤ b2 ∧ B ≤ w.heap.size) (km : bm < B ∧ bx < B ∧ by' < B) :
    Calls Try.prog 23 #[.pointer (some ⟨br, 0, none⟩), .slice (some ⟨bm, 0, none⟩) 2 2, .int .i64 0] w fun e w' => e = .returned (.bool true) ∧ At B 2 br b1 b2 b3 bi bo bv bm bx w w' := by
  obtain ⟨kr, k1, k2, kw⟩ := k
  obtain ⟨m1, m2, m3⟩ := km
  have HM := hide fun W (hB : Below B w W) (j : Nat) u (hu : mainCells[j]? = some u) => (hB.cell (p := ⟨bm, j, none⟩) m1).trans (hS.prog.main j u hu)
  have HX := hide fun W (hB : Below B w W) => (hB.cell (p := ⟨bx, 0, none⟩) m2).trans hS.lists
  have HY := hide fun W (hB : Below B w W) => (hB.cell (p := ⟨by', 0, none⟩) m3).trans hS.seven
  have HI : Hid (At B 0 br b1 b2 b3 bi bo bv bm bx w w) := ⟨Or.inl ⟨rfl, h⟩, Below.refl _ _⟩
  have K3 := hide size_small
  clear h hS
  go_enter Try.func23, Try.ntmps23
  go_wp2_with fail
  go_loopw [2, 11] (fun a i wr => ∃ j : Int, 0 ≤ j ∧ j ≤ 2 ∧ a = .int .i64 j ∧ i = .int .i64 j ∧ At B j br b1 b2 b3 bi bo bv bm bx w wr) (fun _ i _ => 2 - (intOf i).toNat)
  case atStart => exact ⟨0, by omega, by omega, rfl, rfl, HI.out⟩
  case round =>
    clear HI
    obtain ⟨j, hj0, hj, rfl, rfl, hA, hB⟩ := hrel
    rcases (by omega : j = 0 ∨ j = 1 ∨ j = 2) with rfl | rfl | rfl
    · have hR : Rn (rnC (.slice none 0 0) 0 2 b1 b2 b3 bi bo bv bm bx) 0 0 br b1 b2 b3 wr := by
        rcases hA with ⟨_, h⟩ | ⟨_, h⟩ | ⟨_, h⟩
        · exact h
        · omega
        · omega
      clear hA
      obtain ⟨l0, l1, l2, l3⟩ := hR.lt
      have nb0 : wr.heap.size ≠ br := by omega
      have nb1 : wr.heap.size ≠ b1 := by omega
      have nb2 : wr.heap.size ≠ b2 := by omega
      have hba := (Below.refl _ wr).alloc (Nat.le_refl _) (.cells #[.int .i64 3, .int .i64 0, .int .i64 0, .int .i64 0, .int .i64 0, .slice none 0 0, .slice none 0 0, .slice none 0 0, .slice none 0 0] 71)
      have hB1 := over_B hB hba
      have K1 := hide (step_small (.slice none 0 0) 0 0 0 br b1 b2 b3 bi bo bv bm bx _ (hR.over hba) ⟨by omega, by omega⟩)
      have m0 := HM.out wr hB 0 _ rfl
      have m1 := HM.out wr hB 1 _ rfl
      have m2 := HM.out wr hB 2 _ rfl
      have m3 := HM.out wr hB 3 _ rfl
      have m4 := HM.out wr hB 4 _ rfl
      have m5 := HM.out wr hB 5 _ rfl
      have m6 := HM.out wr hB 6 _ rfl
      have m7 := HM.out wr hB 7 _ rfl
      have m8 := HM.out wr hB 8 _ rfl
      have s0 : (wr.alloc (.cells #[.int .i64 3, .int .i64 0, .int .i64 0, .int .i64 0, .int .i64 0, .slice none 0 0, .slice none 0 0, .slice none 0 0, .slice none 0 0] 71)).cell? ⟨wr.heap.size, 0, none⟩ = some (.int .i64 3) := by simp [go_sem]
      have s1 : (wr.alloc (.cells #[.int .i64 3, .int .i64 0, .int .i64 0, .int .i64 0, .int .i64 0, .slice none 0 0, .slice none 0 0, .slice none 0 0, .slice none 0 0] 71)).cell? ⟨wr.heap.size, 1, none⟩ = some (.int .i64 0) := by simp [go_sem]
      have s2 : (wr.alloc (.cells #[.int .i64 3, .int .i64 0, .int .i64 0, .int .i64 0, .int .i64 0, .slice none 0 0, .slice none 0 0, .slice none 0 0, .slice none 0 0] 71)).cell? ⟨wr.heap.size, 2, none⟩ = some (.int .i64 0) := by simp [go_sem]
      have s3 : (wr.alloc (.cells #[.int .i64 3, .int .i64 0, .int .i64 0, .int .i64 0, .int .i64 0, .slice none 0 0, .slice none 0 0, .slice none 0 0, .slice none 0 0] 71)).cell? ⟨wr.heap.size, 3, none⟩ = some (.int .i64 0) := by simp [go_sem]
      have s4 : (wr.alloc (.cells #[.int .i64 3, .int .i64 0, .int .i64 0, .int .i64 0, .int .i64 0, .slice none 0 0, .slice none 0 0, .slice none 0 0, .slice none 0 0] 71)).cell? ⟨wr.heap.size, 4, none⟩ = some (.int .i64 0) := by simp [go_sem]
      have s5 : (wr.alloc (.cells #[.int .i64 3, .int .i64 0, .int .i64 0, .int .i64 0, .int .i64 0, .slice none 0 0, .slice none 0 0, .slice none 0 0, .slice none 0 0] 71)).cell? ⟨wr.heap.size, 5, none⟩ = some (.slice none 0 0) := by simp [go_sem]
      have s6 : (wr.alloc (.cells #[.int .i64 3, .int .i64 0, .int .i64 0, .int .i64 0, .int .i64 0, .slice none 0 0, .slice none 0 0, .slice none 0 0, .slice none 0 0] 71)).cell? ⟨wr.heap.size, 6, none⟩ = some (.slice none 0 0) := by simp [go_sem]
      have s7 : (wr.alloc (.cells #[.int .i64 3, .int .i64 0, .int .i64 0, .int .i64 0, .int .i64 0, .slice none 0 0, .slice none 0 0, .slice none 0 0, .slice none 0 0] 71)).cell? ⟨wr.heap.size, 7, none⟩ = some (.slice none 0 0) := by simp [go_sem]
      have s8 : (wr.alloc (.cells #[.int .i64 3, .int .i64 0, .int .i64 0, .int .i64 0, .int .i64 0, .slice none 0 0, .slice none 0 0, .slice none 0 0, .slice none 0 0] 71)).cell? ⟨wr.heap.size, 8, none⟩ = some (.slice none 0 0) := by simp [go_sem]
      clear hR
      go_wp2_with fail
      refine (K1.out).mono ?_
      rintro e w1 ⟨rfl, hr1, hg1⟩
      have hB2 := hB1.trans (grow_below hg1 (by simp; omega) kr)
      have t0 := grow_cell hg1 s0 nb0
      have t1 := grow_cell hg1 s1 nb0
      have t2 := grow_cell hg1 s2 nb0
      have t3 := grow_cell hg1 s3 nb0
      have t4 := grow_cell hg1 s4 nb0
      have t5 := grow_cell hg1 s5 nb0
      have t6 := grow_cell hg1 s6 nb0
      have t7 := grow_cell hg1 s7 nb0
      have t8 := grow_cell hg1 s8 nb0
      have K2 := hide (get_small 1 br b1 b2 b3 bi bo bv bm bx by' w1 hr1 (HX.out _ hB2) (HY.out _ hB2) (by omega))
      have hs1 : B ≤ w1.heap.size := Nat.le_trans kw hB2.size
      clear K1 hr1 hg1 hB hB1 hba m0 s0 m1 s1 m2 s2 m3 s3 m4 s4 m5 s5 m6 s6 m7 s7 m8 s8
      go_wp2_with fail
      refine (K2.out).mono ?_
      rintro e w2 ⟨rfl, hr2, hk2⟩
      have u0 := hk2.cell t0 nb0 nb1 nb2
      have u1 := hk2.cell t1 nb0 nb1 nb2
      have u2 := hk2.cell t2 nb0 nb1 nb2
      have u3 := hk2.cell t3 nb0 nb1 nb2
      have u4 := hk2.cell t4 nb0 nb1 nb2
      have u5 := hk2.cell t5 nb0 nb1 nb2
      have u6 := hk2.cell t6 nb0 nb1 nb2
      have u7 := hk2.cell t7 nb0 nb1 nb2
      have u8 := hk2.cell t8 nb0 nb1 nb2
      have hB3 := hB2.trans (hk2.below kr k1 k2 hs1)
      clear K2 hk2 t0 t1 t2 t3 t4 t5 t6 t7 t8
      go_wp2_with fail
      refine (K3.out _ _ _ _ _ _).mono ?_
      rintro e w3 ⟨rfl, hb3⟩
      have hs2 : B ≤ w2.heap.size := Nat.le_trans kw hB3.size
      have hB4 := hB3.trans (hb3.mono hs2)
      have HF : Hid (At B 1 br b1 b2 b3 bi bo bv bm bx w w3) := ⟨Or.inr (Or.inl ⟨rfl, hr2.over hb3⟩), hB4⟩
      clear hb3 hB4 hB3 hB2 hr2 u0 u1 u2 u3 u4 u5 u6 u7 u8
      go_wp2_with fail
      exact ⟨⟨1, by omega, by omega, by first | rfl | go_num, by first | rfl | go_num, HF.out⟩, by simp [intOf]⟩
    · have hR : Rn (rnC (.slice none 0 0) 1 2 b1 b2 b3 bi bo bv bm bx) 7 1 br b1 b2 b3 wr := by
        rcases hA with ⟨_, h⟩ | ⟨_, h⟩ | ⟨_, h⟩
        · omega
        · exact h
        · omega
      clear hA
      obtain ⟨l0, l1, l2, l3⟩ := hR.lt
      have nb0 : wr.heap.size ≠ br := by omega
      have nb1 : wr.heap.size ≠ b1 := by omega
      have nb2 : wr.heap.size ≠ b2 := by omega
      have hba := (Below.refl _ wr).alloc (Nat.le_refl _) (.cells #[.int .i64 4, .int .i64 0, .int .i64 0, .int .i64 2, .int .i64 0, .slice none 0 0, .slice none 0 0, .slice none 0 0, .slice none 0 0] 71)
      have hB1 := over_B hB hba
      have K1 := hide (step_small (.slice none 0 0) 1 7 1 br b1 b2 b3 bi bo bv bm bx _ (hR.over hba) ⟨by omega, by omega⟩)
      have m0 := HM.out wr hB 9 _ rfl
      have m1 := HM.out wr hB 10 _ rfl
      have m2 := HM.out wr hB 11 _ rfl
      have m3 := HM.out wr hB 12 _ rfl
      have m4 := HM.out wr hB 13 _ rfl
      have m5 := HM.out wr hB 14 _ rfl
      have m6 := HM.out wr hB 15 _ rfl
      have m7 := HM.out wr hB 16 _ rfl
      have m8 := HM.out wr hB 17 _ rfl
      have s0 : (wr.alloc (.cells #[.int .i64 4, .int .i64 0, .int .i64 0, .int .i64 2, .int .i64 0, .slice none 0 0, .slice none 0 0, .slice none 0 0, .slice none 0 0] 71)).cell? ⟨wr.heap.size, 0, none⟩ = some (.int .i64 4) := by simp [go_sem]
      have s1 : (wr.alloc (.cells #[.int .i64 4, .int .i64 0, .int .i64 0, .int .i64 2, .int .i64 0, .slice none 0 0, .slice none 0 0, .slice none 0 0, .slice none 0 0] 71)).cell? ⟨wr.heap.size, 1, none⟩ = some (.int .i64 0) := by simp [go_sem]
      have s2 : (wr.alloc (.cells #[.int .i64 4, .int .i64 0, .int .i64 0, .int .i64 2, .int .i64 0, .slice none 0 0, .slice none 0 0, .slice none 0 0, .slice none 0 0] 71)).cell? ⟨wr.heap.size, 2, none⟩ = some (.int .i64 0) := by simp [go_sem]
      have s3 : (wr.alloc (.cells #[.int .i64 4, .int .i64 0, .int .i64 0, .int .i64 2, .int .i64 0, .slice none 0 0, .slice none 0 0, .slice none 0 0, .slice none 0 0] 71)).cell? ⟨wr.heap.size, 3, none⟩ = some (.int .i64 2) := by simp [go_sem]
      have s4 : (wr.alloc (.cells #[.int .i64 4, .int .i64 0, .int .i64 0, .int .i64 2, .int .i64 0, .slice none 0 0, .slice none 0 0, .slice none 0 0, .slice none 0 0] 71)).cell? ⟨wr.heap.size, 4, none⟩ = some (.int .i64 0) := by simp [go_sem]
      have s5 : (wr.alloc (.cells #[.int .i64 4, .int .i64 0, .int .i64 0, .int .i64 2, .int .i64 0, .slice none 0 0, .slice none 0 0, .slice none 0 0, .slice none 0 0] 71)).cell? ⟨wr.heap.size, 5, none⟩ = some (.slice none 0 0) := by simp [go_sem]
      have s6 : (wr.alloc (.cells #[.int .i64 4, .int .i64 0, .int .i64 0, .int .i64 2, .int .i64 0, .slice none 0 0, .slice none 0 0, .slice none 0 0, .slice none 0 0] 71)).cell? ⟨wr.heap.size, 6, none⟩ = some (.slice none 0 0) := by simp [go_sem]
      have s7 : (wr.alloc (.cells #[.int .i64 4, .int .i64 0, .int .i64 0, .int .i64 2, .int .i64 0, .slice none 0 0, .slice none 0 0, .slice none 0 0, .slice none 0 0] 71)).cell? ⟨wr.heap.size, 7, none⟩ = some (.slice none 0 0) := by simp [go_sem]
      have s8 : (wr.alloc (.cells #[.int .i64 4, .int .i64 0, .int .i64 0, .int .i64 2, .int .i64 0, .slice none 0 0, .slice none 0 0, .slice none 0 0, .slice none 0 0] 71)).cell? ⟨wr.heap.size, 8, none⟩ = some (.slice none 0 0) := by simp [go_sem]
      clear hR
      go_wp2_with fail
      refine (K1.out).mono ?_
      rintro e w1 ⟨rfl, hr1, hg1⟩
      have hB2 := hB1.trans (grow_below hg1 (by simp; omega) kr)
      have t0 := grow_cell hg1 s0 nb0
      have t1 := grow_cell hg1 s1 nb0
      have t2 := grow_cell hg1 s2 nb0
      have t3 := grow_cell hg1 s3 nb0
      have t4 := grow_cell hg1 s4 nb0
      have t5 := grow_cell hg1 s5 nb0
      have t6 := grow_cell hg1 s6 nb0
      have t7 := grow_cell hg1 s7 nb0
      have t8 := grow_cell hg1 s8 nb0
      have K2 := hide (put_small 2 br b1 b2 b3 bi bo bv bm bx w1 hr1)
      have hs1 : B ≤ w1.heap.size := Nat.le_trans kw hB2.size
      clear K1 hr1 hg1 hB hB1 hba m0 s0 m1 s1 m2 s2 m3 s3 m4 s4 m5 s5 m6 s6 m7 s7 m8 s8
      go_wp2_with fail
      refine (K2.out).mono ?_
      rintro e w2 ⟨rfl, g, c, hr2, hrow, hgb, hgs, hk2⟩
      have u0 := hk2.cell t0 nb0 nb1 nb2
      have u1 := hk2.cell t1 nb0 nb1 nb2
      have u2 := hk2.cell t2 nb0 nb1 nb2
      have u3 := hk2.cell t3 nb0 nb1 nb2
      have u4 := hk2.cell t4 nb0 nb1 nb2
      have u5 := hk2.cell t5 nb0 nb1 nb2
      have u6 := hk2.cell t6 nb0 nb1 nb2
      have u7 := hk2.cell t7 nb0 nb1 nb2
      have u8 := hk2.cell t8 nb0 nb1 nb2
      have hB3 := hB2.trans (hk2.below kr k1 k2 hs1)
      clear K2 hk2 t0 t1 t2 t3 t4 t5 t6 t7 t8
      go_wp2_with fail
      refine (K3.out _ _ _ _ _ _).mono ?_
      rintro e w3 ⟨rfl, hb3⟩
      have hs2 : B ≤ w2.heap.size := Nat.le_trans kw hB3.size
      have hB4 := hB3.trans (hb3.mono hs2)
      have HF : Hid (At B 2 br b1 b2 b3 bi bo bv bm bx w w3) := ⟨Or.inr (Or.inr ⟨rfl, g, c, by omega, hgb, hr2.over hb3, hrow.over hb3⟩), hB4⟩
      clear hb3 hB4 hB3 hB2 hr2 hrow u0 u1 u2 u3 u4 u5 u6 u7 u8
      go_wp2_with fail
      exact ⟨⟨2, by omega, by omega, by first | rfl | go_num, by first | rfl | go_num, HF.out⟩, by simp [intOf]⟩
    · have HF : Hid (At B 2 br b1 b2 b3 bi bo bv bm bx w wr) := ⟨hA, hB⟩
      clear hA hB
      go_wp2_with fail
      go_ret
      exact ⟨rfl, HF.out⟩
end Go.Proofs.Ytpbnmmgocpobcaa.Ex
/- run.Run of the small program. -/
namespace Go.Proofs.Ytpbnmmgocpobcaa.Ex
open Go.RowKit
set_option linter.unusedVariables false

/-- the small run was done. -/
def Done (B : Nat) (br b1 b2 b3 bi bo bv bm bx : Nat) (w w' : World) : Prop :=
  ∃ g c, B ≤ g ∧ g ≠ br ∧ Rn (rnC (.slice (some ⟨g, 0, none⟩) 1 c) 2 1 b1 b2 b3 bi bo bv bm bx) 7 1 br b1 b2 b3 w' ∧ RowAt [.int .i64 1, .int .i64 1, .int .i64 0, .int .i64 7] w' g ∧ Below B w w'

theorem at2 {B : Nat} {br b1 b2 b3 bi bo bv bm bx : Nat} {w w' : World} (h : At B 2 br b1 b2 b3 bi bo bv bm bx w w') :
    ∃ g c, B ≤ g ∧ g ≠ br ∧ Rn (rnC (.slice (some ⟨g, 0, none⟩) 1 c) 2 2 b1 b2 b3 bi bo bv bm bx) 7 1 br b1 b2 b3 w' ∧ RowAt [.int .i64 1, .int .i64 1, .int .i64 0, .int .i64 7] w' g ∧ Below B w w' := by
  obtain ⟨h, hB⟩ := h
  rcases h with ⟨h, _⟩ | ⟨h, _⟩ | ⟨_, g, c, h1, h2, h3, h4⟩
  · omega
  · omega
  · exact ⟨g, c, h1, h2, h3, h4, hB⟩

set_option maxHeartbeats 4000000 in
set_option maxRecDepth 100000 in
theorem run_small (B : Nat) (br b1 b2 b3 bi bo bv bm bx by' : Nat) (w : World) (h : Rn (rnC (.slice none 0 0) 0 0 b1 b2 b3 bi bo bv bm bx) 0 0 br b1 b2 b3 w) (hS : SmallIn bi bo bv bm bx by' w)
    (k : B ≤ br ∧ B ≤ b1 ∧ B ≤ b2 ∧ B ≤ w.heap.size) (km : bm < B ∧ bx < B ∧ by' < B) (hsmall : SmallIn bi bo bv bm bx by' (w.setCell ⟨br, 4, none⟩ (.int .i64 2))) :
    Calls Try.prog 11 #[.pointer (some ⟨br, 0, none⟩)] w fun e w' => e = .returned (.tuple #[]) ∧ Done B br b1 b2 b3 bi bo bv bm bx w w' := by
  have h' : Rn (rnC (.slice none 0 0) 0 2 b1 b2 b3 bi bo bv bm bx) 0 0 br b1 b2 b3 (w.setCell ⟨br, 4, none⟩ (.int .i64 2)) := h.setR (j := 4) (u := .int .i64 2) (by omega)
  have KS := hide fun n => stmtsRun_small B br b1 b2 b3 bi bo bv bm bx by' ((w.setCell ⟨br, 4, none⟩ (.int .i64 2)).drewN n) h'.drewN ⟨⟨fun j u hu => hsmall.prog.ins j u hu, fun j u hu => hsmall.prog.outs j u hu, fun j u hu => hsmall.prog.vars j u hu, fun j u hu => hsmall.prog.main j u hu⟩, hsmall.lists, hsmall.seven⟩ ⟨k.1, k.2.1, k.2.2.1, by simpa [World.setCell] using k.2.2.2⟩ km
  have c4 := h.row 4 _ rfl
  have z4 := h.z 4
  have l0 := h.lt.1
  have a12 := h'.row 12 _ rfl
  have a13 := h'.row 13 _ rfl
  have a16 := h'.row 16 _ rfl
  have f0 := h'.f 0 _ rfl
  clear h h' hS hsmall
  go_enter Try.func11, Try.ntmps11
  go_wp2_with fail
  go_region_held3 (fun W => W.cell? ⟨br, 12, none⟩ = some (.slice none 0 0) ∧ W.cell? ⟨br, 13, none⟩ = some (.slice (some ⟨bm, 0, none⟩) 2 2) ∧ W.cell? ⟨br, 16, none⟩ = some (.slice (some ⟨b3, 0, none⟩) 1 1) ∧ W.cell? ⟨b3, 0, none⟩ = some (.int .i64 0)) (first | assumption | exact ⟨a12, a13, a16, f0⟩ | exact ⟨hrn.row 12 _ rfl, hrn.row 13 _ rfl, hrn.row 16 _ rfl, hrn.f 0 _ rfl⟩ | fail) (first | (go_at_call 23; refine (KS.out 1).mono ?_; rintro e wp ⟨rfl, hAt⟩; obtain ⟨g, c, hgB, hgr, hrn, hrow, hbl⟩ := at2 hAt))
  have d4 := hrn.row 4 _ rfl
  have y4 := hrn.z 4
  have y0 := hrn.lt.1
  have HR := hide (hrn.setR (j := 4) (u := .int .i64 1) (by omega))
  have HW := hide (hrow.other (b' := br) (j := 4) (v := .int .i64 1) hgr)
  clear hAt KS
  go_wp2_with fail
  go_end0
  refine ⟨rfl, g, c, hgB, hgr, HR.out, HW.out, ?_⟩
  have hb0 : Below B w ((w.setCell ⟨br, 4, none⟩ (.int .i64 2)).drewN 1) := below_drewN ((Below.refl _ w).setCell k.1 _) 1
  exact (hb0.trans hbl).setCell k.1 _

theorem SmallIn.set {bi bo bv bm bx by' br : Nat} {u : Value} {w : World} (h : SmallIn bi bo bv bm bx by' w) (hb : bi ≠ br ∧ bo ≠ br ∧ bv ≠ br ∧ bm ≠ br ∧ bx ≠ br ∧ by' ≠ br) (j : Nat) : SmallIn bi bo bv bm bx by' (w.setCell ⟨br, j, none⟩ u) := by
  obtain ⟨h1, h2, h3, h4, h5, h6⟩ := hb
  refine ⟨⟨h.prog.ins.other h1, h.prog.outs.other h2, h.prog.vars.other h3, h.prog.main.other h4⟩, ?_, ?_⟩
  · have := h.lists
    simp [go_sem, this]
  · have := h.seven
    simp [go_sem, this]

/-- what the small run answers. -/
def Ran (B : Nat) (w : World) (e : Ending) (w' : World) : Prop :=
  ∃ g c b1 b2, e = .returned (.tuple #[.agg #[.slice (some ⟨g, 0, none⟩) 1 c, .slice (some ⟨b1, 0, none⟩) 1 1, .slice (some ⟨b2, 0, none⟩) 1 1, .int .i64 2, .int .i64 1, .int .i64 0], .int .i64 0]) ∧ RowAt [.int .i64 1, .int .i64 1, .int .i64 0, .int .i64 7] w' g ∧ w'.cell? ⟨b2, 0, none⟩ = some (.int .i64 1) ∧ Below B w w'

set_option maxHeartbeats 4000000 in
set_option maxRecDepth 100000 in
theorem Run_small (bi bo bv bm bx by' : Nat) (w : World) (hS : SmallIn bi bo bv bm bx by' w) :
    Calls Try.prog 5 #[smallV bi bo bv bm, .slice (some ⟨bx, 0, none⟩) 1 1, .int .i64 9] w (Ran w.heap.size w) := by
  obtain ⟨W0, hW0⟩ : ∃ q, q = (w.alloc (.cells (smallC bi bo bv bm).toArray 31)).alloc (.cells [.slice none 0 0, .slice none 0 0, .slice none 0 0, .int .i64 0, .int .i64 0, .int .i64 0].toArray 35) := ⟨_, rfl⟩
  have hbel : Below w.heap.size w W0 := by rw [hW0]; exact ((Below.refl _ w).alloc (Nat.le_refl _) _).alloc (by simp) _
  have HC : Hid (RowAt (smallC bi bo bv bm) W0 w.heap.size) := by
    rw [hW0]
    exact (RowAt.new _ 31 w).over ((Below.refl _ _).alloc (Nat.le_refl _) _)
  have HO : Hid (RowAt [.slice none 0 0, .slice none 0 0, .slice none 0 0, .int .i64 0, .int .i64 0, .int .i64 0] W0 (w.heap.size + 1)) := by
    rw [hW0]
    have r := RowAt.new [.slice none 0 0, .slice none 0 0, .slice none 0 0, .int .i64 0, .int .i64 0, .int .i64 0] 35 (w.alloc (.cells (smallC bi bo bv bm).toArray 31))
    have hs : (w.alloc (.cells (smallC bi bo bv bm).toArray 31)).heap.size = w.heap.size + 1 := by simp
    rw [hs] at r
    exact r
  have HZ : Hid (∀ j, W0.frozen? ⟨w.heap.size + 1, j, none⟩ = false) := fun j => by rw [hW0]; simp [go_sem]
  have hw2 : W0.heap.size = w.heap.size + 1 + 1 := by rw [hW0]; simp
  have hS0 := hS.over hbel
  have li : bi < W0.heap.size := World.block_lt_of_cell? W0 _ (hS0.prog.ins 0 _ rfl)
  have lo : bo < W0.heap.size := World.block_lt_of_cell? W0 _ (hS0.prog.outs 0 _ rfl)
  have lv : bv < W0.heap.size := World.block_lt_of_cell? W0 _ (hS0.prog.vars 0 _ rfl)
  have lm : bm < W0.heap.size := World.block_lt_of_cell? W0 _ (hS0.prog.main 0 _ rfl)
  have lx : bx < W0.heap.size := World.block_lt_of_cell? W0 _ hS0.lists
  have ly : by' < W0.heap.size := World.block_lt_of_cell? W0 _ hS0.seven
  have HS := hide hS0
  have K1 := hide (runCheck_small bi bo bv bm bx by' W0 hS0)
  have K2 := hide fun W => newRunner_small bi bo bv bm bx W
  have HW := hide hW0
  clear hW0 hS hS0
  unfold smallV at K1 K2 ⊢
  go_enter Try.func5, Try.ntmps5
  go_wp2_with fail
  have hw0 := HW.out
  change W0 = (w.alloc (.cells #[.int .i64 1, .slice none 0 0, .slice none 0 0, .slice (some ⟨bi, 0, none⟩) 1 1, .slice (some ⟨bo, 0, none⟩) 1 1, .slice (some ⟨bv, 0, none⟩) 1 1, .slice none 0 0, .slice (some ⟨bm, 0, none⟩) 2 2] 31)).alloc (.cells #[.slice none 0 0, .slice none 0 0, .slice none 0 0, .int .i64 0, .int .i64 0, .int .i64 0] 35) at hw0
  rw [← hw0]
  clear hw0 HW
  refine (K1.out).mono ?_
  rintro e w1 ⟨rfl, hb1⟩
  have hB1 := hb1
  have c0 := HC.out.over hb1 0 _ rfl
  have c1 := HC.out.over hb1 1 _ rfl
  have c2 := HC.out.over hb1 2 _ rfl
  have c3 := HC.out.over hb1 3 _ rfl
  have c4 := HC.out.over hb1 4 _ rfl
  have c5 := HC.out.over hb1 5 _ rfl
  have c6 := HC.out.over hb1 6 _ rfl
  have c7 := HC.out.over hb1 7 _ rfl
  clear hb1 K1 HC
  go_wp2_with fail
  refine (K2.out _).mono ?_
  rintro e w2 ⟨br, b1, b2, b3, rfl, r0, r1, r2, r3, hR, hb2⟩
  have hB2 := hB1.trans (hb2.mono hB1.size)
  have hs1 := hB1.size
  have hS2 := HS.out.over hB2
  have K3 := hide (run_small W0.heap.size br b1 b2 b3 bi bo bv bm bx by' w2 hR hS2 ⟨by omega, by omega, by omega, hB2.size⟩ ⟨lm, lx, ly⟩ (hS2.set ⟨by omega, by omega, by omega, by omega, by omega, by omega⟩ 4))
  clear K2 hR hb2 hB1 c0 c1 c2 c3 c4 c5 c6 c7 hS2
  go_wp2_with fail
  refine (K3.out).mono ?_
  rintro e w3 ⟨rfl, g, c, hg, hgr, hR, hrow, hb3⟩
  have hB3 := hB2.trans hb3
  have d0 := hR.row 0 _ rfl
  have d1 := hR.row 1 _ rfl
  have d2 := hR.row 2 _ rfl
  have d3 := hR.row 3 _ rfl
  have d4 := hR.row 4 _ rfl
  have d5 := hR.row 5 _ rfl
  have HTR := hide hR.t
  have HG := hide hrow
  have hl0 := hR.lt.1
  have HO3 := hide (HO.out.over hB3)
  have lo1 : w.heap.size + 1 < w3.heap.size := by have := hB3.size; omega
  have o0 := HO3.out 0 _ rfl
  have y0 := ((bcell hB3).2 (w.heap.size + 1) 0 (by omega)).trans (HZ.out 0)
  have o1 := HO3.out 1 _ rfl
  have y1 := ((bcell hB3).2 (w.heap.size + 1) 1 (by omega)).trans (HZ.out 1)
  have o2 := HO3.out 2 _ rfl
  have y2 := ((bcell hB3).2 (w.heap.size + 1) 2 (by omega)).trans (HZ.out 2)
  have o3 := HO3.out 3 _ rfl
  have y3 := ((bcell hB3).2 (w.heap.size + 1) 3 (by omega)).trans (HZ.out 3)
  have o4 := HO3.out 4 _ rfl
  have y4 := ((bcell hB3).2 (w.heap.size + 1) 4 (by omega)).trans (HZ.out 4)
  have o5 := HO3.out 5 _ rfl
  have y5 := ((bcell hB3).2 (w.heap.size + 1) 5 (by omega)).trans (HZ.out 5)
  clear K3 hb3 hB2 hR hrow
  go_wp2_with fail
  have hgw : g ≠ w.heap.size + 1 := by omega
  have h2w : b2 ≠ w.heap.size + 1 := by omega
  have hF := ((((((HO3.out.set (j := 0) (v := .slice (some ⟨g, 0, none⟩) 1 c) (by simp)).set (j := 1) (v := .slice (some ⟨b1, 0, none⟩) 1 1) (by simp)).set (j := 2) (v := .slice (some ⟨b2, 0, none⟩) 1 1) (by simp)).set (j := 3) (v := .int .i64 2) (by simp)).set (j := 4) (v := .int .i64 1) (by simp)).set (j := 5) (v := .int .i64 0) (by simp))
  have hG := ((((((HG.out.other (b' := w.heap.size + 1) (j := 0) (v := .slice (some ⟨g, 0, none⟩) 1 c) hgw).other (b' := w.heap.size + 1) (j := 1) (v := .slice (some ⟨b1, 0, none⟩) 1 1) hgw).other (b' := w.heap.size + 1) (j := 2) (v := .slice (some ⟨b2, 0, none⟩) 1 1) hgw).other (b' := w.heap.size + 1) (j := 3) (v := .int .i64 2) hgw).other (b' := w.heap.size + 1) (j := 4) (v := .int .i64 1) hgw).other (b' := w.heap.size + 1) (j := 5) (v := .int .i64 0) hgw)
  have hT := ((((((HTR.out.other (b' := w.heap.size + 1) (j := 0) (v := .slice (some ⟨g, 0, none⟩) 1 c) h2w).other (b' := w.heap.size + 1) (j := 1) (v := .slice (some ⟨b1, 0, none⟩) 1 1) h2w).other (b' := w.heap.size + 1) (j := 2) (v := .slice (some ⟨b2, 0, none⟩) 1 1) h2w).other (b' := w.heap.size + 1) (j := 3) (v := .int .i64 2) h2w).other (b' := w.heap.size + 1) (j := 4) (v := .int .i64 1) h2w).other (b' := w.heap.size + 1) (j := 5) (v := .int .i64 0) h2w)
  have e0 := hF 0 _ rfl
  have e1 := hF 1 _ rfl
  have e2 := hF 2 _ rfl
  have e3 := hF 3 _ rfl
  have e4 := hF 4 _ rfl
  have e5 := hF 5 _ rfl
  have hBf : Below w.heap.size w ((((((w3.setCell ⟨w.heap.size + 1, 0, none⟩ (.slice (some ⟨g, 0, none⟩) 1 c)).setCell ⟨w.heap.size + 1, 1, none⟩ (.slice (some ⟨b1, 0, none⟩) 1 1)).setCell ⟨w.heap.size + 1, 2, none⟩ (.slice (some ⟨b2, 0, none⟩) 1 1)).setCell ⟨w.heap.size + 1, 3, none⟩ (.int .i64 2)).setCell ⟨w.heap.size + 1, 4, none⟩ (.int .i64 1)).setCell ⟨w.heap.size + 1, 5, none⟩ (.int .i64 0)) := ((((((hbel.trans (hB3.mono hbel.size)).setCell (by simp) _).setCell (by simp) _).setCell (by simp) _).setCell (by simp) _).setCell (by simp) _).setCell (by simp) _
  refine bodyPost_ret (v := .tuple #[.agg #[.slice (some ⟨g, 0, none⟩) 1 c, .slice (some ⟨b1, 0, none⟩) 1 1, .slice (some ⟨b2, 0, none⟩) 1 1, .int .i64 2, .int .i64 1, .int .i64 0], .int .i64 0]) ?_ rfl ⟨g, c, b1, b2, rfl, hG, hT 0 _ rfl, hBf⟩
  generalize ((((((w3.setCell ⟨w.heap.size + 1, 0, none⟩ (.slice (some ⟨g, 0, none⟩) 1 c)).setCell ⟨w.heap.size + 1, 1, none⟩ (.slice (some ⟨b1, 0, none⟩) 1 1)).setCell ⟨w.heap.size + 1, 2, none⟩ (.slice (some ⟨b2, 0, none⟩) 1 1)).setCell ⟨w.heap.size + 1, 3, none⟩ (.int .i64 2)).setCell ⟨w.heap.size + 1, 4, none⟩ (.int .i64 1)).setCell ⟨w.heap.size + 1, 5, none⟩ (.int .i64 0)) = WF at e0 e1 e2 e3 e4 e5 ⊢
  simp [results, Try.results5, go_sem, e0, e1, e2, e3, e4, e5]
end Go.Proofs.Ytpbnmmgocpobcaa.Ex

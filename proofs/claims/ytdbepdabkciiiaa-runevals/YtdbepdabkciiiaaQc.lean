/- The program's own check of an expression: all of it. -/
import Derived.Test.YtdbepdabkciiiaaQb
namespace Go.Proofs.Ytdbepdabkciiiaa.Ex
open Go.RowKit
set_option linter.unusedVariables false

set_option maxHeartbeats 4000000 in
set_option maxRecDepth 100000 in
theorem part_any (vars : Int) (v0 : 0 ≤ vars) (v1 : vars ≤ 9223372036854775807) : ∀ (k : Nat) (cs : List Value) (d : D) (w : World), RX w k cs d →
    Calls Try.prog 19 #[.agg cs.toArray, .int .i64 vars] w fun e w' => e = .returned (.int .i64 (firstX vars (listX k d))) ∧ Below w.heap.size w w' := by
  intro k
  induction k with
  | zero => intro cs d w h; exact h.elim
  | succ k ih =>
    intro cs d w h
    obtain ⟨kd, n, v, ds, rfl, rfl, hkd, hn, hlen, ao, cap, rfl, hc⟩ := h
    have hspec : firstX vars (listX (k + 1) (xD kd n ds)) = if errX vars kd n ds.length = 0 then restX vars k ds else errX vars kd n ds.length := by
      rw [restX_flat]
      rfl
    rw [hspec]
    show Calls Try.prog 19 #[.agg #[.int .i64 kd, .int .i64 n, .slice ao ds.length cap], .int .i64 vars] w _
    by_cases hE : errX vars kd n ds.length = 0
    · rw [if_pos hE]
      have hz := errX_zero hE
      cases ds with
      | nil => exact part_leaf vars kd n cap ao w v0 v1 hE
      | cons d0 dr =>
        have hk3 : 3 ≤ kd ∧ kd ≤ 7 ∧ (d0 :: dr).length = 2 ∧ n = 0 := by
          rcases hz with ⟨rfl, _, _⟩ | ⟨rfl, _, _⟩ | ⟨z1, z2, z3⟩
          · exfalso
            unfold errX at hE
            rw [if_neg (by omega), if_pos (by simp)] at hE
            omega
          · exfalso
            unfold errX at hE
            rw [if_neg (by omega), if_pos (by simp)] at hE
            omega
          · refine ⟨z1, z2, z3, ?_⟩
            rw [z3] at hE
            unfold errX at hE
            rw [if_neg (by omega), if_neg (by omega)] at hE
            by_cases q : n = 0
            · exact q
            · rw [if_pos (by omega)] at hE
              omega
        obtain ⟨k1, k2, z3, rfl⟩ := hk3
        obtain ⟨ds, hds⟩ : ∃ q, q = d0 :: dr := ⟨_, rfl⟩
        rw [← hds] at hc z3 ⊢
        rw [z3]
        have HC := hide hc
        have IH := hide ih
        have KA := hide fun W => args_any kd W
        have ka : argsX kd = 2 := by unfold argsX; rw [if_neg (by omega)]
        rw [ka] at KA
        have hbel : Below w.heap.size w (w.alloc (.cells #[.int .i64 kd, .int .i64 0, .slice ao 2 cap] 24)) := (Below.refl _ w).alloc (Nat.le_refl _) _
        have e0 : (w.alloc (.cells #[.int .i64 kd, .int .i64 0, .slice ao 2 cap] 24)).cell? ⟨w.heap.size, 0, none⟩ = some (.int .i64 kd) := by simp [go_sem]
        have e1 : (w.alloc (.cells #[.int .i64 kd, .int .i64 0, .slice ao 2 cap] 24)).cell? ⟨w.heap.size, 1, none⟩ = some (.int .i64 0) := by simp [go_sem]
        have e2 : (w.alloc (.cells #[.int .i64 kd, .int .i64 0, .slice ao 2 cap] 24)).cell? ⟨w.heap.size, 2, none⟩ = some (.slice ao 2 cap) := by simp [go_sem]
        have n1 : kd ≠ 1 := by omega
        have n2 : kd ≠ 2 := by omega
        obtain ⟨R, hR⟩ : ∃ q, q = restX vars k ds := ⟨_, rfl⟩
        have HR := hide hR
        have HZ := hide z3
        rw [← hR]
        clear hc ih hspec hE hz hlen hkd hn ka hds z3 hR
        go_enter Try.func19, Try.ntmps19
        go_wp2_with fail
        go_region_held3 (fun W => W.cell? ⟨w.heap.size, 0, none⟩ = some (.int .i64 kd) ∧ W.cell? ⟨w.heap.size, 1, none⟩ = some (.int .i64 0) ∧ W.cell? ⟨w.heap.size, 2, none⟩ = some (.slice ao 2 cap) ∧ Below w.heap.size w W) (first | assumption | exact ⟨e0, e1, e2, below_drewN hbel 1⟩ | fail) (first | (go_at_call 28; refine (KA.out _).mono ?_; rintro e wp ⟨rfl, rfl⟩))
        obtain ⟨g0, g1, g2, hB⟩ := (by assumption : _ ∧ _ ∧ _ ∧ Below _ _ _)
        go_wp2_with fail
        go_loopw [67] (fun i wr => ∃ (j : Nat), j ≤ 2 ∧ i = .int .i64 j ∧ R = restX vars k (ds.drop j) ∧ Below w.heap.size w wr) (fun i _ => 2 - (intOf i).toNat)
        case atStart => exact ⟨0, Nat.zero_le _, rfl, HR.out, hB⟩
        case round =>
          clear hB g0 g1 g2
          obtain ⟨j, hj, rfl, hp, hB⟩ := hrel
          have HP := hide hp
          clear hp
          by_cases hjl : j < 2
          · have hjd : j < ds.length := by rw [HZ.out]; exact hjl
            obtain ⟨b, off, rfl, hcl⟩ := HC.out (by rintro rfl; simp at hjd)
            obtain ⟨cs, hl3, hcs, hr⟩ := hcl j ds[j] (List.getElem?_eq_getElem hjd)
            obtain ⟨ao', cap', hcse⟩ := hr.form
            have hnext := restX_drop (vars := vars) (k := k) hjd
            obtain ⟨dj, hdj⟩ : ∃ dj, dj = ds[j] := ⟨_, rfl⟩
            rw [← hdj] at hnext hr hcse
            obtain ⟨kj, hkj⟩ : ∃ q, q = kindOf dj := ⟨_, rfl⟩
            obtain ⟨nj, hnj⟩ : ∃ q, q = numOf dj := ⟨_, rfl⟩
            obtain ⟨lj, hlj⟩ : ∃ q, q = (argsOf dj).length := ⟨_, rfl⟩
            rw [← hkj, ← hnj, ← hlj] at hcse
            subst hcse
            have q0 : wr.cell? ⟨b, off + j * 3, none⟩ = _ := cell_over hB _ _ (hcs 0 _ rfl)
            have q1 := cell_over hB _ _ (hcs 1 _ rfl)
            have q2 := cell_over hB _ _ (hcs 2 _ rfl)
            have hba : Below wr.heap.size wr (wr.alloc (.cells #[.int .i64 kj, .int .i64 nj, .slice ao' lj cap'] 24)) := (Below.refl _ wr).alloc (Nat.le_refl _) _
            have hBa : Below w.heap.size w (wr.alloc (.cells #[.int .i64 kj, .int .i64 nj, .slice ao' lj cap'] 24)) := hB.trans (hba.mono hB.size)
            have hcall := IH.out _ dj _ (hr.over hBa)
            obtain ⟨r, hre⟩ : ∃ r, r = firstX vars (listX k dj) := ⟨_, rfl⟩
            rw [← hre] at hcall hnext
            have HCALL := hide hcall
            have HN := hide hnext
            clear hcall hnext hre hkj hnj hlj hr hcs hcl hl3 hdj hjd
            by_cases hr0 : r = 0
            · subst hr0
              go_wp2_with fail
              refine (HCALL.out).mono ?_
              rintro e w1 ⟨rfl, hb1⟩
              have hB' : Below w.heap.size w w1 := hBa.trans (hb1.mono hBa.size)
              clear q0 q1 q2 hB hb1 HCALL hba hBa
              go_wp2_with fail
              exact ⟨⟨j + 1, by omega, by go_num, by rw [HP.out, HN.out]; rfl, hB'⟩, by simp [intOf]; omega⟩
            · have hd : R = r := by rw [HP.out, HN.out, if_neg hr0]
              subst hd
              clear HP HN HR
              go_wp2_with fail
              refine (HCALL.out).mono ?_
              rintro e w1 ⟨rfl, hb1⟩
              have hB' : Below w.heap.size w w1 := hBa.trans (hb1.mono hBa.size)
              clear q0 q1 q2 hB hb1 HCALL hba hBa
              go_wp2_with fail
              go_ret
              exact ⟨rfl, hB'⟩
          · have hd : R = 0 := by
              rw [HP.out, List.drop_eq_nil_of_le (by rw [HZ.out]; omega)]
              rfl
            subst hd
            clear HP HR
            go_wp2_with fail
            go_ret
            exact ⟨rfl, hB⟩
    · rw [if_neg hE]
      exact part_head vars kd n ds.length cap ao w v0 v1 hlen hkd hn hE

set_option maxHeartbeats 1000000 in
set_option maxRecDepth 100000 in
theorem check_any (k : Nat) (cs : List Value) (d : D) (w : World) (vars : Int) (v0 : 0 ≤ vars) (v1 : vars ≤ 9223372036854775807) (h : RX w k cs d) :
    Calls Try.prog 8 #[.agg cs.toArray, .int .i64 vars] w fun e w' => e = .returned (.int .i64 (checkX vars k d)) ∧ Below w.heap.size w w' := by
  have K1 := hide fun W hB => left_any k cs d W 15 (h.over hB) (by omega) (by omega)
  have K2 := hide fun W hB => part_any vars v0 v1 k cs d W (h.over hB)
  obtain ⟨ao, cap, rfl⟩ := h.form
  obtain ⟨kd, hkd⟩ : ∃ q, q = kindOf d := ⟨_, rfl⟩
  obtain ⟨n, hn⟩ : ∃ q, q = numOf d := ⟨_, rfl⟩
  obtain ⟨dl, hdl⟩ : ∃ q, q = (argsOf d).length := ⟨_, rfl⟩
  rw [← hkd, ← hn, ← hdl] at K1 K2 ⊢
  clear hkd hn hdl
  obtain ⟨p, hp⟩ : ∃ q, q = partsX k d 15 := ⟨_, rfl⟩
  have hspec : checkX vars k d = if 15 < p then 2 else firstX vars (listX k d) := by rw [hp]; rfl
  rw [← hp] at K1
  have hple := partsX_le k d 15 (by omega)
  rw [← hp] at hple
  obtain ⟨z, hz⟩ : ∃ z, z = 15 - p := ⟨_, rfl⟩
  rw [← hz] at K1
  clear hp
  have e0 : (w.alloc (.cells #[.int .i64 kd, .int .i64 n, .slice ao dl cap] 24)).cell? ⟨w.heap.size, 0, none⟩ = some (.int .i64 kd) := by simp [go_sem]
  have e1 : (w.alloc (.cells #[.int .i64 kd, .int .i64 n, .slice ao dl cap] 24)).cell? ⟨w.heap.size, 1, none⟩ = some (.int .i64 n) := by simp [go_sem]
  have e2 : (w.alloc (.cells #[.int .i64 kd, .int .i64 n, .slice ao dl cap] 24)).cell? ⟨w.heap.size, 2, none⟩ = some (.slice ao dl cap) := by simp [go_sem]
  have hbel : Below w.heap.size w (w.alloc (.cells #[.int .i64 kd, .int .i64 n, .slice ao dl cap] 24)) := (Below.refl _ w).alloc (Nat.le_refl _) _
  by_cases hq : 15 < p
  · rw [hspec, if_pos hq]
    have hneg : z < 0 := by omega
    clear hspec K2 hq hz hple
    show Calls Try.prog 8 #[.agg #[.int .i64 kd, .int .i64 n, .slice ao dl cap], .int .i64 vars] w _
    go_enter Try.func8, Try.ntmps8
    go_wp2_with fail
    refine (K1.out _ hbel).mono ?_
    rintro e w1 ⟨rfl, hb1⟩
    have hB1 : Below w.heap.size w w1 := hbel.trans (hb1.mono hbel.size)
    clear hb1 K1
    go_wp2_with fail
    go_ret
    exact ⟨rfl, hB1⟩
  · rw [hspec, if_neg hq]
    have hneg : ¬ z < 0 := by omega
    obtain ⟨R, hR⟩ : ∃ q, q = firstX vars (listX k d) := ⟨_, rfl⟩
    rw [← hR] at K2 ⊢
    clear hspec hq hR hz hple
    show Calls Try.prog 8 #[.agg #[.int .i64 kd, .int .i64 n, .slice ao dl cap], .int .i64 vars] w _
    go_enter Try.func8, Try.ntmps8
    go_wp2_with fail
    refine (K1.out _ hbel).mono ?_
    rintro e w1 ⟨rfl, hb1⟩
    have hB1 : Below w.heap.size w w1 := hbel.trans (hb1.mono hbel.size)
    have g0 := cell_over hb1 _ _ e0
    have g1 := cell_over hb1 _ _ e1
    have g2 := cell_over hb1 _ _ e2
    clear hb1 K1 e0 e1 e2
    go_wp2_with fail
    refine (K2.out _ hB1).mono ?_
    rintro e w2 ⟨rfl, hb2⟩
    have hB2 : Below w.heap.size w w2 := hB1.trans (hb2.mono hB1.size)
    clear hb2 K2
    go_wp2_with fail
    go_ret
    exact ⟨rfl, hB2⟩
end Go.Proofs.Ytdbepdabkciiiaa.Ex

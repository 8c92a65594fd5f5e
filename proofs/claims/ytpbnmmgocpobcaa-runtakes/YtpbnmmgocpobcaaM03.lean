/- The program's own check of an expression: all of it. -/
import Derived.Test.YtpbnmmgocpobcaaM02
namespace Go.Proofs.Ytpbnmmgocpobcaa.Ex
open Go.RowKit
set_option linter.unusedVariables false

set_option maxHeartbeats 4000000 in
set_option maxRecDepth 100000 in
theorem part_any (vars : Int) (v0 : 0 ≤ vars) (v1 : vars ≤ 9223372036854775807) : ∀ (k : Nat) (cs : List Value) (d : D) (w : World), RX w k cs d →
    Calls Try.prog 35 #[.agg cs.toArray, .int .i64 vars] w fun e w' => e = .returned (.int .i64 (firstX vars (listX k d))) ∧ Below w.heap.size w w' := by
  intro k
  induction k with
  | zero => intro cs d w h; exact h.elim
  | succ k ih =>
    intro cs d w h
    obtain ⟨kd, n, v, ds, rfl, rfl, hkd, hn, hlen, ao, cap, rfl, hc⟩ := h
    have hspec : firstX vars (listX (k + 1) (xD kd n ds)) = if errX vars kd n ds.length = 0 then restX vars k ds else errX vars kd n ds.length := by
      rw [restX_flat]
      rfl
    rw [hspec]
    show Calls Try.prog 35 #[.agg #[.int .i64 kd, .int .i64 n, .slice ao ds.length cap], .int .i64 vars] w _
    by_cases hE : errX vars kd n ds.length = 0
    · rw [if_pos hE]
      have hz := errX_zero hE
      cases ds with
      | nil => exact part_leaf vars kd n cap ao w v0 v1 hE
      | cons d0 dr =>
        have hk3 : 3 ≤ kd ∧ kd ≤ 7 ∧ (d0 :: dr).length = 2 ∧ n = 0 := by
          rcases hz with ⟨rfl, _, _⟩ | ⟨rfl, _, _⟩ | ⟨z1, z2, z3⟩
          · exfalso
            unfold errX at hE
            rw [if_neg (by omega), if_pos (by simp)] at hE
            omega
          · exfalso
            unfold errX at hE
            rw [if_neg (by omega), if_pos (by simp)] at hE
            omega
          · refine ⟨z1, z2, z3, ?_⟩
            rw [z3] at hE
            unfold errX at hE
            rw [if_neg (by omega), if_neg (by omega)] at hE
            by_cases q : n = 0
            · exact q
            · rw [if_pos (by omega)] at hE
              omega
        obtain ⟨k1, k2, z3, rfl⟩ := hk3
        obtain ⟨ds, hds⟩ : ∃ q, q = d0 :: dr := ⟨_, rfl⟩
        rw [← hds] at hc z3 ⊢
        rw [z3]
        have HC := hide hc
        have IH := hide ih
        have KA := hide fun W => args_any kd W
        have ka : argsX kd = 2 := by unfold argsX; rw [if_neg (by omega)]
        rw [ka] at KA
        have hbel : Below w.heap.size w (w.alloc (.cells #[.int .i64 kd, .int .i64 0, .slice ao 2 cap] 54)) := (Below.refl _ w).alloc (Nat.le_refl _) _
        have e0 : (w.alloc (.cells #[.int .i64 kd, .int .i64 0, .slice ao 2 cap] 54)).cell? ⟨w.heap.size, 0, none⟩ = some (.int .i64 kd) := by simp [go_sem]
        have e1 : (w.alloc (.cells #[.int .i64 kd, .int .i64 0, .slice ao 2 cap] 54)).cell? ⟨w.heap.size, 1, none⟩ = some (.int .i64 0) := by simp [go_sem]
        have e2 : (w.alloc (.cells #[.int .i64 kd, .int .i64 0, .slice ao 2 cap] 54)).cell? ⟨w.heap.size, 2, none⟩ = some (.slice ao 2 cap) := by simp [go_sem]
        have n1 : kd ≠ 1 := by omega
        have n2 : kd ≠ 2 := by omega
        obtain ⟨R, hR⟩ : ∃ q, q = restX vars k ds := ⟨_, rfl⟩
        have HR := hide hR
        have HZ := hide z3
        rw [← hR]
        clear hc ih hspec hE hz hlen hkd hn ka hds z3 hR
        go_enter Try.func35, Try.ntmps35
        go_wp2_with fail
        go_region_held3 (fun W => W.cell? ⟨w.heap.size, 0, none⟩ = some (.int .i64 kd) ∧ W.cell? ⟨w.heap.size, 1, none⟩ = some (.int .i64 0) ∧ W.cell? ⟨w.heap.size, 2, none⟩ = some (.slice ao 2 cap) ∧ Below w.heap.size w W) (first | assumption | exact ⟨e0, e1, e2, below_drewN hbel 1⟩ | fail) (first | (go_at_call 51; refine (KA.out _).mono ?_; rintro e wp ⟨rfl, rfl⟩))
        obtain ⟨g0, g1, g2, hB⟩ := (by assumption : _ ∧ _ ∧ _ ∧ Below _ _ _)
        go_wp2_with fail
        go_loopw [67] (fun i wr => ∃ (j : Nat), j ≤ 2 ∧ i = .int .i64 j ∧ R = restX vars k (ds.drop j) ∧ Below w.heap.size w wr) (fun i _ => 2 - (intOf i).toNat)
        case atStart => exact ⟨0, Nat.zero_le _, rfl, HR.out, hB⟩
        case round =>
          clear hB g0 g1 g2
          obtain ⟨j, hj, rfl, hp, hB⟩ := hrel
          have HP := hide hp
          clear hp
          by_cases hjl : j < 2
          · have hjd : j < ds.length := by rw [HZ.out]; exact hjl
            obtain ⟨b, off, rfl, hcl⟩ := HC.out (by rintro rfl; simp at hjd)
            obtain ⟨cs, hl3, hcs, hr⟩ := hcl j ds[j] (List.getElem?_eq_getElem hjd)
            obtain ⟨ao', cap', hcse⟩ := hr.form
            have hnext := restX_drop (vars := vars) (k := k) hjd
            obtain ⟨dj, hdj⟩ : ∃ dj, dj = ds[j] := ⟨_, rfl⟩
            rw [← hdj] at hnext hr hcse
            obtain ⟨kj, hkj⟩ : ∃ q, q = kindOf dj := ⟨_, rfl⟩
            obtain ⟨nj, hnj⟩ : ∃ q, q = numOf dj := ⟨_, rfl⟩
            obtain ⟨lj, hlj⟩ : ∃ q, q = (argsOf dj).length := ⟨_, rfl⟩
            rw [← hkj, ← hnj, ← hlj] at hcse
            subst hcse
            have q0 : wr.cell? ⟨b, off + j * 3, none⟩ = _ := cell_over hB _ _ (hcs 0 _ rfl)
            have q1 := cell_over hB _ _ (hcs 1 _ rfl)
            have q2 := cell_over hB _ _ (hcs 2 _ rfl)
            have hba : Below wr.heap.size wr (wr.alloc (.cells #[.int .i64 kj, .int .i64 nj, .slice ao' lj cap'] 54)) := (Below.refl _ wr).alloc (Nat.le_refl _) _
            have hBa : Below w.heap.size w (wr.alloc (.cells #[.int .i64 kj, .int .i64 nj, .slice ao' lj cap'] 54)) := hB.trans (hba.mono hB.size)
            have hcall := IH.out _ dj _ (hr.over hBa)
            obtain ⟨r, hre⟩ : ∃ r, r = firstX vars (listX k dj) := ⟨_, rfl⟩
            rw [← hre] at hcall hnext
            have HCALL := hide hcall
            have HN := hide hnext
            clear hcall hnext hre hkj hnj hlj hr hcs hcl hl3 hdj hjd
            by_cases hr0 : r = 0
            · subst hr0
              go_wp2_with fail
              refine (HCALL.out).mono ?_
              rintro e w1 ⟨rfl, hb1⟩
              have hB' : Below w.heap.size w w1 := hBa.trans (hb1.mono hBa.size)
              clear q0 q1 q2 hB hb1 HCALL hba hBa
              go_wp2_with fail
              exact ⟨⟨j + 1, by omega, by go_num, by rw [HP.out, HN.out]; rfl, hB'⟩, by simp [intOf]; omega⟩
            · have hd : R = r := by rw [HP.out, HN.out, if_neg hr0]
              subst hd
              clear HP HN HR
              go_wp2_with fail
              refine (HCALL.out).mono ?_
              rintro e w1 ⟨rfl, hb1⟩
              have hB' : Below w.heap.size w w1 := hBa.trans (hb1.mono hBa.size)
              clear q0 q1 q2 hB hb1 HCALL hba hBa
              go_wp2_with fail
              go_ret
              exact ⟨rfl, hB'⟩
          · have hd : R = 0 := by
              rw [HP.out, List.drop_eq_nil_of_le (by rw [HZ.out]; omega)]
              rfl
            subst hd
            clear HP HR
            go_wp2_with fail
            go_ret
            exact ⟨rfl, hB⟩
    · rw [if_neg hE]
      exact part_head vars kd n ds.length cap ao w v0 v1 hlen hkd hn hE

set_option maxHeartbeats 1000000 in
set_option maxRecDepth 100000 in
theorem check_any (k : Nat) (cs : List Value) (d : D) (w : World) (vars : Int) (v0 : 0 ≤ vars) (v1 : vars ≤ 9223372036854775807) (h : RX w k cs d) :
    Calls Try.prog 24 #[.agg cs.toArray, .int .i64 vars] w fun e w' => e = .returned (.int .i64 (checkX vars k d)) ∧ Below w.heap.size w w' := by
  have K1 := hide fun W hB => left_any k cs d W 15 (h.over hB) (by omega) (by omega)
  have K2 := hide fun W hB => part_any vars v0 v1 k cs d W (h.over hB)
  obtain ⟨ao, cap, rfl⟩ := h.form
  obtain ⟨kd, hkd⟩ : ∃ q, q = kindOf d := ⟨_, rfl⟩
  obtain ⟨n, hn⟩ : ∃ q, q = numOf d := ⟨_, rfl⟩
  obtain ⟨dl, hdl⟩ : ∃ q, q = (argsOf d).length := ⟨_, rfl⟩
  rw [← hkd, ← hn, ← hdl] at K1 K2 ⊢
  clear hkd hn hdl
  obtain ⟨p, hp⟩ : ∃ q, q = partsX k d 15 := ⟨_, rfl⟩
  have hspec : checkX vars k d = if 15 < p then 2 else firstX vars (listX k d) := by rw [hp]; rfl
  rw [← hp] at K1
  have hple := partsX_le k d 15 (by omega)
  rw [← hp] at hple
  obtain ⟨z, hz⟩ : ∃ z, z = 15 - p := ⟨_, rfl⟩
  rw [← hz] at K1
  clear hp
  have e0 : (w.alloc (.cells #[.int .i64 kd, .int .i64 n, .slice ao dl cap] 54)).cell? ⟨w.heap.size, 0, none⟩ = some (.int .i64 kd) := by simp [go_sem]
  have e1 : (w.alloc (.cells #[.int .i64 kd, .int .i64 n, .slice ao dl cap] 54)).cell? ⟨w.heap.size, 1, none⟩ = some (.int .i64 n) := by simp [go_sem]
  have e2 : (w.alloc (.cells #[.int .i64 kd, .int .i64 n, .slice ao dl cap] 54)).cell? ⟨w.heap.size, 2, none⟩ = some (.slice ao dl cap) := by simp [go_sem]
  have hbel : Below w.heap.size w (w.alloc (.cells #[.int .i64 kd, .int .i64 n, .slice ao dl cap] 54)) := (Below.refl _ w).alloc (Nat.le_refl _) _
  by_cases hq : 15 < p
  · rw [hspec, if_pos hq]
    have hneg : z < 0 := by omega
    clear hspec K2 hq hz hple
    show Calls Try.prog 24 #[.agg #[.int .i64 kd, .int .i64 n, .slice ao dl cap], .int .i64 vars] w _
    go_enter Try.func24, Try.ntmps24
    go_wp2_with fail
    refine (K1.out _ hbel).mono ?_
    rintro e w1 ⟨rfl, hb1⟩
    have hB1 : Below w.heap.size w w1 := hbel.trans (hb1.mono hbel.size)
    clear hb1 K1
    go_wp2_with fail
    go_ret
    exact ⟨rfl, hB1⟩
  · rw [hspec, if_neg hq]
    have hneg : ¬ z < 0 := by omega
    obtain ⟨R, hR⟩ : ∃ q, q = firstX vars (listX k d) := ⟨_, rfl⟩
    rw [← hR] at K2 ⊢
    clear hspec hq hR hz hple
    show Calls Try.prog 24 #[.agg #[.int .i64 kd, .int .i64 n, .slice ao dl cap], .int .i64 vars] w _
    go_enter Try.func24, Try.ntmps24
    go_wp2_with fail
    refine (K1.out _ hbel).mono ?_
    rintro e w1 ⟨rfl, hb1⟩
    have hB1 : Below w.heap.size w w1 := hbel.trans (hb1.mono hbel.size)
    have g0 := cell_over hb1 _ _ e0
    have g1 := cell_over hb1 _ _ e1
    have g2 := cell_over hb1 _ _ e2
    clear hb1 K1 e0 e1 e2
    go_wp2_with fail
    refine (K2.out _ hB1).mono ?_
    rintro e w2 ⟨rfl, hb2⟩
    have hB2 : Below w.heap.size w w2 := hB1.trans (hb2.mono hB1.size)
    clear hb2 K2
    go_wp2_with fail
    go_ret
    exact ⟨rfl, hB2⟩
end Go.Proofs.Ytpbnmmgocpobcaa.Ex
/- The program's own value of an expression. -/
namespace Go.Proofs.Ytpbnmmgocpobcaa.Ex
open Go.RowKit
set_option linter.unusedVariables false

set_option maxHeartbeats 400000 in
theorem oneIf_any (b : Bool) (w : World) : Calls Try.prog 52 #[.bool b] w fun e w' => e = .returned (.int .i64 (if b then 1 else 0)) ∧ w' = w := by
  cases b
  · go_enter Try.func52, Try.ntmps52
    go_wp2
    go_ret
    exact ⟨rfl, rfl⟩
  · go_enter Try.func52, Try.ntmps52
    go_wp2
    go_ret
    exact ⟨rfl, rfl⟩

theorem wraps (z : Int) : wrap64 (RowKit.wrap32 z) = wrap32 z := by
  have h := wrap32_in z
  have e : RowKit.wrap32 z = wrap32 z := by
    simp only [RowKit.wrap32, wrap32]
  rw [e]
  simp only [wrap64]
  omega

set_option maxHeartbeats 4000000 in
theorem reckon_any (k a b : Int) (ha : I32 a) (hb : I32 b) (hk : 3 ≤ k ∧ k ≤ 7) (w : World) : Calls Try.prog 36 #[.int .i64 k, .int .i64 a, .int .i64 b] w fun e w' => e = .returned (.int .i64 (opX k a b)) ∧ w' = w := by
  obtain ⟨a1, a2⟩ := ha
  obtain ⟨b1, b2⟩ := hb
  rcases (by omega : k = 3 ∨ k = 4 ∨ k = 5 ∨ k = 6 ∨ k = 7) with rfl | rfl | rfl | rfl | rfl
  · go_enter Try.func36, Try.ntmps36
    go_wp2_with fail
    go_ret
    refine ⟨?_, rfl⟩
    show Ending.returned (Value.int IntKind.i64 (wrap64 (RowKit.wrap32 (a + b)))) = _
    rw [wraps]
    rfl
  · go_enter Try.func36, Try.ntmps36
    go_wp2_with fail
    go_ret
    refine ⟨?_, rfl⟩
    show Ending.returned (Value.int IntKind.i64 (wrap64 (RowKit.wrap32 (a - b)))) = _
    rw [wraps]
    rfl
  · go_enter Try.func36, Try.ntmps36
    go_wp2_with fail
    go_ret
    refine ⟨?_, rfl⟩
    show Ending.returned (Value.int IntKind.i64 (wrap64 (RowKit.wrap32 (a * b)))) = _
    rw [wraps]
    rfl
  · by_cases h : a < b
    · have KO := hide fun W => oneIf_any true W
      go_enter Try.func36, Try.ntmps36
      go_wp2_with fail
      refine (KO.out _).mono ?_
      rintro e w1 ⟨rfl, rfl⟩
      go_wp2_with fail
      go_ret
      exact ⟨by simp [opX, h], rfl⟩
    · have KO := hide fun W => oneIf_any false W
      go_enter Try.func36, Try.ntmps36
      go_wp2_with fail
      refine (KO.out _).mono ?_
      rintro e w1 ⟨rfl, rfl⟩
      go_wp2_with fail
      go_ret
      exact ⟨by simp [opX, h], rfl⟩
  · by_cases h : a = b
    · have KO := hide fun W => oneIf_any true W
      have hb : (a == b) = true := by simpa using h
      go_enter Try.func36, Try.ntmps36
      go_wp2_with fail
      try rw [hb]
      refine (KO.out _).mono ?_
      rintro e w1 ⟨rfl, rfl⟩
      go_wp2_with fail
      go_ret
      exact ⟨by simp [opX, h], rfl⟩
    · have KO := hide fun W => oneIf_any false W
      have hb : (a == b) = false := by simpa using h
      go_enter Try.func36, Try.ntmps36
      go_wp2_with fail
      try rw [hb]
      refine (KO.out _).mono ?_
      rintro e w1 ⟨rfl, rfl⟩
      go_wp2_with fail
      go_ret
      exact ⟨by simp [opX, h], rfl⟩

set_option maxHeartbeats 1000000 in
set_option maxRecDepth 100000 in
theorem pval_leaf (cs : List Value) (d : D) (k : Nat) (w : World) (vv : Value) (vs : List Int) (h : RX w (k + 1) cs d) (hi : IsInts w vv vs) (hk : (kindOf d = 1) ∨ (kindOf d = 2 ∧ 0 ≤ numOf d ∧ numOf d < vs.length)) :
    Calls Try.prog 25 #[.agg cs.toArray, vv] w fun e w' => e = .returned (.int .i64 (valX vs (k + 1) d)) ∧ Below w.heap.size w w' := by
  obtain ⟨kd, n, v, ds, rfl, rfl, hkd, hn, hlen, ao, cap, rfl, hc⟩ := h
  simp only [kindOf_x, numOf_x] at hk
  obtain ⟨va, vc, rfl, hvc⟩ := hi
  have hbel : Below w.heap.size w (w.alloc (.cells #[.int .i64 kd, .int .i64 n, .slice ao ds.length cap] 54)) := (Below.refl _ w).alloc (Nat.le_refl _) _
  show Calls Try.prog 25 #[.agg #[.int .i64 kd, .int .i64 n, .slice ao ds.length cap], .slice va vs.length vc] w _
  rcases hk with rfl | ⟨rfl, n0, n1⟩
  · have hs : valX vs (k + 1) (xD 1 n ds) = n := rfl
    rw [hs]
    clear hs hc hvc hlen hkd
    go_enter Try.func25, Try.ntmps25
    go_wp2_with fail
    go_ret
    exact ⟨rfl, hbel⟩
  · have hl : n.toNat < vs.length := by omega
    have hs : valX vs (k + 1) (xD 2 n ds) = vs[n.toNat] := by
      show vs.getD n.toNat 0 = _
      rw [List.getD_eq_getElem?_getD, List.getElem?_eq_getElem hl]
      rfl
    obtain ⟨b, off, rfl, hel⟩ := hvc (by rintro rfl; simp at hl)
    have c := hel _ hl
    obtain ⟨j, rfl⟩ : ∃ j : Nat, n = j := ⟨n.toNat, by omega⟩
    rw [hs]
    simp only [Int.toNat_natCast] at c hl ⊢
    obtain ⟨r, hr⟩ : ∃ r, r = vs[j] := ⟨_, rfl⟩
    rw [← hr] at c ⊢
    have c' := cell_over hbel _ _ c
    clear hs hc hvc hlen hkd hel hr
    go_enter Try.func25, Try.ntmps25
    go_wp2_with fail
    go_ret
    exact ⟨rfl, hbel⟩
set_option maxHeartbeats 4000000 in
set_option maxRecDepth 100000 in
theorem pval_node (kd n : Int) (b off cap : Nat) (xk xn yk yn : Int) (xa ya : Option Addr) (xl yl xc yc : Nat) (vv : Value) (w : World) (a c : Int) (ha : I32 a) (hc : I32 c) (hkd : 3 ≤ kd ∧ kd ≤ 7)
    (q0 : w.cell? ⟨b, off, none⟩ = some (.int .i64 xk)) (q1 : w.cell? ⟨b, off + 1, none⟩ = some (.int .i64 xn)) (q2 : w.cell? ⟨b, off + 2, none⟩ = some (.slice xa xl xc))
    (r0 : w.cell? ⟨b, off + 3, none⟩ = some (.int .i64 yk)) (r1 : w.cell? ⟨b, off + 3 + 1, none⟩ = some (.int .i64 yn)) (r2 : w.cell? ⟨b, off + 3 + 2, none⟩ = some (.slice ya yl yc))
    (KX : Hid (∀ W, Below w.heap.size w W → Calls Try.prog 25 #[.agg #[.int .i64 xk, .int .i64 xn, .slice xa xl xc], vv] W fun e w' => e = .returned (.int .i64 a) ∧ Below W.heap.size W w'))
    (KY : Hid (∀ W, Below w.heap.size w W → Calls Try.prog 25 #[.agg #[.int .i64 yk, .int .i64 yn, .slice ya yl yc], vv] W fun e w' => e = .returned (.int .i64 c) ∧ Below W.heap.size W w')) :
    Calls Try.prog 25 #[.agg #[.int .i64 kd, .int .i64 n, .slice (some ⟨b, off, none⟩) 2 cap], vv] w fun e w' => e = .returned (.int .i64 (opX kd a c)) ∧ Below w.heap.size w w' := by
  have hbel : Below w.heap.size w (w.alloc (.cells #[.int .i64 kd, .int .i64 n, .slice (some ⟨b, off, none⟩) 2 cap] 54)) := (Below.refl _ w).alloc (Nat.le_refl _) _
  have q0' := cell_over hbel _ _ q0
  have q1' := cell_over hbel _ _ q1
  have q2' := cell_over hbel _ _ q2
  have r0' := cell_over hbel _ _ r0
  have r1' := cell_over hbel _ _ r1
  have r2' := cell_over hbel _ _ r2
  have e0 : (w.alloc (.cells #[.int .i64 kd, .int .i64 n, .slice (some ⟨b, off, none⟩) 2 cap] 54)).cell? ⟨w.heap.size, 0, none⟩ = some (.int .i64 kd) := by simp [go_sem]
  have e2 : (w.alloc (.cells #[.int .i64 kd, .int .i64 n, .slice (some ⟨b, off, none⟩) 2 cap] 54)).cell? ⟨w.heap.size, 2, none⟩ = some (.slice (some ⟨b, off, none⟩) 2 cap) := by simp [go_sem]
  have hk1 : kd ≠ 1 := by omega
  have hk2 : kd ≠ 2 := by omega
  clear q0 q1 q2 r0 r1 r2
  have KR := hide fun W => reckon_any kd a c ha hc hkd W
  go_enter Try.func25, Try.ntmps25
  go_wp2_with fail
  go_region_held3 (fun W => W.cell? ⟨w.heap.size, 0, none⟩ = some (.int .i64 kd) ∧ W.cell? ⟨w.heap.size, 2, none⟩ = some (.slice (some ⟨b, off, none⟩) 2 cap) ∧ W.cell? ⟨b, off, none⟩ = some (.int .i64 xk) ∧ W.cell? ⟨b, off + 1, none⟩ = some (.int .i64 xn) ∧ W.cell? ⟨b, off + 2, none⟩ = some (.slice xa xl xc) ∧ W.cell? ⟨b, off + 3, none⟩ = some (.int .i64 yk) ∧ W.cell? ⟨b, off + 3 + 1, none⟩ = some (.int .i64 yn) ∧ W.cell? ⟨b, off + 3 + 2, none⟩ = some (.slice ya yl yc) ∧ Below w.heap.size w W) (first | assumption | exact ⟨e0, e2, q0', q1', q2', r0', r1', r2', below_drewN hbel 1⟩ | exact held8 (by assumption) hbp | exact held8 (by assumption) hbq | fail) (first | (go_at_call_of 25 (Value.agg #[.int .i64 xk, .int .i64 xn, .slice xa xl xc]); refine (KX.out _ (by assumption : _ ∧ _ ∧ _ ∧ _ ∧ _ ∧ _ ∧ _ ∧ _ ∧ Below _ _ _).2.2.2.2.2.2.2.2).mono ?_; rintro e wp ⟨rfl, hbp⟩) | (go_at_call_of 25 (Value.agg #[.int .i64 yk, .int .i64 yn, .slice ya yl yc]); refine (KY.out _ (by assumption : _ ∧ _ ∧ _ ∧ _ ∧ _ ∧ _ ∧ _ ∧ _ ∧ Below _ _ _).2.2.2.2.2.2.2.2).mono ?_; rintro e wq ⟨rfl, hbq⟩) | (go_at_call 36; refine (KR.out _).mono ?_; rintro e wz ⟨rfl, rfl⟩))
  obtain ⟨-, -, -, -, -, -, -, -, hB⟩ := (by assumption : _ ∧ _ ∧ _ ∧ _ ∧ _ ∧ _ ∧ _ ∧ _ ∧ Below _ _ _)
  clear q0' q1' q2' r0' r1' r2' e0 e2 hbel KX KY KR
  go_wp2_with fail
  go_ret
  exact ⟨rfl, hB⟩

theorem pval_any (vs : List Int) (hv : ∀ x ∈ vs, I32 x) : ∀ (k : Nat) (cs : List Value) (d : D) (w : World) (vv : Value), RX w k cs d → okX vs.length k d → IsInts w vv vs →
    Calls Try.prog 25 #[.agg cs.toArray, vv] w fun e w' => e = .returned (.int .i64 (valX vs k d)) ∧ Below w.heap.size w w' := by
  intro k
  induction k with
  | zero => intro cs d w vv h; exact h.elim
  | succ k ih =>
    intro cs d w vv h ho hi
    rcases ho with ⟨h1, -, -⟩ | ⟨h1, h2, h3⟩ | ⟨h1, h2, x, y, hxy, hx, hy⟩
    · exact pval_leaf cs d k w vv vs h hi (Or.inl h1)
    · exact pval_leaf cs d k w vv vs h hi (Or.inr ⟨h1, h2, h3⟩)
    · obtain ⟨kd, n, v, ds, rfl, rfl, hkd, hn, hlen, ao, cap, rfl, hc⟩ := h
      simp only [kindOf_x, argsOf_x] at h1 h2 hxy
      subst hxy
      obtain ⟨b, off, rfl, hel⟩ := hc (by simp)
      obtain ⟨xs, -, hxc, hxr⟩ := hel 0 x rfl
      obtain ⟨ys, -, hyc, hyr⟩ := hel 1 y rfl
      obtain ⟨xa, xcap, hxs⟩ := hxr.form
      obtain ⟨ya, ycap, hys⟩ := hyr.form
      subst hxs
      subst hys
      have hs : valX vs (k + 1) (xD kd n [x, y]) = opX kd (valX vs k x) (valX vs k y) := by
        show (if kd = 1 then n else if kd = 2 then vs.getD n.toNat 0 else opX kd (valX vs k x) (valX vs k y)) = _
        rw [if_neg (by omega), if_neg (by omega)]
      rw [hs]
      have q0 := hxc 0 _ rfl
      have q1 := hxc 1 _ rfl
      have q2 := hxc 2 _ rfl
      have r0 := hyc 0 _ rfl
      have r1 := hyc 1 _ rfl
      have r2 := hyc 2 _ rfl
      simp only [Nat.zero_mul, Nat.one_mul, Nat.add_zero] at q0 q1 q2 r0 r1 r2
      exact pval_node kd n b off cap _ _ _ _ _ _ _ _ _ _ vv w _ _ (valX_in hv k x hx) (valX_in hv k y hy) ⟨h1, h2⟩ q0 q1 q2 r0 r1 r2
        (hide fun W hB => ih _ x W vv (hxr.over hB) hx (hi.over hB)) (hide fun W hB => ih _ y W vv (hyr.over hB) hy (hi.over hB))
end Go.Proofs.Ytpbnmmgocpobcaa.Ex

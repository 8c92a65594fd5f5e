/- The law RunEvals, at any expression and any numbers. -/
import Derived.Test.YtdbepdabkciiiaaRn
namespace Go.Proofs.Ytdbepdabkciiiaa.Ex
open Go.RowKit
set_option linter.unusedVariables false

set_option maxHeartbeats 4000000 in
set_option maxRecDepth 100000 in
theorem evals_any (k : Nat) (cs : List Value) (d : D) (vv : Value) (vs : List Int) (w : World) (h : RX w k cs d) (hv : IsInts w vv vs) (hl : vs.length ≤ 9223372036854775807) :
    Calls Try.prog 3 #[.agg cs.toArray, vv] w fun e w' => e = .returned (.bool true) ∧ Below w.heap.size w w' := by
  have K1 := hide fun W hB => eval_any k cs d W vv vs (h.over hB) (hv.over hB) hl
  have K2 := hide fun W hB => checkEval_any k cs d W vv vs (h.over hB) (hv.over hB) hl
  have K3 := hide fun (h0 : evalErr vs k d = 0) W hB => val_any vs (evalErr_zero h h0).2 k cs d W vv (h.over hB) (evalErr_zero h h0).1 (hv.over hB)
  have K4 := hide begun_any
  obtain ⟨ao, cap, rfl⟩ := h.form
  obtain ⟨kd, hkd⟩ : ∃ q, q = kindOf d := ⟨_, rfl⟩
  obtain ⟨n, hn⟩ : ∃ q, q = numOf d := ⟨_, rfl⟩
  obtain ⟨dl, hdl⟩ : ∃ q, q = (argsOf d).length := ⟨_, rfl⟩
  rw [← hkd, ← hn, ← hdl] at K1 K2 K3 ⊢
  clear hkd hn hdl
  obtain ⟨va, vc, rfl, hvc⟩ := hv
  clear hvc h
  have hvl : evalVal vs k d = if evalErr vs k d = 0 then valX vs k d else 0 := rfl
  rw [hvl] at K1
  clear hvl
  obtain ⟨c, hc⟩ : ∃ q, q = evalErr vs k d := ⟨_, rfl⟩
  obtain ⟨r, hr⟩ : ∃ q, q = valX vs k d := ⟨_, rfl⟩
  rw [← hc, ← hr] at K1
  rw [← hc] at K2
  rw [← hc, ← hr] at K3
  clear hc hr
  obtain ⟨W0, hW0⟩ : ∃ q, q = (w.alloc (.cells #[.int .i64 kd, .int .i64 n, .slice ao dl cap] 24)) := ⟨_, rfl⟩
  have e0 : (w.alloc (.cells #[.int .i64 kd, .int .i64 n, .slice ao dl cap] 24)).cell? ⟨w.heap.size, 0, none⟩ = some (.int .i64 kd) := by simp [go_sem]
  have e1 : (w.alloc (.cells #[.int .i64 kd, .int .i64 n, .slice ao dl cap] 24)).cell? ⟨w.heap.size, 1, none⟩ = some (.int .i64 n) := by simp [go_sem]
  have e2 : (w.alloc (.cells #[.int .i64 kd, .int .i64 n, .slice ao dl cap] 24)).cell? ⟨w.heap.size, 2, none⟩ = some (.slice ao dl cap) := by simp [go_sem]
  have hbel : Below w.heap.size w (w.alloc (.cells #[.int .i64 kd, .int .i64 n, .slice ao dl cap] 24)) := (Below.refl _ w).alloc (Nat.le_refl _) _
  show Calls Try.prog 3 #[.agg #[.int .i64 kd, .int .i64 n, .slice ao dl cap], .slice va vs.length vc] w _
  by_cases h0 : c = 0
  · subst h0
    rw [if_pos rfl] at K1
    have K3' := hide (K3.out rfl)
    clear K3 hW0
    go_enter Try.func3, Try.ntmps3
    go_wp2_with fail
    refine (K1.out _ hbel).mono ?_
    rintro e w1 ⟨rfl, hb1⟩
    have hB1 := hbel.trans (hb1.mono hbel.size)
    have e01 := cell_over hb1 _ _ e0
    have e11 := cell_over hb1 _ _ e1
    have e21 := cell_over hb1 _ _ e2
    clear hb1 K1 e0 e1 e2 hbel
    go_wp2_with fail
    refine (K2.out _ hB1).mono ?_
    rintro e w2 ⟨rfl, hb2⟩
    have hB2 := hB1.trans (hb2.mono hB1.size)
    have e02 := cell_over hb2 _ _ e01
    have e12 := cell_over hb2 _ _ e11
    have e22 := cell_over hb2 _ _ e21
    clear hb2 K2 e01 e11 e21 hB1
    go_wp2_with fail
    refine (K3'.out _ hB2).mono ?_
    rintro e w3 ⟨rfl, hb3⟩
    have hB3 := hB2.trans (hb3.mono hB2.size)
    clear hb3 hB2 e02 e12 e22
    go_wp2_with fail
    refine (K4.out _).mono ?_
    rintro e w4 ⟨rfl, hb4⟩
    have hB4 := hB3.trans (hb4.mono hB3.size)
    clear hb4 hB3
    go_wp2_with fail
    go_ret
    exact ⟨by simp, hB4⟩
  · rw [if_neg h0] at K1
    clear K3 hW0
    go_enter Try.func3, Try.ntmps3
    go_wp2_with fail
    refine (K1.out _ hbel).mono ?_
    rintro e w1 ⟨rfl, hb1⟩
    have hB1 := hbel.trans (hb1.mono hbel.size)
    have e01 := cell_over hb1 _ _ e0
    have e11 := cell_over hb1 _ _ e1
    have e21 := cell_over hb1 _ _ e2
    clear hb1 K1 e0 e1 e2 hbel
    go_wp2_with fail
    refine (K2.out _ hB1).mono ?_
    rintro e w2 ⟨rfl, hb2⟩
    have hB2 := hB1.trans (hb2.mono hB1.size)
    have e02 := cell_over hb2 _ _ e01
    have e12 := cell_over hb2 _ _ e11
    have e22 := cell_over hb2 _ _ e21
    clear hb2 K2 e01 e11 e21 hB1
    go_wp2_with fail
    refine (K4.out _).mono ?_
    rintro e w4 ⟨rfl, hb4⟩
    have hB4 := hB2.trans (hb4.mono hB2.size)
    clear hb4 hB2
    go_wp2_with fail
    go_ret
    exact ⟨by simp, hB4⟩
end Go.Proofs.Ytdbepdabkciiiaa.Ex

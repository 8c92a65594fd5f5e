/- The program's own reckoning of an expression, whatever it is handed. -/
import Derived.Test.YtdbepdabkciiiaaQd
namespace Go.Proofs.Ytdbepdabkciiiaa.Ex
open Go.RowKit
set_option linter.unusedVariables false

set_option maxHeartbeats 400000 in
theorem isBeyond_any (x : Int) (w : World) : Calls Try.prog 10 #[.int .i64 x] w fun e w' => e = .returned (.bool (!in32 x)) ∧ w' = w := by
  by_cases h1 : x < -2147483648
  · go_enter Try.func10, Try.ntmps10
    go_wp2
    go_ret
    exact ⟨by simp [in32]; omega, rfl⟩
  · by_cases h2 : 2147483647 < x
    · go_enter Try.func10, Try.ntmps10
      go_wp2
      go_ret
      exact ⟨by simp [in32]; omega, rfl⟩
    · go_enter Try.func10, Try.ntmps10
      go_wp2
      go_ret
      exact ⟨by simp [in32]; omega, rfl⟩

theorem call10 (args : Array Value) (w : World) : (callFunc 10 args).run Try.prog w = .ok (.enter 10 args) w := by simp [go_sem]

set_option maxHeartbeats 1000000 in
theorem indexInts_any (vs : List Int) (v : Value) (w : World) (hv : IsInts w v vs) (hl : vs.length ≤ 9223372036854775807) :
    Calls Try.prog 20 #[v, .func (.func 10) #[] #[]] w fun e w' => ∃ r : Int, e = .returned (.int .i64 r) ∧ decide (0 ≤ r) = !vs.all in32 ∧ w' = w := by
  obtain ⟨ao, cap, rfl, hcc⟩ := hv
  have HCC := hide hcc
  have HC10 := call10
  clear hcc
  go_enter Try.func20, Try.ntmps20
  go_wp2_with fail
  go_loopw [8] (fun i wr => ∃ k : Nat, k ≤ vs.length ∧ i = .int .i64 k ∧ (vs.take k).all in32 = true ∧ wr = w) (fun i _ => vs.length - (intOf i).toNat)
  case atStart => exact ⟨0, Nat.zero_le _, rfl, rfl, rfl⟩
  case round =>
    obtain ⟨k, hk, rfl, hall, rfl⟩ := hrel
    have HA := hide hall
    clear hall
    by_cases hkl : k < vs.length
    · obtain ⟨b, off, rfl, hcl⟩ := HCC.out (by rintro rfl; simp at hkl)
      have q0 := hcl k hkl
      have hst : in32 vs[k] = false → vs.all in32 = false := fun h => by rw [List.all_eq_false]; exact ⟨vs[k], List.getElem_mem hkl, by simp [h]⟩
      have hnx : in32 vs[k] = true → (vs.take (k + 1)).all in32 = true := fun h => by rw [List.take_succ_eq_append_getElem hkl, List.all_append, HA.out]; simp [h]
      obtain ⟨x, hx⟩ : ∃ x, x = vs[k] := ⟨_, rfl⟩
      rw [← hx] at q0 hst hnx
      have hcall := isBeyond_any x wr
      obtain ⟨r, hr⟩ : ∃ r, r = in32 x := ⟨_, rfl⟩
      rw [← hr] at hcall hst hnx
      have HCALL := hide hcall
      have HST := hide hst
      have HNX := hide hnx
      clear hcall hst hnx hr hx hcl HA
      cases r with
      | true =>
        go_wp2_with fail
        refine (HCALL.out).mono ?_
        rintro e w2 ⟨rfl, rfl⟩
        go_wp2_with fail
        exact ⟨⟨k + 1, by omega, by go_num, HNX.out (by first | rfl | trivial), by first | rfl | trivial⟩, by simp [intOf]; omega⟩
      | false =>
        go_wp2_with fail
        refine (HCALL.out).mono ?_
        rintro e w2 ⟨rfl, rfl⟩
        go_wp2_with fail
        go_ret
        refine ⟨(k : Int), by first | rfl | trivial, ?_, by first | rfl | trivial⟩
        rw [HST.out (by first | rfl | trivial)]
        simp
    · have ha := HA.out
      rw [List.take_of_length_le (by omega)] at ha
      have HD := hide ha
      clear ha HA
      go_wp2_with fail
      go_ret
      refine ⟨-1, by first | rfl | trivial, ?_, by first | rfl | trivial⟩
      rw [HD.out]
      rfl

set_option maxHeartbeats 1000000 in
theorem containsInts_any (vs : List Int) (v : Value) (w : World) (hv : IsInts w v vs) (hl : vs.length ≤ 9223372036854775807) :
    Calls Try.prog 9 #[v, .func (.func 10) #[] #[]] w fun e w' => e = .returned (.bool (!vs.all in32)) ∧ w' = w := by
  have HI := hide (indexInts_any vs v w hv hl)
  clear hv
  obtain ⟨u, hu⟩ : ∃ u, u = v := ⟨_, rfl⟩
  go_enter Try.func9, Try.ntmps9
  go_wp2_with fail
  refine (HI.out).mono ?_
  rintro e w1 ⟨r, rfl, hr, rfl⟩
  have HR := hide hr
  clear hr HI
  go_wp2_with fail
  go_ret
  exact ⟨by rw [← HR.out]; rfl, by first | rfl | trivial⟩

/-- what Eval answers. -/
def evalVal (vs : List Int) (k : Nat) (d : D) : Int := if evalErr vs k d = 0 then valX vs k d else 0

set_option maxHeartbeats 4000000 in
set_option maxRecDepth 100000 in
theorem eval_any (k : Nat) (cs : List Value) (d : D) (w : World) (vv : Value) (vs : List Int) (h : RX w k cs d) (hv : IsInts w vv vs) (hl : vs.length ≤ 9223372036854775807) :
    Calls Try.prog 4 #[.agg cs.toArray, vv] w fun e w' => e = .returned (.tuple #[.int .i64 (evalVal vs k d), .int .i64 (evalErr vs k d)]) ∧ Below w.heap.size w w' := by
  have K1 := hide fun W hB => check_any k cs d W (vs.length : Int) (by omega) (by omega) (h.over hB)
  have K2 := hide fun W hB => containsInts_any vs vv W (hv.over hB) hl
  have K3 := hide fun (h0 : evalErr vs k d = 0) W hB => pval_any vs (evalErr_zero h h0).2 k cs d W vv (h.over hB) (evalErr_zero h h0).1 (hv.over hB)
  obtain ⟨ao, cap, rfl⟩ := h.form
  obtain ⟨kd, hkd⟩ : ∃ q, q = kindOf d := ⟨_, rfl⟩
  obtain ⟨n, hn⟩ : ∃ q, q = numOf d := ⟨_, rfl⟩
  obtain ⟨dl, hdl⟩ : ∃ q, q = (argsOf d).length := ⟨_, rfl⟩
  rw [← hkd, ← hn, ← hdl] at K1 K3 ⊢
  clear hkd hn hdl
  obtain ⟨va, vc, rfl, hvc⟩ := hv
  clear hvc
  obtain ⟨c, hc⟩ : ∃ q, q = checkX vs.length k d := ⟨_, rfl⟩
  obtain ⟨A, hA⟩ : ∃ q, q = vs.all in32 := ⟨_, rfl⟩
  have hev : evalErr vs k d = if c = 0 then (if A = true then 0 else 3) else c := by rw [hc, hA]; rfl
  have hvl : evalVal vs k d = if evalErr vs k d = 0 then valX vs k d else 0 := rfl
  rw [← hc] at K1
  rw [← hA] at K2
  rw [hvl]
  clear hc hA hvl
  have e0 : (w.alloc (.cells #[.int .i64 kd, .int .i64 n, .slice ao dl cap] 24)).cell? ⟨w.heap.size, 0, none⟩ = some (.int .i64 kd) := by simp [go_sem]
  have e1 : (w.alloc (.cells #[.int .i64 kd, .int .i64 n, .slice ao dl cap] 24)).cell? ⟨w.heap.size, 1, none⟩ = some (.int .i64 n) := by simp [go_sem]
  have e2 : (w.alloc (.cells #[.int .i64 kd, .int .i64 n, .slice ao dl cap] 24)).cell? ⟨w.heap.size, 2, none⟩ = some (.slice ao dl cap) := by simp [go_sem]
  have hbel : Below w.heap.size w (w.alloc (.cells #[.int .i64 kd, .int .i64 n, .slice ao dl cap] 24)) := (Below.refl _ w).alloc (Nat.le_refl _) _
  show Calls Try.prog 4 #[.agg #[.int .i64 kd, .int .i64 n, .slice ao dl cap], .slice va vs.length vc] w _
  by_cases h0 : c = 0
  · subst h0
    cases A with
    | true =>
      have hz : evalErr vs k d = 0 := by rw [hev]; rfl
      have K3' := hide (K3.out hz)
      obtain ⟨r, hr⟩ : ∃ q, q = valX vs k d := ⟨_, rfl⟩
      rw [hz, if_pos rfl, ← hr]
      rw [← hr] at K3'
      clear K3 hev hz hr h
      go_enter Try.func4, Try.ntmps4
      go_wp2_with fail
      refine (K1.out _ hbel).mono ?_
      rintro e w1 ⟨rfl, hb1⟩
      have hB1 : Below w.heap.size w w1 := hbel.trans (hb1.mono hbel.size)
      have g0 := cell_over hb1 _ _ e0
      have g1 := cell_over hb1 _ _ e1
      have g2 := cell_over hb1 _ _ e2
      clear hb1 K1 e0 e1 e2 hbel
      go_wp2_with fail
      refine (K2.out _ hB1).mono ?_
      rintro e w2 ⟨rfl, rfl⟩
      go_wp2_with fail
      refine (K3'.out _ hB1).mono ?_
      rintro e w3 ⟨rfl, hb3⟩
      have hB3 : Below w.heap.size w w3 := hB1.trans (hb3.mono hB1.size)
      clear hb3 K2 K3'
      go_wp2_with fail
      go_ret2
      exact ⟨by first | rfl | trivial, hB3⟩
    | false =>
      have hz : evalErr vs k d = 3 := by rw [hev]; rfl
      rw [hz]
      clear K3 hev hz h
      go_enter Try.func4, Try.ntmps4
      go_wp2_with fail
      refine (K1.out _ hbel).mono ?_
      rintro e w1 ⟨rfl, hb1⟩
      have hB1 : Below w.heap.size w w1 := hbel.trans (hb1.mono hbel.size)
      clear hb1 K1 e0 e1 e2 hbel
      go_wp2_with fail
      refine (K2.out _ hB1).mono ?_
      rintro e w2 ⟨rfl, rfl⟩
      go_wp2_with fail
      go_ret2
      exact ⟨by first | rfl | trivial, hB1⟩
  · have hz : evalErr vs k d = c := by rw [hev, if_neg h0]
    rw [hz, if_neg h0]
    clear K3 K2 hev hz h
    go_enter Try.func4, Try.ntmps4
    go_wp2_with fail
    refine (K1.out _ hbel).mono ?_
    rintro e w1 ⟨rfl, hb1⟩
    have hB1 : Below w.heap.size w w1 := hbel.trans (hb1.mono hbel.size)
    clear hb1 K1 e0 e1 e2 hbel
    go_wp2_with fail
    go_ret2
    exact ⟨by first | rfl | trivial, hB1⟩
end Go.Proofs.Ytdbepdabkciiiaa.Ex

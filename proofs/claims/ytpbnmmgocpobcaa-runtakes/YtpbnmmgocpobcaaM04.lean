/- The program's own reckoning of an expression, whatever it is handed. -/
import Derived.Test.YtpbnmmgocpobcaaM03
import Derived.RowKit
namespace Go.Proofs.Ytpbnmmgocpobcaa.Ex
open Go.RowKit
set_option linter.unusedVariables false

set_option maxHeartbeats 400000 in
theorem isBeyond_any (x : Int) (w : World) : Calls Try.prog 20 #[.int .i64 x] w fun e w' => e = .returned (.bool (!in32 x)) ∧ w' = w := by
  by_cases h1 : x < -2147483648
  · go_enter Try.func20, Try.ntmps20
    go_wp2
    go_ret
    exact ⟨by simp [in32]; omega, rfl⟩
  · by_cases h2 : 2147483647 < x
    · go_enter Try.func20, Try.ntmps20
      go_wp2
      go_ret
      exact ⟨by simp [in32]; omega, rfl⟩
    · go_enter Try.func20, Try.ntmps20
      go_wp2
      go_ret
      exact ⟨by simp [in32]; omega, rfl⟩

theorem call10 (args : Array Value) (w : World) : (callFunc 20 args).run Try.prog w = .ok (.enter 20 args) w := by simp [go_sem]

set_option maxHeartbeats 1000000 in
theorem indexInts_any (vs : List Int) (v : Value) (w : World) (hv : IsInts w v vs) (hl : vs.length ≤ 9223372036854775807) :
    Calls Try.prog 28 #[v, .func (.func 20) #[] #[]] w fun e w' => ∃ r : Int, e = .returned (.int .i64 r) ∧ decide (0 ≤ r) = !vs.all in32 ∧ w' = w := by
  obtain ⟨ao, cap, rfl, hcc⟩ := hv
  have HCC := hide hcc
  have HC10 := call10
  clear hcc
  go_enter Try.func28, Try.ntmps28
  go_wp2_with fail
  go_loopw [8] (fun i wr => ∃ k : Nat, k ≤ vs.length ∧ i = .int .i64 k ∧ (vs.take k).all in32 = true ∧ wr = w) (fun i _ => vs.length - (intOf i).toNat)
  case atStart => exact ⟨0, Nat.zero_le _, rfl, rfl, rfl⟩
  case round =>
    obtain ⟨k, hk, rfl, hall, rfl⟩ := hrel
    have HA := hide hall
    clear hall
    by_cases hkl : k < vs.length
    · obtain ⟨b, off, rfl, hcl⟩ := HCC.out (by rintro rfl; simp at hkl)
      have q0 := hcl k hkl
      have hst : in32 vs[k] = false → vs.all in32 = false := fun h => by rw [List.all_eq_false]; exact ⟨vs[k], List.getElem_mem hkl, by simp [h]⟩
      have hnx : in32 vs[k] = true → (vs.take (k + 1)).all in32 = true := fun h => by rw [List.take_succ_eq_append_getElem hkl, List.all_append, HA.out]; simp [h]
      obtain ⟨x, hx⟩ : ∃ x, x = vs[k] := ⟨_, rfl⟩
      rw [← hx] at q0 hst hnx
      have hcall := isBeyond_any x wr
      obtain ⟨r, hr⟩ : ∃ r, r = in32 x := ⟨_, rfl⟩
      rw [← hr] at hcall hst hnx
      have HCALL := hide hcall
      have HST := hide hst
      have HNX := hide hnx
      clear hcall hst hnx hr hx hcl HA
      cases r with
      | true =>
        go_wp2_with fail
        refine (HCALL.out).mono ?_
        rintro e w2 ⟨rfl, rfl⟩
        go_wp2_with fail
        exact ⟨⟨k + 1, by omega, by go_num, HNX.out (by first | rfl | trivial), by first | rfl | trivial⟩, by simp [intOf]; omega⟩
      | false =>
        go_wp2_with fail
        refine (HCALL.out).mono ?_
        rintro e w2 ⟨rfl, rfl⟩
        go_wp2_with fail
        go_ret
        refine ⟨(k : Int), by first | rfl | trivial, ?_, by first | rfl | trivial⟩
        rw [HST.out (by first | rfl | trivial)]
        simp
    · have ha := HA.out
      rw [List.take_of_length_le (by omega)] at ha
      have HD := hide ha
      clear ha HA
      go_wp2_with fail
      go_ret
      refine ⟨-1, by first | rfl | trivial, ?_, by first | rfl | trivial⟩
      rw [HD.out]
      rfl

set_option maxHeartbeats 1000000 in
theorem containsInts_any (vs : List Int) (v : Value) (w : World) (hv : IsInts w v vs) (hl : vs.length ≤ 9223372036854775807) :
    Calls Try.prog 19 #[v, .func (.func 20) #[] #[]] w fun e w' => e = .returned (.bool (!vs.all in32)) ∧ w' = w := by
  have HI := hide (indexInts_any vs v w hv hl)
  clear hv
  obtain ⟨u, hu⟩ : ∃ u, u = v := ⟨_, rfl⟩
  go_enter Try.func19, Try.ntmps19
  go_wp2_with fail
  refine (HI.out).mono ?_
  rintro e w1 ⟨r, rfl, hr, rfl⟩
  have HR := hide hr
  clear hr HI
  go_wp2_with fail
  go_ret
  exact ⟨by rw [← HR.out]; rfl, by first | rfl | trivial⟩

/-- what Eval answers. -/
def evalVal (vs : List Int) (k : Nat) (d : D) : Int := if evalErr vs k d = 0 then valX vs k d else 0

set_option maxHeartbeats 4000000 in
set_option maxRecDepth 100000 in
theorem eval_any (k : Nat) (cs : List Value) (d : D) (w : World) (vv : Value) (vs : List Int) (h : RX w k cs d) (hv : IsInts w vv vs) (hl : vs.length ≤ 9223372036854775807) :
    Calls Try.prog 13 #[.agg cs.toArray, vv] w fun e w' => e = .returned (.tuple #[.int .i64 (evalVal vs k d), .int .i64 (evalErr vs k d)]) ∧ Below w.heap.size w w' := by
  have K1 := hide fun W hB => check_any k cs d W (vs.length : Int) (by omega) (by omega) (h.over hB)
  have K2 := hide fun W hB => containsInts_any vs vv W (hv.over hB) hl
  have K3 := hide fun (h0 : evalErr vs k d = 0) W hB => pval_any vs (evalErr_zero h h0).2 k cs d W vv (h.over hB) (evalErr_zero h h0).1 (hv.over hB)
  obtain ⟨ao, cap, rfl⟩ := h.form
  obtain ⟨kd, hkd⟩ : ∃ q, q = kindOf d := ⟨_, rfl⟩
  obtain ⟨n, hn⟩ : ∃ q, q = numOf d := ⟨_, rfl⟩
  obtain ⟨dl, hdl⟩ : ∃ q, q = (argsOf d).length := ⟨_, rfl⟩
  rw [← hkd, ← hn, ← hdl] at K1 K3 ⊢
  clear hkd hn hdl
  obtain ⟨va, vc, rfl, hvc⟩ := hv
  clear hvc
  obtain ⟨c, hc⟩ : ∃ q, q = checkX vs.length k d := ⟨_, rfl⟩
  obtain ⟨A, hA⟩ : ∃ q, q = vs.all in32 := ⟨_, rfl⟩
  have hev : evalErr vs k d = if c = 0 then (if A = true then 0 else 3) else c := by rw [hc, hA]; rfl
  have hvl : evalVal vs k d = if evalErr vs k d = 0 then valX vs k d else 0 := rfl
  rw [← hc] at K1
  rw [← hA] at K2
  rw [hvl]
  clear hc hA hvl
  have e0 : (w.alloc (.cells #[.int .i64 kd, .int .i64 n, .slice ao dl cap] 54)).cell? ⟨w.heap.size, 0, none⟩ = some (.int .i64 kd) := by simp [go_sem]
  have e1 : (w.alloc (.cells #[.int .i64 kd, .int .i64 n, .slice ao dl cap] 54)).cell? ⟨w.heap.size, 1, none⟩ = some (.int .i64 n) := by simp [go_sem]
  have e2 : (w.alloc (.cells #[.int .i64 kd, .int .i64 n, .slice ao dl cap] 54)).cell? ⟨w.heap.size, 2, none⟩ = some (.slice ao dl cap) := by simp [go_sem]
  have hbel : Below w.heap.size w (w.alloc (.cells #[.int .i64 kd, .int .i64 n, .slice ao dl cap] 54)) := (Below.refl _ w).alloc (Nat.le_refl _) _
  show Calls Try.prog 13 #[.agg #[.int .i64 kd, .int .i64 n, .slice ao dl cap], .slice va vs.length vc] w _
  by_cases h0 : c = 0
  · subst h0
    cases A with
    | true =>
      have hz : evalErr vs k d = 0 := by rw [hev]; rfl
      have K3' := hide (K3.out hz)
      obtain ⟨r, hr⟩ : ∃ q, q = valX vs k d := ⟨_, rfl⟩
      rw [hz, if_pos rfl, ← hr]
      rw [← hr] at K3'
      clear K3 hev hz hr h
      go_enter Try.func13, Try.ntmps13
      go_wp2_with fail
      refine (K1.out _ hbel).mono ?_
      rintro e w1 ⟨rfl, hb1⟩
      have hB1 : Below w.heap.size w w1 := hbel.trans (hb1.mono hbel.size)
      have g0 := cell_over hb1 _ _ e0
      have g1 := cell_over hb1 _ _ e1
      have g2 := cell_over hb1 _ _ e2
      clear hb1 K1 e0 e1 e2 hbel
      go_wp2_with fail
      refine (K2.out _ hB1).mono ?_
      rintro e w2 ⟨rfl, rfl⟩
      go_wp2_with fail
      refine (K3'.out _ hB1).mono ?_
      rintro e w3 ⟨rfl, hb3⟩
      have hB3 : Below w.heap.size w w3 := hB1.trans (hb3.mono hB1.size)
      clear hb3 K2 K3'
      go_wp2_with fail
      go_ret2
      exact ⟨by first | rfl | trivial, hB3⟩
    | false =>
      have hz : evalErr vs k d = 3 := by rw [hev]; rfl
      rw [hz]
      clear K3 hev hz h
      go_enter Try.func13, Try.ntmps13
      go_wp2_with fail
      refine (K1.out _ hbel).mono ?_
      rintro e w1 ⟨rfl, hb1⟩
      have hB1 : Below w.heap.size w w1 := hbel.trans (hb1.mono hbel.size)
      clear hb1 K1 e0 e1 e2 hbel
      go_wp2_with fail
      refine (K2.out _ hB1).mono ?_
      rintro e w2 ⟨rfl, rfl⟩
      go_wp2_with fail
      go_ret2
      exact ⟨by first | rfl | trivial, hB1⟩
  · have hz : evalErr vs k d = c := by rw [hev, if_neg h0]
    rw [hz, if_neg h0]
    clear K3 K2 hev hz h
    go_enter Try.func13, Try.ntmps13
    go_wp2_with fail
    refine (K1.out _ hbel).mono ?_
    rintro e w1 ⟨rfl, hb1⟩
    have hB1 : Below w.heap.size w w1 := hbel.trans (hb1.mono hbel.size)
    clear hb1 K1 e0 e1 e2 hbel
    go_wp2_with fail
    go_ret2
    exact ⟨by first | rfl | trivial, hB1⟩
end Go.Proofs.Ytpbnmmgocpobcaa.Ex
/- Small functions of the check of a program, where all is right. -/
namespace Go.Proofs.Ytpbnmmgocpobcaa.Ex
open Go.RowKit
set_option linter.unusedVariables false

set_option maxHeartbeats 1000000 in
theorem mustAt_ok (at' why : Int) (w : World) : Calls Try.prog 56 #[.int .i64 at', .bool true, .int .i64 why] w fun e w' => e = .returned (.tuple #[]) ∧ w' = w := by
  go_enter Try.func56, Try.ntmps56
  go_wp2_with fail
  go_end0
  exact ⟨rfl, rfl⟩

set_option maxHeartbeats 1000000 in
theorem must_ok (why : Int) (w : World) : Calls Try.prog 40 #[.bool true, .int .i64 why] w fun e w' => e = .returned (.tuple #[]) ∧ w' = w := by
  have K := hide fun W => mustAt_ok 0 why W
  go_enter Try.func40, Try.ntmps40
  go_wp2_with fail
  refine (K.out _).mono ?_
  rintro e w1 ⟨rfl, rfl⟩
  go_wp2_with fail
  go_end0
  exact ⟨rfl, rfl⟩

set_option maxHeartbeats 1000000 in
theorem pass_ok (w : World) : Calls Try.prog 38 #[.int .i64 0] w fun e w' => e = .returned (.tuple #[]) ∧ w' = w := by
  have K := hide fun W => must_ok 0 W
  go_enter Try.func38, Try.ntmps38
  go_wp2_with fail
  refine (K.out _).mono ?_
  rintro e w1 ⟨rfl, rfl⟩
  go_wp2_with fail
  go_end0
  exact ⟨rfl, rfl⟩

set_option maxHeartbeats 1000000 in
theorem isOneOf_any (x m : Int) (w : World) : Calls Try.prog 41 #[.int .i64 x, .int .i64 m] w fun e w' => e = .returned (.bool (decide (0 ≤ x ∧ x < m))) ∧ w' = w := by
  by_cases h1 : 0 ≤ x
  · by_cases h2 : x < m
    · go_enter Try.func41, Try.ntmps41
      go_wp2
      go_ret
      exact ⟨by simp; omega, rfl⟩
    · go_enter Try.func41, Try.ntmps41
      go_wp2
      go_ret
      exact ⟨by simp; omega, rfl⟩
  · go_enter Try.func41, Try.ntmps41
    go_wp2
    go_ret
    exact ⟨by simp; omega, rfl⟩

set_option maxHeartbeats 1000000 in
theorem shape3 (w : World) : Calls Try.prog 67 #[.int .i64 3] w fun e w' => e = .returned (.tuple #[.agg #[.bool true, .bool true, .bool false, .bool false, .bool false, .bool false], .bool true]) ∧ Below w.heap.size w w' := by
  go_enter Try.func67, Try.ntmps67
  go_wp2_with fail
  exact bodyPost_ret (v := .tuple #[.agg #[.bool true, .bool true, .bool false, .bool false, .bool false, .bool false], .bool true]) (by simp [results, Try.results67, go_sem]) rfl ⟨rfl, (Below.refl _ w).alloc (Nat.le_refl _) _⟩

set_option maxHeartbeats 1000000 in
theorem shape4 (w : World) : Calls Try.prog 67 #[.int .i64 4] w fun e w' => e = .returned (.tuple #[.agg #[.bool false, .bool true, .bool true, .bool false, .bool false, .bool false], .bool true]) ∧ Below w.heap.size w w' := by
  go_enter Try.func67, Try.ntmps67
  go_wp2_with fail
  exact bodyPost_ret (v := .tuple #[.agg #[.bool false, .bool true, .bool true, .bool false, .bool false, .bool false], .bool true]) (by simp [results, Try.results67, go_sem]) rfl ⟨rfl, (Below.refl _ w).alloc (Nat.le_refl _) _⟩

set_option maxHeartbeats 1000000 in
theorem indexNone (f : Value) (w : World) : Calls Try.prog 63 #[.slice none 0 0, f] w fun e w' => e = .returned (.int .i64 (-1)) ∧ w' = w := by
  go_enter Try.func63, Try.ntmps63
  go_wp2_with fail
  go_loopw [8] (fun i wr => i = .int .i64 0 ∧ wr = w) (fun _ _ => 0)
  case atStart => exact ⟨rfl, rfl⟩
  case round =>
    obtain ⟨rfl, rfl⟩ := hrel
    go_wp2_with fail
    go_ret
    exact ⟨rfl, by first | rfl | trivial⟩

set_option maxHeartbeats 1000000 in
theorem containsNone (f : Value) (w : World) : Calls Try.prog 53 #[.slice none 0 0, f] w fun e w' => e = .returned (.bool false) ∧ w' = w := by
  have K := hide fun W => indexNone f W
  go_enter Try.func53, Try.ntmps53
  go_wp2_with fail
  refine (K.out _).mono ?_
  rintro e w1 ⟨rfl, rfl⟩
  go_wp2_with fail
  go_ret
  exact ⟨rfl, rfl⟩

set_option maxHeartbeats 1000000 in
theorem actorsOne (w : World) : Calls Try.prog 39 #[.agg #[.int .i64 1, .slice none 0 0]] w fun e w' => e = .returned (.int .i64 0) ∧ Below w.heap.size w w' := by
  have K := hide fun f W => containsNone f W
  have hbel : Below w.heap.size w (w.alloc (.cells #[.int .i64 1, .slice none 0 0] 24)) := (Below.refl _ w).alloc (Nat.le_refl _) _
  go_enter Try.func39, Try.ntmps39
  go_wp2_with fail
  refine (K.out _ _).mono ?_
  rintro e w1 ⟨rfl, rfl⟩
  go_wp2_with fail
  go_ret
  exact ⟨rfl, hbel⟩

set_option maxHeartbeats 1000000 in
theorem policiesNone (w : World) : Calls Try.prog 65 #[.agg #[.int .i64 1, .slice none 0 0], .slice none 0 0] w fun e w' => e = .returned (.int .i64 0) ∧ Below w.heap.size w w' := by
  have hbel : Below w.heap.size w (w.alloc (.cells #[.int .i64 1, .slice none 0 0] 24)) := (Below.refl _ w).alloc (Nat.le_refl _) _
  go_enter Try.func65, Try.ntmps65
  go_wp2_with fail
  go_loopw [13] (fun i wr => i = .int .i64 0 ∧ Below w.heap.size w wr) (fun _ _ => 0)
  case atStart => exact ⟨rfl, hbel⟩
  case round =>
    obtain ⟨rfl, hB⟩ := hrel
    go_wp2_with fail
    go_ret
    exact ⟨rfl, hB⟩

theorem over_trans {w0 w1 w2 : World} (h : Below w0.heap.size w0 w1) (h2 : Below w1.heap.size w1 w2) : Below w0.heap.size w0 w2 := h.trans (h2.mono h.size)

set_option maxHeartbeats 1000000 in
theorem labelNone (w : World) : Calls Try.prog 58 #[.agg #[.int .i64 1, .slice none 0 0], .agg #[.slice none 0 0, .slice none 0 0]] w fun e w' => e = .returned (.int .i64 0) ∧ Below w.heap.size w w' := by
  have K1 := hide actorsOne
  have K2 := hide policiesNone
  have a0 : ((w.alloc (.cells #[.int .i64 1, .slice none 0 0] 24)).alloc (.cells #[.slice none 0 0, .slice none 0 0] 67)).cell? ⟨w.heap.size, 0, none⟩ = some (.int .i64 1) := by simp [go_sem]
  have a1 : ((w.alloc (.cells #[.int .i64 1, .slice none 0 0] 24)).alloc (.cells #[.slice none 0 0, .slice none 0 0] 67)).cell? ⟨w.heap.size, 1, none⟩ = some (.slice none 0 0) := by simp [go_sem]
  have l0 : ((w.alloc (.cells #[.int .i64 1, .slice none 0 0] 24)).alloc (.cells #[.slice none 0 0, .slice none 0 0] 67)).cell? ⟨w.heap.size + 1, 0, none⟩ = some (.slice none 0 0) := by simp [go_sem]
  have l1 : ((w.alloc (.cells #[.int .i64 1, .slice none 0 0] 24)).alloc (.cells #[.slice none 0 0, .slice none 0 0] 67)).cell? ⟨w.heap.size + 1, 1, none⟩ = some (.slice none 0 0) := by simp [go_sem]
  have hB0 := Below.refl ((w.alloc (.cells #[.int .i64 1, .slice none 0 0] 24)).alloc (.cells #[.slice none 0 0, .slice none 0 0] 67)).heap.size ((w.alloc (.cells #[.int .i64 1, .slice none 0 0] 24)).alloc (.cells #[.slice none 0 0, .slice none 0 0] 67))
  have hbel : Below w.heap.size w ((w.alloc (.cells #[.int .i64 1, .slice none 0 0] 24)).alloc (.cells #[.slice none 0 0, .slice none 0 0] 67)) := ((Below.refl _ w).alloc (Nat.le_refl _) _).alloc (by simp) _
  go_enter Try.func58, Try.ntmps58
  go_wp2_with fail
  refine (K1.out _).mono ?_
  rintro e w1 ⟨rfl, hb1⟩
  have hB1 := over_trans hB0 hb1
  have a01 := cell_over hB1 _ _ a0
  have a11 := cell_over hB1 _ _ a1
  have l01 := cell_over hB1 _ _ l0
  have l11 := cell_over hB1 _ _ l1
  clear hb1
  go_wp2_with fail
  refine (K2.out _).mono ?_
  rintro e w2 ⟨rfl, hb2⟩
  have hB2 := over_trans hB1 hb2
  have a02 := cell_over hB2 _ _ a0
  have a12 := cell_over hB2 _ _ a1
  have l02 := cell_over hB2 _ _ l0
  have l12 := cell_over hB2 _ _ l1
  clear hb2 a01 a11 l01 l11
  go_wp2_with fail
  refine (K2.out _).mono ?_
  rintro e w3 ⟨rfl, hb3⟩
  have hB3 := over_trans hB2 hb3
  have a03 := cell_over hB3 _ _ a0
  have a13 := cell_over hB3 _ _ a1
  have l03 := cell_over hB3 _ _ l0
  have l13 := cell_over hB3 _ _ l1
  clear hb3 a02 a12 l02 l12
  go_wp2_with fail
  go_ret
  exact ⟨rfl, hbel.trans (hB3.mono hbel.size)⟩
end Go.Proofs.Ytpbnmmgocpobcaa.Ex
/- Plain: who acts for whom: the least set that holds one and goes on along the grants; found by growing it one by one, or by going over all grants again and again. -/
namespace Go.Proofs.Ytpbnmmgocpobcaa
open Go.RowKit
set_option linter.unusedVariables false

/-- whom one acts for. -/
def Reach (gs : List (Nat × Nat)) (w k : Nat) : Prop := ∀ S : Nat → Prop, S w → (∀ g ∈ gs, S g.1 → S g.2) → S k

theorem reach_self (gs : List (Nat × Nat)) (w : Nat) : Reach gs w w := fun _ h _ => h
theorem reach_step {gs : List (Nat × Nat)} {w : Nat} {g : Nat × Nat} (hg : g ∈ gs) (h : Reach gs w g.1) : Reach gs w g.2 := fun S h0 hS => hS g hg (h S h0 hS)
theorem reach_trans {gs : List (Nat × Nat)} {a b c : Nat} (h : Reach gs a b) (h2 : Reach gs b c) : Reach gs a c := fun S h0 hS => h2 S (h S h0 hS) hS
theorem reach_more {gs hs : List (Nat × Nat)} {a b : Nat} (hm : ∀ g ∈ gs, g ∈ hs) (h : Reach gs a b) : Reach hs a b := fun S h0 hS => h S h0 fun g hg => hS g (hm g hg)

/-- those known so far are all reached, and one is known. -/
def Sound (gs : List (Nat × Nat)) (w : Nat) (l : List Bool) : Prop := l[w]? = some true ∧ ∀ k : Nat, l[k]? = some true → Reach gs w k
def Closed (gs : List (Nat × Nat)) (l : List Bool) : Prop := ∀ g ∈ gs, l[g.1]? = some true → l[g.2]? = some true

theorem sound_set {gs : List (Nat × Nat)} {w : Nat} {l : List Bool} {g : Nat × Nat} (h : Sound gs w l) (hg : g ∈ gs) (hk : l[g.1]? = some true) : Sound gs w (l.set g.2 true) := by
  refine ⟨?_, fun k hk2 => ?_⟩
  · rw [List.getElem?_set]
    split
    · split
      · rfl
      · rename_i e h1
        subst e
        have h0 := h.1
        rw [List.getElem?_eq_none (by omega)] at h0
        cases h0
    · exact h.1
  · rw [List.getElem?_set] at hk2
    split at hk2
    · rename_i e
      subst e
      exact reach_step hg (h.2 _ hk)
    · exact h.2 k hk2

theorem known_iff {gs : List (Nat × Nat)} {w : Nat} {l : List Bool} (h : Sound gs w l) (hc : Closed gs l) (k : Nat) : l[k]? = some true ↔ Reach gs w k :=
  ⟨fun e => h.2 k e, fun hr => hr (fun k => l[k]? = some true) h.1 hc⟩

theorem known_one {gs : List (Nat × Nat)} {w : Nat} {l m : List Bool} (h : Sound gs w l) (hc : Closed gs l) (h2 : Sound gs w m) (hc2 : Closed gs m) (hl : l.length = m.length) : l = m := by
  apply List.ext_getElem? 
  intro k
  have e := (known_iff h hc k).trans (known_iff h2 hc2 k).symm
  by_cases hk : k < l.length
  · have hk2 : k < m.length := by omega
    rw [List.getElem?_eq_getElem hk, List.getElem?_eq_getElem hk2] at e ⊢
    simp only [Option.some.injEq] at e ⊢
    exact Bool.eq_iff_iff.2 e
  · rw [List.getElem?_eq_none (by omega), List.getElem?_eq_none (by omega)]

/-- one round over all grants. -/
def stepG (l : List Bool) (g : Nat × Nat) : List Bool := if l[g.1]? = some true then l.set g.2 true else l
def pass (gs : List (Nat × Nat)) (l : List Bool) : List Bool := gs.foldl stepG l

theorem stepG_length (l : List Bool) (g : Nat × Nat) : (stepG l g).length = l.length := by
  unfold stepG; split <;> simp
theorem pass_length (gs : List (Nat × Nat)) (l : List Bool) : (pass gs l).length = l.length := by
  unfold pass
  induction gs generalizing l with
  | nil => rfl
  | cons g gs ih => rw [List.foldl_cons, ih, stepG_length]

theorem stepG_count (l : List Bool) (g : Nat × Nat) : stepG l g = l ∨ l.count true < (stepG l g).count true := by
  unfold stepG
  split
  · by_cases h : g.2 < l.length
    · by_cases hb : l[g.2] = true
      · left
        rw [← hb]
        exact List.set_getElem_self h
      · right
        have hb' : l[g.2] = false := by simpa using hb
        rw [List.count_set h]
        rw [hb']
        simp
    · left
      exact List.set_eq_of_length_le (by omega)
  · exact Or.inl rfl

theorem pass_count (gs : List (Nat × Nat)) (l : List Bool) : (pass gs l = l ∧ ∀ g ∈ gs, stepG l g = l) ∨ l.count true < (pass gs l).count true := by
  unfold pass
  induction gs generalizing l with
  | nil => exact Or.inl ⟨rfl, by simp⟩
  | cons g gs ih =>
    rw [List.foldl_cons]
    rcases stepG_count l g with h | h
    · rw [h]
      rcases ih l with ⟨h1, h2⟩ | h1
      · left
        refine ⟨h1, fun g' hg' => ?_⟩
        rcases List.mem_cons.1 hg' with rfl | hg'
        · exact h
        · exact h2 g' hg'
      · exact Or.inr h1
    · right
      rcases ih (stepG l g) with ⟨h1, _⟩ | h1
      · rw [h1]; exact h
      · omega

theorem closed_of_steps {gs : List (Nat × Nat)} {l : List Bool} (hb : ∀ g ∈ gs, g.2 < l.length) (h : ∀ g ∈ gs, stepG l g = l) : Closed gs l := fun g hg hk => by
  have := h g hg
  unfold stepG at this
  rw [if_pos hk] at this
  rw [← this, List.getElem?_set_self (hb g hg)]

theorem pass_sound {gs hs : List (Nat × Nat)} {w : Nat} {l : List Bool} (h : Sound gs w l) (hm : ∀ g ∈ hs, g ∈ gs) : Sound gs w (pass hs l) := by
  unfold pass
  induction hs generalizing l with
  | nil => exact h
  | cons g hs ih =>
    rw [List.foldl_cons]
    refine ih ?_ fun g' hg' => hm g' (List.mem_cons_of_mem _ hg')
    unfold stepG
    split
    · rename_i hk
      exact sound_set h (hm g (by simp)) hk
    · exact h

def passes (gs : List (Nat × Nat)) : Nat → List Bool → List Bool
  | 0, l => l
  | n + 1, l => pass gs (passes gs n l)

theorem passes_length (gs : List (Nat × Nat)) (n : Nat) (l : List Bool) : (passes gs n l).length = l.length := by
  induction n with
  | zero => rfl
  | succ n ih => rw [passes, pass_length, ih]

theorem passes_sound {gs : List (Nat × Nat)} {w n : Nat} {l : List Bool} (h : Sound gs w l) : Sound gs w (passes gs n l) := by
  induction n with
  | zero => exact h
  | succ n ih => exact pass_sound ih fun _ h => h

theorem passes_count (gs : List (Nat × Nat)) (n : Nat) (l : List Bool) (hb : ∀ g ∈ gs, g.2 < l.length) : Closed gs (passes gs n l) ∨ l.count true + n ≤ (passes gs n l).count true := by
  induction n with
  | zero => right; simp [passes]
  | succ n ih =>
    rw [passes]
    have hb' : ∀ g ∈ gs, g.2 < (passes gs n l).length := by rw [passes_length]; exact hb
    rcases pass_count gs (passes gs n l) with ⟨h1, h2⟩ | h1
    · left
      rw [h1]
      exact closed_of_steps hb' h2
    · rcases ih with ih | ih
      · left
        have hst : ∀ g ∈ gs, stepG (passes gs n l) g = passes gs n l := fun g hg => by
          unfold stepG
          split
          · rename_i hk
            have := ih g hg hk
            obtain ⟨hl, he⟩ := List.getElem?_eq_some_iff.1 this
            rw [← he]
            exact List.set_getElem_self hl
          · rfl
        have : pass gs (passes gs n l) = passes gs n l := by
          generalize passes gs n l = m at hst
          unfold pass
          clear h1 ih hb hb'
          induction gs with
          | nil => rfl
          | cons g gs ih2 =>
            rw [List.foldl_cons, hst g (by simp)]
            exact ih2 fun g' hg' => hst g' (List.mem_cons_of_mem _ hg')
        rw [this]
        exact ih
      · right; omega

theorem passes_closed {gs : List (Nat × Nat)} {w : Nat} {l : List Bool} (h : Sound gs w l) (hb : ∀ g ∈ gs, g.2 < l.length) : Closed gs (passes gs l.length l) := by
  rcases passes_count gs l.length l hb with h1 | h1
  · exact h1
  · have h2 := List.count_le_length (a := true) (l := passes gs l.length l)
    rw [passes_length] at h2
    have h3 : 0 < l.count true := List.count_pos_iff.2 (List.mem_of_getElem? h.1)
    omega

/-- none is known but one. -/
def start (n w : Nat) : List Bool := (List.replicate n false).set w true
theorem start_sound (gs : List (Nat × Nat)) {n w : Nat} (h : w < n) : Sound gs w (start n w) := by
  unfold start
  refine ⟨by rw [List.getElem?_set_self (by simpa using h)], fun k hk => ?_⟩
  rw [List.getElem?_set] at hk
  split at hk
  · rename_i e; subst e; exact reach_self _ _
  · rw [List.getElem?_replicate] at hk
    split at hk <;> cases hk

/-- whom one acts for, of so many. -/
def acts (gs : List (Nat × Nat)) (n w : Nat) : List Bool := passes gs n (start n w)

theorem start_length (n w : Nat) : (start n w).length = n := by simp [start]

theorem acts_length (gs : List (Nat × Nat)) (n w : Nat) : (acts gs n w).length = n := by rw [acts, passes_length, start_length]
theorem acts_sound (gs : List (Nat × Nat)) {n w : Nat} (h : w < n) : Sound gs w (acts gs n w) := passes_sound (start_sound gs h)
theorem acts_closed {gs : List (Nat × Nat)} {n w : Nat} (h : w < n) (hb : ∀ g ∈ gs, g.2 < n) : Closed gs (acts gs n w) := by
  have := passes_closed (gs := gs) (start_sound gs h) (by rw [start_length]; exact hb)
  rw [start_length] at this
  exact this
theorem acts_one {gs : List (Nat × Nat)} {n w : Nat} (h : w < n) (hb : ∀ g ∈ gs, g.2 < n) {l : List Bool} (hl : l.length = n) (h1 : Sound gs w l) (h2 : Closed gs l) : l = acts gs n w :=
  known_one h1 h2 (acts_sound gs h) (acts_closed h hb) (by rw [hl, acts_length])
theorem acts_iff {gs : List (Nat × Nat)} {n w : Nat} (h : w < n) (hb : ∀ g ∈ gs, g.2 < n) (k : Nat) : (acts gs n w)[k]? = some true ↔ Reach gs w k :=
  known_iff (acts_sound gs h) (acts_closed h hb) k
end Go.Proofs.Ytpbnmmgocpobcaa

/- The program's own count of an expression's parts. -/
import Derived.Test.YtpbnmmgocpobcaaM01
namespace Go.Proofs.Ytpbnmmgocpobcaa.Ex
open Go.RowKit
set_option linter.unusedVariables false

set_option maxHeartbeats 2000000 in
set_option maxRecDepth 100000 in
theorem left_any : ∀ (k : Nat) (cs : List Value) (d : D) (w : World) (m : Int), RX w k cs d → 0 ≤ m → m ≤ 15 →
    Calls Try.prog 34 #[.agg cs.toArray, .int .i64 m] w fun e w' => e = .returned (.int .i64 (m - partsX k d m)) ∧ Below w.heap.size w w' := by
  intro k
  induction k with
  | zero => intro cs d w m h; exact h.elim
  | succ k ih =>
    intro cs d w m h m0 m1
    obtain ⟨kd, n, v, ds, rfl, rfl, hkd, hn, hlen, ao, cap, rfl, hc⟩ := h
    have HC := hide hc
    have IH := hide ih
    have HL : ds.length ≤ 9223372036854775807 := hlen
    have hspec : partsX (k + 1) (xD kd n ds) m = addParts (partsX k) m ds 1 := rfl
    rw [hspec]
    have hbel : Below w.heap.size w (w.alloc (.cells #[.int .i64 kd, .int .i64 n, .slice ao ds.length cap] 54)) := (Below.refl _ w).alloc (Nat.le_refl _) _
    clear hc ih hspec hkd hn hlen
    show Calls Try.prog 34 #[.agg #[.int .i64 kd, .int .i64 n, .slice ao ds.length cap], .int .i64 m] w _
    go_enter Try.func34, Try.ntmps34
    go_wp2_with fail
    go_loopw [1, 12] (fun c i wr => ∃ (j : Nat) (t : Int), j ≤ ds.length ∧ i = .int .i64 j ∧ c = .int .i64 (m - t) ∧ 1 ≤ t ∧ t ≤ m + 1 ∧ addParts (partsX k) m ds 1 = addParts (partsX k) m (ds.drop j) t ∧ Below w.heap.size w wr) (fun _ i _ => ds.length - (intOf i).toNat)
    case atStart => exact ⟨0, 1, Nat.zero_le _, rfl, rfl, by omega, by omega, rfl, hbel⟩
    case round =>
      clear hbel
      obtain ⟨j, t, hj, rfl, rfl, t1, t2, hp, hB⟩ := hrel
      have HP := hide hp
      clear hp
      by_cases hjl : j < ds.length
      · obtain ⟨b, off, rfl, hcl⟩ := HC.out (by rintro rfl; simp at hjl)
        obtain ⟨cs, hl3, hcs, hr⟩ := hcl j ds[j] (List.getElem?_eq_getElem hjl)
        obtain ⟨ao', cap', hcse⟩ := hr.form
        have hnext := fun h => addParts_drop (f := partsX k) (m := m) (n := t) hjl h
        have hle := fun h => partsX_le k ds[j] (m - t) h
        obtain ⟨dj, hdj⟩ : ∃ dj, dj = ds[j] := ⟨_, rfl⟩
        rw [← hdj] at hnext hle hr hcse
        obtain ⟨kj, hkj⟩ : ∃ q, q = kindOf dj := ⟨_, rfl⟩
        obtain ⟨nj, hnj⟩ : ∃ q, q = numOf dj := ⟨_, rfl⟩
        obtain ⟨lj, hlj⟩ : ∃ q, q = (argsOf dj).length := ⟨_, rfl⟩
        rw [← hkj, ← hnj, ← hlj] at hcse
        subst hcse
        have q0 : wr.cell? ⟨b, off + j * 3, none⟩ = _ := cell_over hB _ _ (hcs 0 _ rfl)
        have q1 := cell_over hB _ _ (hcs 1 _ rfl)
        have q2 := cell_over hB _ _ (hcs 2 _ rfl)
        have hba : Below wr.heap.size wr (wr.alloc (.cells #[.int .i64 kj, .int .i64 nj, .slice ao' lj cap'] 54)) := (Below.refl _ wr).alloc (Nat.le_refl _) _
        have hBa : Below w.heap.size w (wr.alloc (.cells #[.int .i64 kj, .int .i64 nj, .slice ao' lj cap'] 54)) := hB.trans (hba.mono hB.size)
        by_cases htm : t ≤ m
        · have hnext := hnext htm
          have hle := hle (by omega)
          have hcall := IH.out _ dj _ (m - t) (hr.over hBa) (by omega) (by omega)
          obtain ⟨r, hre⟩ : ∃ r, r = partsX k dj (m - t) := ⟨_, rfl⟩
          rw [← hre] at hcall hnext hle
          have HCALL := hide hcall
          have HN := hide hnext
          clear hcall hnext hre hkj hnj hlj hr hcs hcl hl3 hdj
          go_wp2_with fail
          refine (HCALL.out).mono ?_
          rintro e w1 ⟨rfl, hb1⟩
          have hB' : Below w.heap.size w w1 := hBa.trans (hb1.mono hBa.size)
          clear q0 q1 q2 hB hb1 HCALL hba hBa
          go_wp2_with fail
          exact ⟨⟨j + 1, t + r, by omega, by go_num, by go_num, by omega, by omega, by rw [HP.out, HN.out], hB'⟩, by simp [intOf]; omega⟩
        · have hd := addParts_done (partsX k) m (ds.drop j) t (by omega)
          have HD := hide hd
          have hneg : m - t < 0 := by omega
          clear hd hnext hle hr hcs hcl hl3 hdj hkj hnj hlj htm
          go_wp2_with fail
          go_ret
          exact ⟨by rw [HP.out, HD.out]; rfl, hBa⟩
      · have hd : addParts (partsX k) m (ds.drop j) t = t := by rw [List.drop_eq_nil_of_le (by omega)]; rfl
        have HD := hide hd
        clear hd
        go_wp2_with fail
        go_ret
        exact ⟨by rw [HP.out, HD.out]; rfl, hB⟩

def argsX (k : Int) : Int := if k = 1 ∨ k = 2 then 0 else 2

set_option maxHeartbeats 400000 in
theorem args_any (k : Int) (w : World) : Calls Try.prog 51 #[.int .i64 k] w fun e w' => e = .returned (.int .i64 (argsX k)) ∧ w' = w := by
  by_cases h1 : k = 1
  · subst h1
    go_enter Try.func51, Try.ntmps51
    go_wp2
    go_ret
    exact ⟨rfl, rfl⟩
  · by_cases h2 : k = 2
    · subst h2
      go_enter Try.func51, Try.ntmps51
      go_wp2
      go_ret
      exact ⟨rfl, rfl⟩
    · have b1 : (k == 1) = false := by simpa using h1
      have b2 : (k == 2) = false := by simpa using h2
      go_enter Try.func51, Try.ntmps51
      go_wp2
      go_ret
      exact ⟨by simp [argsX, h1, h2], rfl⟩

theorem firstX_append (vars : Int) : ∀ (l m : List D), firstX vars (l ++ m) = if firstX vars l = 0 then firstX vars m else firstX vars l
  | [], m => by simp [firstX]
  | a :: l, m => by
    rw [List.cons_append, firstX, firstX]
    split
    · exact firstX_append vars l m
    · rfl
/-- what the parts of the arguments say, one behind the other. -/
def restX (vars : Int) (k : Nat) : List D → Int
  | [] => 0
  | a :: l => if firstX vars (listX k a) = 0 then restX vars k l else firstX vars (listX k a)
theorem restX_flat (vars : Int) (k : Nat) : ∀ l : List D, restX vars k l = firstX vars (l.flatMap (listX k))
  | [] => rfl
  | a :: l => by rw [restX, List.flatMap_cons, firstX_append, restX_flat vars k l]
theorem restX_drop {vars : Int} {k : Nat} {l : List D} {j : Nat} (hj : j < l.length) : restX vars k (l.drop j) = if firstX vars (listX k l[j]) = 0 then restX vars k (l.drop (j + 1)) else firstX vars (listX k l[j]) := by
  rw [List.drop_eq_getElem_cons hj]
  rfl
end Go.Proofs.Ytpbnmmgocpobcaa.Ex
/- The program's own check of an expression. -/
namespace Go.Proofs.Ytpbnmmgocpobcaa.Ex
open Go.RowKit
set_option linter.unusedVariables false

set_option maxHeartbeats 4000000 in
set_option maxRecDepth 100000 in
theorem part_head (vars kd n : Int) (dl cap : Nat) (ao : Option Addr) (w : World) (v0 : 0 ≤ vars) (v1 : vars ≤ 9223372036854775807) (HL : dl ≤ 9223372036854775807) (hkd : In64 kd) (hn : In64 n) (hE : errX vars kd n dl ≠ 0) :
    Calls Try.prog 35 #[.agg #[.int .i64 kd, .int .i64 n, .slice ao dl cap], .int .i64 vars] w fun e w' => e = .returned (.int .i64 (errX vars kd n dl)) ∧ Below w.heap.size w w' := by
  have hbel : Below w.heap.size w (w.alloc (.cells #[.int .i64 kd, .int .i64 n, .slice ao dl cap] 54)) := (Below.refl _ w).alloc (Nat.le_refl _) _
  have KA := hide fun W => args_any kd W
  obtain ⟨kl, ku⟩ := hkd
  obtain ⟨nl, nu⟩ := hn
  by_cases c1 : kd < 1 ∨ 7 < kd
  · have hr : errX vars kd n dl = 7 := by unfold errX; rw [if_pos (by omega)]
    rw [hr]
    clear hr hE
    rcases c1 with c1 | c1
    · go_enter Try.func35, Try.ntmps35
      go_wp2_with fail
      go_ret
      exact ⟨rfl, hbel⟩
    · have c0 : ¬ kd < 1 := by omega
      go_enter Try.func35, Try.ntmps35
      go_wp2_with fail
      go_ret
      exact ⟨rfl, hbel⟩
  · have c2 : 1 ≤ kd := by omega
    have c3 : kd ≤ 7 := by omega
    clear c1
    have e0 : (w.alloc (.cells #[.int .i64 kd, .int .i64 n, .slice ao dl cap] 54)).cell? ⟨w.heap.size, 0, none⟩ = some (.int .i64 kd) := by simp [go_sem]
    have e1 : (w.alloc (.cells #[.int .i64 kd, .int .i64 n, .slice ao dl cap] 54)).cell? ⟨w.heap.size, 1, none⟩ = some (.int .i64 n) := by simp [go_sem]
    have e2 : (w.alloc (.cells #[.int .i64 kd, .int .i64 n, .slice ao dl cap] 54)).cell? ⟨w.heap.size, 2, none⟩ = some (.slice ao dl cap) := by simp [go_sem]
    by_cases c4 : (dl : Int) = argsX kd
    · by_cases c5 : kd = 1
      · subst c5
        have c6 : dl = 0 := by simpa [argsX] using c4
        subst c6
        have ka : argsX 1 = 0 := rfl
        rw [ka] at KA
        have hr : errX vars 1 n 0 = 3 ∧ (n < -9999999 ∨ 9999999 < n) := by
          unfold errX at hE ⊢
          rw [if_neg (by omega), if_neg (by omega)] at hE ⊢
          by_cases q : n < -9999999 ∨ 9999999 < n
          · exact ⟨by rw [if_pos (by omega)], q⟩
          · rw [if_neg (by omega), if_neg (by omega)] at hE
            exact absurd rfl hE
        obtain ⟨hr, c5⟩ := hr
        rw [hr]
        clear hr hE c4 ka
        rcases c5 with c5 | c5
        · go_enter Try.func35, Try.ntmps35
          go_wp2_with fail
          go_region_held3 (fun W => W.cell? ⟨w.heap.size, 0, none⟩ = some (.int .i64 1) ∧ W.cell? ⟨w.heap.size, 1, none⟩ = some (.int .i64 n) ∧ W.cell? ⟨w.heap.size, 2, none⟩ = some (.slice ao 0 cap) ∧ Below w.heap.size w W) (first | assumption | exact ⟨e0, e1, e2, below_drewN hbel 1⟩ | fail) (first | (go_at_call 51; refine (KA.out _).mono ?_; rintro e wp ⟨rfl, rfl⟩))
          obtain ⟨g0, g1, g2, hB⟩ := (by assumption : _ ∧ _ ∧ _ ∧ Below _ _ _)
          go_wp2_with fail
          go_ret
          exact ⟨rfl, hB⟩
        · have c6 : ¬ n < -9999999 := by omega
          go_enter Try.func35, Try.ntmps35
          go_wp2_with fail
          go_region_held3 (fun W => W.cell? ⟨w.heap.size, 0, none⟩ = some (.int .i64 1) ∧ W.cell? ⟨w.heap.size, 1, none⟩ = some (.int .i64 n) ∧ W.cell? ⟨w.heap.size, 2, none⟩ = some (.slice ao 0 cap) ∧ Below w.heap.size w W) (first | assumption | exact ⟨e0, e1, e2, below_drewN hbel 1⟩ | fail) (first | (go_at_call 51; refine (KA.out _).mono ?_; rintro e wp ⟨rfl, rfl⟩))
          obtain ⟨g0, g1, g2, hB⟩ := (by assumption : _ ∧ _ ∧ _ ∧ Below _ _ _)
          go_wp2_with fail
          go_ret
          exact ⟨rfl, hB⟩
      · by_cases c7 : kd = 2
        · subst c7
          have c6 : dl = 0 := by simpa [argsX] using c4
          subst c6
          have ka : argsX 2 = 0 := rfl
          rw [ka] at KA
          have hr : errX vars 2 n 0 = 5 ∧ (n < 0 ∨ vars ≤ n) := by
            unfold errX at hE ⊢
            rw [if_neg (by omega), if_neg (by omega), if_neg (by omega)] at hE ⊢
            by_cases q : n < 0 ∨ vars ≤ n
            · exact ⟨by rw [if_pos (by omega)], q⟩
            · rw [if_neg (by omega)] at hE
              exact absurd rfl hE
          obtain ⟨hr, c5⟩ := hr
          rw [hr]
          clear hr hE c4 ka
          rcases c5 with c5 | c5
          · go_enter Try.func35, Try.ntmps35
            go_wp2_with fail
            go_region_held3 (fun W => W.cell? ⟨w.heap.size, 0, none⟩ = some (.int .i64 2) ∧ W.cell? ⟨w.heap.size, 1, none⟩ = some (.int .i64 n) ∧ W.cell? ⟨w.heap.size, 2, none⟩ = some (.slice ao 0 cap) ∧ Below w.heap.size w W) (first | assumption | exact ⟨e0, e1, e2, below_drewN hbel 1⟩ | fail) (first | (go_at_call 51; refine (KA.out _).mono ?_; rintro e wp ⟨rfl, rfl⟩))
            obtain ⟨g0, g1, g2, hB⟩ := (by assumption : _ ∧ _ ∧ _ ∧ Below _ _ _)
            go_wp2_with fail
            go_ret
            exact ⟨rfl, hB⟩
          · have c6 : ¬ n < 0 := by omega
            go_enter Try.func35, Try.ntmps35
            go_wp2_with fail
            go_region_held3 (fun W => W.cell? ⟨w.heap.size, 0, none⟩ = some (.int .i64 2) ∧ W.cell? ⟨w.heap.size, 1, none⟩ = some (.int .i64 n) ∧ W.cell? ⟨w.heap.size, 2, none⟩ = some (.slice ao 0 cap) ∧ Below w.heap.size w W) (first | assumption | exact ⟨e0, e1, e2, below_drewN hbel 1⟩ | fail) (first | (go_at_call 51; refine (KA.out _).mono ?_; rintro e wp ⟨rfl, rfl⟩))
            obtain ⟨g0, g1, g2, hB⟩ := (by assumption : _ ∧ _ ∧ _ ∧ Below _ _ _)
            go_wp2_with fail
            go_ret
            exact ⟨rfl, hB⟩
        · have ka : argsX kd = 2 := by unfold argsX; rw [if_neg (by omega)]
          rw [ka] at KA c4
          have c8 : dl = 2 := by omega
          subst c8
          have hr : errX vars kd n 2 = 3 ∧ n ≠ 0 := by
            unfold errX at hE ⊢
            rw [if_neg (by omega), if_neg (by omega)] at hE ⊢
            by_cases q : n = 0
            · rw [if_neg (by omega), if_neg (by omega)] at hE
              exact absurd rfl hE
            · exact ⟨by rw [if_pos (by omega)], q⟩
          obtain ⟨hr, c9⟩ := hr
          rw [hr]
          clear hr hE c4 ka
          go_enter Try.func35, Try.ntmps35
          go_wp2_with fail
          go_region_held3 (fun W => W.cell? ⟨w.heap.size, 0, none⟩ = some (.int .i64 kd) ∧ W.cell? ⟨w.heap.size, 1, none⟩ = some (.int .i64 n) ∧ W.cell? ⟨w.heap.size, 2, none⟩ = some (.slice ao 2 cap) ∧ Below w.heap.size w W) (first | assumption | exact ⟨e0, e1, e2, below_drewN hbel 1⟩ | fail) (first | (go_at_call 51; refine (KA.out _).mono ?_; rintro e wp ⟨rfl, rfl⟩))
          obtain ⟨g0, g1, g2, hB⟩ := (by assumption : _ ∧ _ ∧ _ ∧ Below _ _ _)
          go_wp2_with fail
          go_ret
          exact ⟨rfl, hB⟩
    · have hr : errX vars kd n dl = 1 := by
        unfold errX
        unfold argsX at c4
        rw [if_neg (by omega)]
        split at c4
        · rw [if_pos (by omega)]
        · rw [if_pos (by omega)]
      rw [hr]
      clear hr hE
      go_enter Try.func35, Try.ntmps35
      go_wp2_with fail
      go_region_held3 (fun W => W.cell? ⟨w.heap.size, 0, none⟩ = some (.int .i64 kd) ∧ W.cell? ⟨w.heap.size, 1, none⟩ = some (.int .i64 n) ∧ W.cell? ⟨w.heap.size, 2, none⟩ = some (.slice ao dl cap) ∧ Below w.heap.size w W) (first | assumption | exact ⟨e0, e1, e2, below_drewN hbel 1⟩ | fail) (first | (go_at_call 51; refine (KA.out _).mono ?_; rintro e wp ⟨rfl, rfl⟩))
      obtain ⟨g0, g1, g2, hB⟩ := (by assumption : _ ∧ _ ∧ _ ∧ Below _ _ _)
      go_wp2_with fail
      go_ret
      exact ⟨rfl, hB⟩

def boxX (kd n : Int) (ao : Option Addr) (dl cap : Nat) (w : World) : World := (w.alloc (.cells #[.int .i64 kd, .int .i64 n, .slice ao dl cap] 54))

set_option maxHeartbeats 4000000 in
set_option maxRecDepth 100000 in
theorem part_leaf (vars kd n : Int) (cap : Nat) (ao : Option Addr) (w : World) (v0 : 0 ≤ vars) (v1 : vars ≤ 9223372036854775807) (hE : errX vars kd n 0 = 0) :
    Calls Try.prog 35 #[.agg #[.int .i64 kd, .int .i64 n, .slice ao 0 cap], .int .i64 vars] w fun e w' => e = .returned (.int .i64 0) ∧ Below w.heap.size w w' := by
  have KA := hide fun W => args_any kd W
  rcases errX_zero hE with ⟨rfl, c1, c2⟩ | ⟨rfl, c1, c2⟩ | ⟨_, _, c3⟩
  · have hbel : Below w.heap.size w (w.alloc (.cells #[.int .i64 1, .int .i64 n, .slice ao 0 cap] 54)) := (Below.refl _ w).alloc (Nat.le_refl _) _
    have e0 : (w.alloc (.cells #[.int .i64 1, .int .i64 n, .slice ao 0 cap] 54)).cell? ⟨w.heap.size, 0, none⟩ = some (.int .i64 1) := by simp [go_sem]
    have e1 : (w.alloc (.cells #[.int .i64 1, .int .i64 n, .slice ao 0 cap] 54)).cell? ⟨w.heap.size, 1, none⟩ = some (.int .i64 n) := by simp [go_sem]
    have e2 : (w.alloc (.cells #[.int .i64 1, .int .i64 n, .slice ao 0 cap] 54)).cell? ⟨w.heap.size, 2, none⟩ = some (.slice ao 0 cap) := by simp [go_sem]
    have ka : argsX 1 = 0 := rfl
    rw [ka] at KA
    clear hE ka
    have c3 : ¬ n < -9999999 := by omega
    have c4 : ¬ 9999999 < n := by omega
    go_enter Try.func35, Try.ntmps35
    go_wp2_with fail
    go_region_held3 (fun W => W.cell? ⟨w.heap.size, 0, none⟩ = some (.int .i64 1) ∧ W.cell? ⟨w.heap.size, 1, none⟩ = some (.int .i64 n) ∧ W.cell? ⟨w.heap.size, 2, none⟩ = some (.slice ao 0 cap) ∧ Below w.heap.size w W) (first | assumption | exact ⟨e0, e1, e2, below_drewN hbel 1⟩ | fail) (first | (go_at_call 51; refine (KA.out _).mono ?_; rintro e wp ⟨rfl, rfl⟩))
    obtain ⟨g0, g1, g2, hB⟩ := (by assumption : _ ∧ _ ∧ _ ∧ Below _ _ _)
    go_wp2_with fail
    go_loopw [67] (fun i wr => i = .int .i64 0 ∧ Below w.heap.size w wr) (fun _ _ => 0)
    case atStart => exact ⟨rfl, hB⟩
    case round =>
      obtain ⟨rfl, hB2⟩ := hrel
      go_wp2_with fail
      go_ret
      exact ⟨rfl, hB2⟩
  · have hbel : Below w.heap.size w (w.alloc (.cells #[.int .i64 2, .int .i64 n, .slice ao 0 cap] 54)) := (Below.refl _ w).alloc (Nat.le_refl _) _
    have e0 : (w.alloc (.cells #[.int .i64 2, .int .i64 n, .slice ao 0 cap] 54)).cell? ⟨w.heap.size, 0, none⟩ = some (.int .i64 2) := by simp [go_sem]
    have e1 : (w.alloc (.cells #[.int .i64 2, .int .i64 n, .slice ao 0 cap] 54)).cell? ⟨w.heap.size, 1, none⟩ = some (.int .i64 n) := by simp [go_sem]
    have e2 : (w.alloc (.cells #[.int .i64 2, .int .i64 n, .slice ao 0 cap] 54)).cell? ⟨w.heap.size, 2, none⟩ = some (.slice ao 0 cap) := by simp [go_sem]
    have ka : argsX 2 = 0 := rfl
    rw [ka] at KA
    clear hE ka
    have c3 : ¬ n < 0 := by omega
    have c4 : ¬ vars ≤ n := by omega
    go_enter Try.func35, Try.ntmps35
    go_wp2_with fail
    go_region_held3 (fun W => W.cell? ⟨w.heap.size, 0, none⟩ = some (.int .i64 2) ∧ W.cell? ⟨w.heap.size, 1, none⟩ = some (.int .i64 n) ∧ W.cell? ⟨w.heap.size, 2, none⟩ = some (.slice ao 0 cap) ∧ Below w.heap.size w W) (first | assumption | exact ⟨e0, e1, e2, below_drewN hbel 1⟩ | fail) (first | (go_at_call 51; refine (KA.out _).mono ?_; rintro e wp ⟨rfl, rfl⟩))
    obtain ⟨g0, g1, g2, hB⟩ := (by assumption : _ ∧ _ ∧ _ ∧ Below _ _ _)
    go_wp2_with fail
    go_loopw [67] (fun i wr => i = .int .i64 0 ∧ Below w.heap.size w wr) (fun _ _ => 0)
    case atStart => exact ⟨rfl, hB⟩
    case round =>
      obtain ⟨rfl, hB2⟩ := hrel
      go_wp2_with fail
      go_ret
      exact ⟨rfl, hB2⟩
  · omega
end Go.Proofs.Ytpbnmmgocpobcaa.Ex

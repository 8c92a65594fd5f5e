/- The program's own count of an expression's parts. -/
import Derived.Test.YtdbepdabkciiiaaEo
namespace Go.Proofs.Ytdbepdabkciiiaa.Ex
open Go.RowKit
set_option linter.unusedVariables false

set_option maxHeartbeats 2000000 in
set_option maxRecDepth 100000 in
theorem left_any : ∀ (k : Nat) (cs : List Value) (d : D) (w : World) (m : Int), RX w k cs d → 0 ≤ m → m ≤ 15 →
    Calls Try.prog 18 #[.agg cs.toArray, .int .i64 m] w fun e w' => e = .returned (.int .i64 (m - partsX k d m)) ∧ Below w.heap.size w w' := by
  intro k
  induction k with
  | zero => intro cs d w m h; exact h.elim
  | succ k ih =>
    intro cs d w m h m0 m1
    obtain ⟨kd, n, v, ds, rfl, rfl, hkd, hn, hlen, ao, cap, rfl, hc⟩ := h
    have HC := hide hc
    have IH := hide ih
    have HL : ds.length ≤ 9223372036854775807 := hlen
    have hspec : partsX (k + 1) (xD kd n ds) m = addParts (partsX k) m ds 1 := rfl
    rw [hspec]
    have hbel : Below w.heap.size w (w.alloc (.cells #[.int .i64 kd, .int .i64 n, .slice ao ds.length cap] 24)) := (Below.refl _ w).alloc (Nat.le_refl _) _
    clear hc ih hspec hkd hn hlen
    show Calls Try.prog 18 #[.agg #[.int .i64 kd, .int .i64 n, .slice ao ds.length cap], .int .i64 m] w _
    go_enter Try.func18, Try.ntmps18
    go_wp2_with fail
    go_loopw [1, 12] (fun c i wr => ∃ (j : Nat) (t : Int), j ≤ ds.length ∧ i = .int .i64 j ∧ c = .int .i64 (m - t) ∧ 1 ≤ t ∧ t ≤ m + 1 ∧ addParts (partsX k) m ds 1 = addParts (partsX k) m (ds.drop j) t ∧ Below w.heap.size w wr) (fun _ i _ => ds.length - (intOf i).toNat)
    case atStart => exact ⟨0, 1, Nat.zero_le _, rfl, rfl, by omega, by omega, rfl, hbel⟩
    case round =>
      clear hbel
      obtain ⟨j, t, hj, rfl, rfl, t1, t2, hp, hB⟩ := hrel
      have HP := hide hp
      clear hp
      by_cases hjl : j < ds.length
      · obtain ⟨b, off, rfl, hcl⟩ := HC.out (by rintro rfl; simp at hjl)
        obtain ⟨cs, hl3, hcs, hr⟩ := hcl j ds[j] (List.getElem?_eq_getElem hjl)
        obtain ⟨ao', cap', hcse⟩ := hr.form
        have hnext := fun h => addParts_drop (f := partsX k) (m := m) (n := t) hjl h
        have hle := fun h => partsX_le k ds[j] (m - t) h
        obtain ⟨dj, hdj⟩ : ∃ dj, dj = ds[j] := ⟨_, rfl⟩
        rw [← hdj] at hnext hle hr hcse
        obtain ⟨kj, hkj⟩ : ∃ q, q = kindOf dj := ⟨_, rfl⟩
        obtain ⟨nj, hnj⟩ : ∃ q, q = numOf dj := ⟨_, rfl⟩
        obtain ⟨lj, hlj⟩ : ∃ q, q = (argsOf dj).length := ⟨_, rfl⟩
        rw [← hkj, ← hnj, ← hlj] at hcse
        subst hcse
        have q0 : wr.cell? ⟨b, off + j * 3, none⟩ = _ := cell_over hB _ _ (hcs 0 _ rfl)
        have q1 := cell_over hB _ _ (hcs 1 _ rfl)
        have q2 := cell_over hB _ _ (hcs 2 _ rfl)
        have hba : Below wr.heap.size wr (wr.alloc (.cells #[.int .i64 kj, .int .i64 nj, .slice ao' lj cap'] 24)) := (Below.refl _ wr).alloc (Nat.le_refl _) _
        have hBa : Below w.heap.size w (wr.alloc (.cells #[.int .i64 kj, .int .i64 nj, .slice ao' lj cap'] 24)) := hB.trans (hba.mono hB.size)
        by_cases htm : t ≤ m
        · have hnext := hnext htm
          have hle := hle (by omega)
          have hcall := IH.out _ dj _ (m - t) (hr.over hBa) (by omega) (by omega)
          obtain ⟨r, hre⟩ : ∃ r, r = partsX k dj (m - t) := ⟨_, rfl⟩
          rw [← hre] at hcall hnext hle
          have HCALL := hide hcall
          have HN := hide hnext
          clear hcall hnext hre hkj hnj hlj hr hcs hcl hl3 hdj
          go_wp2_with fail
          refine (HCALL.out).mono ?_
          rintro e w1 ⟨rfl, hb1⟩
          have hB' : Below w.heap.size w w1 := hBa.trans (hb1.mono hBa.size)
          clear q0 q1 q2 hB hb1 HCALL hba hBa
          go_wp2_with fail
          exact ⟨⟨j + 1, t + r, by omega, by go_num, by go_num, by omega, by omega, by rw [HP.out, HN.out], hB'⟩, by simp [intOf]; omega⟩
        · have hd := addParts_done (partsX k) m (ds.drop j) t (by omega)
          have HD := hide hd
          have hneg : m - t < 0 := by omega
          clear hd hnext hle hr hcs hcl hl3 hdj hkj hnj hlj htm
          go_wp2_with fail
          go_ret
          exact ⟨by rw [HP.out, HD.out]; rfl, hBa⟩
      · have hd : addParts (partsX k) m (ds.drop j) t = t := by rw [List.drop_eq_nil_of_le (by omega)]; rfl
        have HD := hide hd
        clear hd
        go_wp2_with fail
        go_ret
        exact ⟨by rw [HP.out, HD.out]; rfl, hB⟩

def argsX (k : Int) : Int := if k = 1 ∨ k = 2 then 0 else 2

set_option maxHeartbeats 400000 in
theorem args_any (k : Int) (w : World) : Calls Try.prog 28 #[.int .i64 k] w fun e w' => e = .returned (.int .i64 (argsX k)) ∧ w' = w := by
  by_cases h1 : k = 1
  · subst h1
    go_enter Try.func28, Try.ntmps28
    go_wp2
    go_ret
    exact ⟨rfl, rfl⟩
  · by_cases h2 : k = 2
    · subst h2
      go_enter Try.func28, Try.ntmps28
      go_wp2
      go_ret
      exact ⟨rfl, rfl⟩
    · have b1 : (k == 1) = false := by simpa using h1
      have b2 : (k == 2) = false := by simpa using h2
      go_enter Try.func28, Try.ntmps28
      go_wp2
      go_ret
      exact ⟨by simp [argsX, h1, h2], rfl⟩

theorem firstX_append (vars : Int) : ∀ (l m : List D), firstX vars (l ++ m) = if firstX vars l = 0 then firstX vars m else firstX vars l
  | [], m => by simp [firstX]
  | a :: l, m => by
    rw [List.cons_append, firstX, firstX]
    split
    · exact firstX_append vars l m
    · rfl
/-- what the parts of the arguments say, one behind the other. -/
def restX (vars : Int) (k : Nat) : List D → Int
  | [] => 0
  | a :: l => if firstX vars (listX k a) = 0 then restX vars k l else firstX vars (listX k a)
theorem restX_flat (vars : Int) (k : Nat) : ∀ l : List D, restX vars k l = firstX vars (l.flatMap (listX k))
  | [] => rfl
  | a :: l => by rw [restX, List.flatMap_cons, firstX_append, restX_flat vars k l]
theorem restX_drop {vars : Int} {k : Nat} {l : List D} {j : Nat} (hj : j < l.length) : restX vars k (l.drop j) = if firstX vars (listX k l[j]) = 0 then restX vars k (l.drop (j + 1)) else firstX vars (listX k l[j]) := by
  rw [List.drop_eq_getElem_cons hj]
  rfl
end Go.Proofs.Ytdbepdabkciiiaa.Ex

/- The document's own check of what is to be reckoned; an expression that passes it is right. -/
import Derived.Test.YtdbepdabkciiiaaEc
namespace Go.Proofs.Ytdbepdabkciiiaa.Ex
open Go.RowKit
set_option linter.unusedVariables false

def evalErr (vs : List Int) (k : Nat) (d : D) : Int := if checkX vs.length k d = 0 then (if vs.all in32 = true then 0 else 3) else checkX vs.length k d

theorem firstX_zero {vars : Int} : ∀ {l : List D}, firstX vars l = 0 → ∀ d ∈ l, errX vars (kindOf d) (numOf d) (argsOf d).length = 0
  | [], _, d, hd => by cases hd
  | a :: l, h, d, hd => by
    rw [firstX] at h
    split at h
    · rename_i h0
      rcases List.mem_cons.1 hd with rfl | hd
      · exact h0
      · exact firstX_zero h d hd
    · rename_i h0
      exact absurd h h0

theorem errX_zero {vars k n : Int} {l : Nat} (h : errX vars k n l = 0) : (k = 1 ∧ -9999999 ≤ n ∧ n ≤ 9999999) ∨ (k = 2 ∧ 0 ≤ n ∧ n < vars) ∨ (3 ≤ k ∧ k ≤ 7 ∧ l = 2) := by
  unfold errX at h
  split at h
  · omega
  · split at h
    · omega
    · split at h
      · omega
      · split at h
        · omega
        · omega

theorem okX_of {w : World} {m : Nat} : ∀ (k : Nat) (cs : List Value) (d : D), RX w k cs d → (∀ x ∈ listX k d, errX m (kindOf x) (numOf x) (argsOf x).length = 0) → okX m k d := by
  intro k
  induction k with
  | zero => intro cs d h; exact h.elim
  | succ k ih =>
    intro cs d h ha
    obtain ⟨kd, n, v, ds, rfl, rfl, hkd, hn, hlen, ao, cap, rfl, hc⟩ := h
    have h0 := errX_zero (ha (xD kd n ds) (by simp [listX]))
    simp only [kindOf_x, numOf_x, argsOf_x] at h0
    rcases h0 with h0 | h0 | ⟨h1, h2, h3⟩
    · exact Or.inl h0
    · exact Or.inr (Or.inl h0)
    · refine Or.inr (Or.inr ⟨h1, h2, ?_⟩)
      match ds, h3 with
      | [x, y], _ =>
        obtain ⟨b, off, -, hel⟩ := hc (by simp)
        obtain ⟨xs, -, -, hx⟩ := hel 0 x rfl
        obtain ⟨ys, -, -, hy⟩ := hel 1 y rfl
        exact ⟨x, y, rfl, ih xs x hx (fun q hq => ha q (by simp [listX, hq])), ih ys y hy (fun q hq => ha q (by simp [listX, hq]))⟩

theorem evalErr_zero {w : World} {vs : List Int} {k : Nat} {cs : List Value} {d : D} (h : RX w k cs d) (h0 : evalErr vs k d = 0) : okX vs.length k d ∧ ∀ x ∈ vs, I32 x := by
  unfold evalErr at h0
  split at h0
  · rename_i hc
    split at h0
    · rename_i hv
      refine ⟨?_, fun x hx => by have := List.all_eq_true.1 hv x hx; simpa [in32, I32] using this⟩
      unfold checkX at hc
      split at hc
      · omega
      · exact okX_of k cs d h (firstX_zero hc)
    · omega
  · rename_i hc
    exact absurd h0 hc

set_option maxHeartbeats 4000000 in
set_option maxRecDepth 100000 in
theorem checkEval_any (k : Nat) (cs : List Value) (d : D) (w : World) (vv : Value) (vs : List Int) (h : RX w k cs d) (hv : IsInts w vv vs) (hl : vs.length ≤ 9223372036854775807) :
    Calls Try.prog 5 #[.agg cs.toArray, vv] w fun e w' => e = .returned (.int .i64 (evalErr vs k d)) ∧ Below w.heap.size w w' := by
  have HV := hide fun (W : World) (hB : Below w.heap.size w W) => hv.over hB
  obtain ⟨va, vc, rfl, hvc⟩ := hv
  obtain ⟨ao, cap, rfl⟩ := h.form
  obtain ⟨kd, hkd⟩ : ∃ q, q = kindOf d := ⟨_, rfl⟩
  obtain ⟨n, hn⟩ : ∃ q, q = numOf d := ⟨_, rfl⟩
  obtain ⟨dl, hdl⟩ : ∃ q, q = (argsOf d).length := ⟨_, rfl⟩
  rw [← hkd, ← hn, ← hdl] at h ⊢
  clear hkd hn hdl
  have hbel : Below w.heap.size w (w.alloc (.cells #[.int .i64 kd, .int .i64 n, .slice ao dl cap] 24)) := (Below.refl _ w).alloc (Nat.le_refl _) _
  have HP := hide (checkExpr_any k _ d _ (vs.length : Int) (by omega) (by omega) (h.over hbel))
  obtain ⟨c, hc⟩ : ∃ q, q = checkX vs.length k d := ⟨_, rfl⟩
  have hev : evalErr vs k d = if c = 0 then (if vs.all in32 = true then 0 else 3) else c := by rw [hc]; rfl
  rw [← hc] at HP
  obtain ⟨ev, hE⟩ : ∃ q, q = evalErr vs k d := ⟨_, rfl⟩
  rw [← hE] at hev ⊢
  have HE := hide hev
  clear hev hE hc h hvc
  show Calls Try.prog 5 #[.agg #[.int .i64 kd, .int .i64 n, .slice ao dl cap], .slice va vs.length vc] w _
  go_enter Try.func5, Try.ntmps5
  go_wp2_with fail
  refine (HP.out).mono ?_
  rintro e w1 ⟨rfl, hb1⟩
  have hB1 : Below w.heap.size w w1 := hbel.trans (hb1.mono hbel.size)
  clear HP hb1 hbel
  go_wp2_with fail
  go_loopw [5, 6] (fun s i wr => ∃ (j : Nat) (t : Int), j ≤ vs.length ∧ i = .int .i64 j ∧ s = .int .i64 t ∧ (t = c ∧ (c = 0 → (vs.take j).all in32 = true) ∨ c = 0 ∧ t = 3 ∧ vs.all in32 = false) ∧ wr = w1) (fun _ i _ => vs.length - (intOf i).toNat)
  case atStart => exact ⟨0, c, Nat.zero_le _, rfl, rfl, Or.inl ⟨rfl, fun _ => rfl⟩, rfl⟩
  case round =>
    obtain ⟨j, t, hj, rfl, rfl, ht, rfl⟩ := hrel
    have HT := hide ht
    clear ht
    by_cases hjl : j < vs.length
    · by_cases ht0 : t = 0
      · subst ht0
        obtain ⟨a2, c2, he, hel⟩ := HV.out _ hB1
        obtain ⟨b, off, rfl, hel2⟩ := hel (by rintro rfl; simp at hjl)
        simp only [Value.slice.injEq] at he
        obtain ⟨rfl, -, rfl⟩ := he
        have y := hel2 j hjl
        have hnx : in32 vs[j] = true → (0 : Int) = c ∧ (c = 0 → (vs.take (j + 1)).all in32 = true) := fun hq => by
          rcases HT.out with ⟨h1, h2⟩ | ⟨_, h1, _⟩
          · refine ⟨h1, fun h3 => ?_⟩
            rw [List.take_succ_eq_append_getElem hjl, List.all_append, h2 h3]
            simp [hq]
          · omega
        have hst : in32 vs[j] = false → c = 0 ∧ vs.all in32 = false := fun hq => by
          rcases HT.out with ⟨h1, h2⟩ | ⟨_, h1, _⟩
          · exact ⟨h1.symm, by rw [List.all_eq_false]; exact ⟨vs[j], List.getElem_mem hjl, by simp [hq]⟩⟩
          · omega
        obtain ⟨x, hx⟩ : ∃ x, x = vs[j] := ⟨_, rfl⟩
        rw [← hx] at y hnx hst
        have hcall := isNumber_any x wr
        obtain ⟨r, hr⟩ : ∃ r, r = in32 x := ⟨_, rfl⟩
        rw [← hr] at hcall hnx hst
        have HCALL := hide hcall
        have HNX := hide hnx
        have HST := hide hst
        clear hcall hnx hst hr hx hel hel2 HT HV
        cases r with
        | true =>
          go_wp2_with fail
          refine (HCALL.out).mono ?_
          rintro e w2 ⟨rfl, rfl⟩
          go_wp2_with fail
          exact ⟨⟨j + 1, 0, by omega, by go_num, rfl, Or.inl (HNX.out (by first | rfl | trivial)), by first | rfl | trivial⟩, by simp [intOf]; omega⟩
        | false =>
          go_wp2_with fail
          refine (HCALL.out).mono ?_
          rintro e w2 ⟨rfl, rfl⟩
          go_wp2_with fail
          exact ⟨⟨j + 1, 3, by omega, by go_num, rfl, Or.inr ⟨(HST.out (by first | rfl | trivial)).1, rfl, (HST.out (by first | rfl | trivial)).2⟩, by first | rfl | trivial⟩, by simp [intOf]; omega⟩
      · have hr : ev = t := by
          rw [HE.out]
          rcases HT.out with ⟨h1, h2⟩ | ⟨h1, h2, h3⟩
          · rw [if_neg (by omega), h1]
          · rw [if_pos h1, h3, h2]; rfl
        subst hr
        clear HT HE HV
        go_wp2_with fail
        go_ret
        exact ⟨rfl, hB1⟩
    · have hr : ev = t := by
        rw [HE.out]
        rcases HT.out with ⟨h1, h2⟩ | ⟨h1, h2, h3⟩
        · rw [List.take_of_length_le (by omega)] at h2
          by_cases hc0 : c = 0
          · rw [if_pos hc0, if_pos (h2 hc0)]; omega
          · rw [if_neg hc0, h1]
        · rw [if_pos h1, h3, h2]; rfl
      subst hr
      clear HT HE HV
      go_wp2_with fail
      go_ret
      exact ⟨rfl, hB1⟩
end Go.Proofs.Ytdbepdabkciiiaa.Ex

/- The document's own check of an expression. -/
import Derived.Test.YtcbbjjenkommeaaM01
import Derived.Deep.SlicePairs
namespace Go.Proofs.Ytcbbjjenkommeaa.Ex
open Go.RowKit
set_option linter.unusedVariables false
def errX (vars k n : Int) (l : Nat) : Int :=
  if ¬ (1 ≤ k ∧ k ≤ 7) then 7 else if k ≤ 2 ∧ l ≠ 0 ∨ 2 < k ∧ l ≠ 2 then 1 else if k = 1 ∧ ¬ (-9999999 ≤ n ∧ n ≤ 9999999) ∨ 2 < k ∧ n ≠ 0 then 3 else if k = 2 ∧ ¬ (0 ≤ n ∧ n ≤ vars - 1) then 5 else 0
def firstX (vars : Int) : List D → Int
  | [] => 0
  | d :: l => if errX vars (kindOf d) (numOf d) (argsOf d).length = 0 then firstX vars l else errX vars (kindOf d) (numOf d) (argsOf d).length
def checkX (vars : Int) (k : Nat) (d : D) : Int := if 15 < partsX k d 15 then 2 else firstX vars (listX k d)

theorem firstX_drop {vars : Int} {l : List D} {j : Nat} (hj : j < l.length) : firstX vars (l.drop j) = if errX vars (kindOf l[j]) (numOf l[j]) (argsOf l[j]).length = 0 then firstX vars (l.drop (j + 1)) else errX vars (kindOf l[j]) (numOf l[j]) (argsOf l[j]).length := by
  rw [List.drop_eq_getElem_cons hj]
  rfl

theorem CellsOf.at : ∀ {l : List D} {xs : List Value}, CellsOf l xs → ∀ (j : Nat) (hj : j < l.length), ∃ (ao : Option Addr) (cap : Nat), xs[j * 3]? = some (.int .i64 (kindOf l[j])) ∧ xs[j * 3 + 1]? = some (.int .i64 (numOf l[j])) ∧ xs[j * 3 + 2]? = some (.slice ao (argsOf l[j]).length cap)
  | d :: l, _, h, 0, hj => by
    obtain ⟨ao, cap, r, rfl, hr⟩ := h
    exact ⟨ao, cap, rfl, rfl, rfl⟩
  | d :: l, _, h, j + 1, hj => by
    obtain ⟨ao, cap, r, rfl, hr⟩ := h
    obtain ⟨ao', cap', h0, h1, h2⟩ := hr.at j (by simpa using hj)
    refine ⟨ao', cap', ?_, ?_, ?_⟩
    · rw [Nat.succ_mul]; exact h0
    · rw [Nat.succ_mul]; exact h1
    · rw [Nat.succ_mul]; exact h2

theorem addParts_len (f : D → Int → Int) (g : D → List D) (hf : ∀ d m, 0 ≤ m → f d m ≤ m → ((g d).length : Int) ≤ f d m) (m : Int) : ∀ (l : List D) (n : Int), addParts f m l n ≤ m → ((l.flatMap g).length : Int) + n ≤ addParts f m l n
  | [], n, _ => by simp [addParts]
  | a :: l, n, h => by
    rw [addParts] at h ⊢
    split at h
    · rename_i hn
      rw [if_pos hn]
      have h1 := addParts_len f g hf m l _ h
      have h2 : (((a :: l).flatMap g).length : Int) = ((g a).length : Int) + ((l.flatMap g).length : Int) := by simp
      have h3 := hf a (m - n) (by omega) (by omega)
      omega
    · omega
theorem listX_len : ∀ (k : Nat) (d : D) (m : Int), 0 ≤ m → partsX k d m ≤ m → ((listX k d).length : Int) ≤ partsX k d m
  | 0, _, m, _, h => by simp [listX, partsX]
  | k + 1, d, m, h0, h => by
    have h1 := addParts_len (partsX k) (listX k) (listX_len k) m (argsOf d) 1 h
    have h2 : ((listX (k + 1) d).length : Int) = (((argsOf d).flatMap (listX k)).length : Int) + 1 := by simp [listX]
    rw [h2]
    exact h1

theorem btw {x a b : Int} {r : Bool} (h : decide (a ≤ x ∧ x ≤ b) = r) : Hid (∀ W, Calls Try.prog 67 #[.int .i64 x, .int .i64 a, .int .i64 b] W fun e w' => e = .returned (.bool r) ∧ w' = W) := fun W => h ▸ between_any x a b W

set_option maxHeartbeats 4000000 in
set_option maxRecDepth 100000 in
theorem checkExpr_any (k : Nat) (cs : List Value) (d : D) (w : World) (vars : Int) (v0 : 0 ≤ vars) (v1 : vars ≤ 9223372036854775807) (h : RX w k cs d) :
    Calls Try.prog 27 #[.agg cs.toArray, .int .i64 vars] w fun e w' => e = .returned (.int .i64 (checkX vars k d)) ∧ Below w.heap.size w w' := by
  obtain ⟨ao, cap, rfl⟩ := h.form
  obtain ⟨kd, hkd⟩ : ∃ q, q = kindOf d := ⟨_, rfl⟩
  obtain ⟨n, hn⟩ : ∃ q, q = numOf d := ⟨_, rfl⟩
  obtain ⟨dl, hdl⟩ : ∃ q, q = (argsOf d).length := ⟨_, rfl⟩
  rw [← hkd, ← hn, ← hdl] at h ⊢
  clear hkd hn hdl
  obtain ⟨w0, hw0⟩ : ∃ w0, w0 = w.alloc (.cells #[.int .i64 kd, .int .i64 n, .slice ao dl cap] 24) := ⟨_, rfl⟩
  have hbel : Below w.heap.size w w0 := by rw [hw0]; exact (Below.refl _ w).alloc (Nat.le_refl _) _
  have b0 : w0.cell? ⟨w.heap.size, 0, none⟩ = some (.int .i64 kd) := by rw [hw0]; simp [go_sem]
  have b1 : w0.cell? ⟨w.heap.size, 1, none⟩ = some (.int .i64 n) := by rw [hw0]; simp [go_sem]
  have b2 : w0.cell? ⟨w.heap.size, 2, none⟩ = some (.slice ao dl cap) := by rw [hw0]; simp [go_sem]
  have HP := hide (parts_any k _ d w0 15 (h.over hbel) (by omega) (by omega))
  have HA := hide fun (W : World) (hB : Below w.heap.size w W) => all_any k _ d W (h.over hB)
  have HLE := hide (listX_len k d 15 (by omega))
  obtain ⟨pc, hpc⟩ : ∃ q, q = partsX k d 15 := ⟨_, rfl⟩
  have hck : checkX vars k d = if 15 < pc then 2 else firstX vars (listX k d) := by rw [hpc]; rfl
  have hpos := listX_pos h
  obtain ⟨L, hL⟩ : ∃ L, L = listX k d := ⟨_, rfl⟩
  rw [← hL] at HA HLE hpos hck
  rw [← hpc] at HP HLE
  rw [hck]
  clear hck hpc h hL
  show Calls Try.prog 27 #[.agg #[.int .i64 kd, .int .i64 n, .slice ao dl cap], .int .i64 vars] w _
  by_cases hp : 15 < pc
  · rw [if_pos hp]
    have HW := hide hw0
    clear hw0
    go_enter Try.func27, Try.ntmps27
    go_wp2_with fail
    rw [← HW.out]
    refine (HP.out).mono ?_
    rintro e w1 ⟨rfl, hb1⟩
    have hB1 : Below w.heap.size w w1 := hbel.trans (hb1.mono hbel.size)
    go_wp2_with fail
    go_ret
    exact ⟨rfl, hB1⟩
  · rw [if_neg hp]
    have HW := hide hw0
    have hlen := HLE.out (by omega)
    clear hw0 HLE
    go_enter Try.func27, Try.ntmps27
    go_wp2_with fail
    rw [← HW.out]
    refine (HP.out).mono ?_
    rintro e w1 ⟨rfl, hb1⟩
    have hB1 : Below w.heap.size w w1 := hbel.trans (hb1.mono hbel.size)
    have d0 := cell_over hb1 _ _ b0
    have d1 := cell_over hb1 _ _ b1
    have d2 := cell_over hb1 _ _ b2
    have HAL := hide (HA.out w1 hB1 (by omega))
    clear b0 b1 b2 hbel hb1 HP HA HW w0
    go_wp2_with fail
    refine (HAL.out).mono ?_
    rintro e w2 ⟨lv, xs, rfl, hown, hcl, hb2⟩
    have hB2 : Below w.heap.size w w2 := hB1.trans (hb2.mono hB1.size)
    have hL15 : L.length ≤ 15 := by omega
    · obtain ⟨g, gc, rfl, hgb, hgl, hgc⟩ := own_cells hown hpos
      have HCL := hide hcl
      have HGC := hide hgc
      clear hown hcl hgc d0 d1 d2 hB1 hb2 HAL hlen
      go_wp2_with fail
      go_loopw [6] (fun i wr => ∃ j : Nat, j ≤ L.length ∧ i = .int .i64 j ∧ firstX vars L = firstX vars (L.drop j) ∧ Below w2.heap.size w2 wr) (fun i _ => L.length - (intOf i).toNat)
      case atStart => exact ⟨0, Nat.zero_le _, rfl, rfl, Below.refl _ _⟩
      case round =>
        obtain ⟨j, hj, rfl, hfe, hbl⟩ := hrel
        by_cases hjl : j < L.length
        · rw [firstX_drop hjl] at hfe
          obtain ⟨pa, pcap, x0, x1, x2⟩ := HCL.out.at j hjl
          obtain ⟨kj, hkj⟩ : ∃ q, q = kindOf L[j] := ⟨_, rfl⟩
          obtain ⟨nj, hnj⟩ : ∃ q, q = numOf L[j] := ⟨_, rfl⟩
          obtain ⟨lj, hlj⟩ : ∃ q, q = (argsOf L[j]).length := ⟨_, rfl⟩
          rw [← hkj, ← hnj, ← hlj] at hfe
          rw [← hkj] at x0
          rw [← hnj] at x1
          rw [← hlj] at x2
          have y0 := cell_over hbl _ _ (HGC.out _ _ x0)
          have y1 := cell_over hbl _ _ (HGC.out _ _ x1)
          have y2 := cell_over hbl _ _ (HGC.out _ _ x2)
          rw [Addr.add_lit] at y0 y1 y2
          have hfin : ∀ wf, Below wr.heap.size wr wf → Below w.heap.size w wf := fun wf hb => by
            have h1 := hB2.trans (hbl.mono hB2.size)
            exact h1.trans (hb.mono h1.size)
          have hnew : ∀ wf, Below wr.heap.size wr wf → Below w2.heap.size w2 wf := fun wf hb => hbl.trans (hb.mono hbl.size)
          have HE : Hid (∀ r, errX vars kj nj lj = r → r ≠ 0 → firstX vars L = r) := fun r h1 h2 => by rw [hfe, h1, if_neg h2]
          have HZ : Hid (errX vars kj nj lj = 0 → firstX vars L = firstX vars (L.drop (j + 1))) := fun h1 => by rw [hfe, if_pos h1]
          have HF := hide hfin
          have HNW := hide hnew
          clear hfe x0 x1 x2 hkj hnj hlj hfin hnew hbl
          simp only [Nat.zero_add] at y0 y1 y2
          by_cases hk : 1 ≤ kj ∧ kj ≤ 7
          · have K1 := fun (q : Int) (h1 : 1 ≤ q ∧ q ≤ 7) => btw (x := q) (a := 1) (b := 7) (r := true) (decide_eq_true h1)
            have HBX : Hid (Below wr.heap.size wr (wr.alloc (Obj.cells #[Value.int IntKind.i64 kj, Value.int IntKind.i64 nj, Value.slice pa lj pcap] 24))) := (Below.refl _ wr).alloc (Nat.le_refl _) _
            have K1 := K1 kj hk
            rcases (by omega : kj = 1 ∨ kj = 2 ∨ kj = 3 ∨ kj = 4 ∨ kj = 5 ∨ kj = 6 ∨ kj = 7) with rfl | rfl | rfl | rfl | rfl | rfl | rfl
            · by_cases hl : lj = 0
              · subst hl
                by_cases hn : -9999999 ≤ nj ∧ nj ≤ 9999999
                · have K2 := btw (x := nj) (a := -9999999) (b := 9999999) (r := true) (decide_eq_true hn)
                  have HR := hide (HZ.out (by simp [errX, hn]))
                  clear HE HZ HF
                  go_wp2_with fail
                  refine (K1.out _).mono ?_
                  rintro e w3 ⟨rfl, rfl⟩
                  go_wp2_with fail
                  refine (K2.out _).mono ?_
                  rintro e w3 ⟨rfl, rfl⟩
                  go_wp2_with fail
                  exact ⟨⟨j + 1, by omega, by go_num, HR.out, HNW.out _ HBX.out⟩, by simp [intOf]; omega⟩
                · have K2 := btw (x := nj) (a := -9999999) (b := 9999999) (r := false) (decide_eq_false hn)
                  have HR := hide (HE.out 3 (by unfold errX; rw [if_neg (by omega), if_neg (by omega), if_pos (Or.inl ⟨rfl, hn⟩)]) (by omega))
                  clear HE HZ HNW
                  go_wp2_with fail
                  refine (K1.out _).mono ?_
                  rintro e w3 ⟨rfl, rfl⟩
                  go_wp2_with fail
                  refine (K2.out _).mono ?_
                  rintro e w3 ⟨rfl, rfl⟩
                  go_wp2_with fail
                  go_ret
                  exact ⟨by rw [HR.out]; rfl, HF.out _ HBX.out⟩
              · have HR := hide (HE.out 1 (by unfold errX; rw [if_neg (by omega), if_pos (by omega)]) (by omega))
                clear HE HZ HNW
                go_wp2_with fail
                refine (K1.out _).mono ?_
                rintro e w3 ⟨rfl, rfl⟩
                go_wp2_with fail
                go_ret
                exact ⟨by rw [HR.out]; rfl, HF.out _ HBX.out⟩
            · by_cases hl : lj = 0
              · subst hl
                by_cases hn : 0 ≤ nj ∧ nj ≤ vars - 1
                · have K2 := btw (x := nj) (a := 0) (b := vars - 1) (r := true) (decide_eq_true hn)
                  have HR := hide (HZ.out (by unfold errX; rw [if_neg (by omega), if_neg (by omega), if_neg (by omega), if_neg (by omega)]))
                  clear HE HZ HF
                  go_wp2_with fail
                  refine (K1.out _).mono ?_
                  rintro e w3 ⟨rfl, rfl⟩
                  go_wp2_with fail
                  refine (K2.out _).mono ?_
                  rintro e w3 ⟨rfl, rfl⟩
                  go_wp2_with fail
                  exact ⟨⟨j + 1, by omega, by go_num, HR.out, HNW.out _ HBX.out⟩, by simp [intOf]; omega⟩
                · have K2 := btw (x := nj) (a := 0) (b := vars - 1) (r := false) (decide_eq_false hn)
                  have HR := hide (HE.out 5 (by unfold errX; rw [if_neg (by omega), if_neg (by omega), if_neg (by omega), if_pos ⟨rfl, hn⟩]) (by omega))
                  clear HE HZ HNW
                  go_wp2_with fail
                  refine (K1.out _).mono ?_
                  rintro e w3 ⟨rfl, rfl⟩
                  go_wp2_with fail
                  refine (K2.out _).mono ?_
                  rintro e w3 ⟨rfl, rfl⟩
                  go_wp2_with fail
                  go_ret
                  exact ⟨by rw [HR.out]; rfl, HF.out _ HBX.out⟩
              · have HR := hide (HE.out 1 (by unfold errX; rw [if_neg (by omega), if_pos (by omega)]) (by omega))
                clear HE HZ HNW
                go_wp2_with fail
                refine (K1.out _).mono ?_
                rintro e w3 ⟨rfl, rfl⟩
                go_wp2_with fail
                go_ret
                exact ⟨by rw [HR.out]; rfl, HF.out _ HBX.out⟩
            · by_cases hl : lj = 2
              · subst hl
                by_cases hn : nj = 0
                · subst hn
                  have HR := hide (HZ.out (by unfold errX; rw [if_neg (by omega), if_neg (by omega), if_neg (by omega), if_neg (by omega)]))
                  clear HE HZ HF
                  go_wp2_with fail
                  refine (K1.out _).mono ?_
                  rintro e w3 ⟨rfl, rfl⟩
                  go_wp2_with fail
                  exact ⟨⟨j + 1, by omega, by go_num, HR.out, HNW.out _ HBX.out⟩, by simp [intOf]; omega⟩
                · have HR := hide (HE.out 3 (by unfold errX; rw [if_neg (by omega), if_neg (by omega), if_pos (by omega)]) (by omega))
                  clear HE HZ HNW
                  go_wp2_with fail
                  refine (K1.out _).mono ?_
                  rintro e w3 ⟨rfl, rfl⟩
                  go_wp2_with fail
                  go_ret
                  exact ⟨by rw [HR.out]; rfl, HF.out _ HBX.out⟩
              · have HR := hide (HE.out 1 (by unfold errX; rw [if_neg (by omega), if_pos (by omega)]) (by omega))
                clear HE HZ HNW
                go_wp2_with fail
                refine (K1.out _).mono ?_
                rintro e w3 ⟨rfl, rfl⟩
                go_wp2_with fail
                go_ret
                exact ⟨by rw [HR.out]; rfl, HF.out _ HBX.out⟩
            · by_cases hl : lj = 2
              · subst hl
                by_cases hn : nj = 0
                · subst hn
                  have HR := hide (HZ.out (by unfold errX; rw [if_neg (by omega), if_neg (by omega), if_neg (by omega), if_neg (by omega)]))
                  clear HE HZ HF
                  go_wp2_with fail
                  refine (K1.out _).mono ?_
                  rintro e w3 ⟨rfl, rfl⟩
                  go_wp2_with fail
                  exact ⟨⟨j + 1, by omega, by go_num, HR.out, HNW.out _ HBX.out⟩, by simp [intOf]; omega⟩
                · have HR := hide (HE.out 3 (by unfold errX; rw [if_neg (by omega), if_neg (by omega), if_pos (by omega)]) (by omega))
                  clear HE HZ HNW
                  go_wp2_with fail
                  refine (K1.out _).mono ?_
                  rintro e w3 ⟨rfl, rfl⟩
                  go_wp2_with fail
                  go_ret
                  exact ⟨by rw [HR.out]; rfl, HF.out _ HBX.out⟩
              · have HR := hide (HE.out 1 (by unfold errX; rw [if_neg (by omega), if_pos (by omega)]) (by omega))
                clear HE HZ HNW
                go_wp2_with fail
                refine (K1.out _).mono ?_
                rintro e w3 ⟨rfl, rfl⟩
                go_wp2_with fail
                go_ret
                exact ⟨by rw [HR.out]; rfl, HF.out _ HBX.out⟩
            · by_cases hl : lj = 2
              · subst hl
                by_cases hn : nj = 0
                · subst hn
                  have HR := hide (HZ.out (by unfold errX; rw [if_neg (by omega), if_neg (by omega), if_neg (by omega), if_neg (by omega)]))
                  clear HE HZ HF
                  go_wp2_with fail
                  refine (K1.out _).mono ?_
                  rintro e w3 ⟨rfl, rfl⟩
                  go_wp2_with fail
                  exact ⟨⟨j + 1, by omega, by go_num, HR.out, HNW.out _ HBX.out⟩, by simp [intOf]; omega⟩
                · have HR := hide (HE.out 3 (by unfold errX; rw [if_neg (by omega), if_neg (by omega), if_pos (by omega)]) (by omega))
                  clear HE HZ HNW
                  go_wp2_with fail
                  refine (K1.out _).mono ?_
                  rintro e w3 ⟨rfl, rfl⟩
                  go_wp2_with fail
                  go_ret
                  exact ⟨by rw [HR.out]; rfl, HF.out _ HBX.out⟩
              · have HR := hide (HE.out 1 (by unfold errX; rw [if_neg (by omega), if_pos (by omega)]) (by omega))
                clear HE HZ HNW
                go_wp2_with fail
                refine (K1.out _).mono ?_
                rintro e w3 ⟨rfl, rfl⟩
                go_wp2_with fail
                go_ret
                exact ⟨by rw [HR.out]; rfl, HF.out _ HBX.out⟩
            · by_cases hl : lj = 2
              · subst hl
                by_cases hn : nj = 0
                · subst hn
                  have HR := hide (HZ.out (by unfold errX; rw [if_neg (by omega), if_neg (by omega), if_neg (by omega), if_neg (by omega)]))
                  clear HE HZ HF
                  go_wp2_with fail
                  refine (K1.out _).mono ?_
                  rintro e w3 ⟨rfl, rfl⟩
                  go_wp2_with fail
                  exact ⟨⟨j + 1, by omega, by go_num, HR.out, HNW.out _ HBX.out⟩, by simp [intOf]; omega⟩
                · have HR := hide (HE.out 3 (by unfold errX; rw [if_neg (by omega), if_neg (by omega), if_pos (by omega)]) (by omega))
                  clear HE HZ HNW
                  go_wp2_with fail
                  refine (K1.out _).mono ?_
                  rintro e w3 ⟨rfl, rfl⟩
                  go_wp2_with fail
                  go_ret
                  exact ⟨by rw [HR.out]; rfl, HF.out _ HBX.out⟩
              · have HR := hide (HE.out 1 (by unfold errX; rw [if_neg (by omega), if_pos (by omega)]) (by omega))
                clear HE HZ HNW
                go_wp2_with fail
                refine (K1.out _).mono ?_
                rintro e w3 ⟨rfl, rfl⟩
                go_wp2_with fail
                go_ret
                exact ⟨by rw [HR.out]; rfl, HF.out _ HBX.out⟩
            · by_cases hl : lj = 2
              · subst hl
                by_cases hn : nj = 0
                · subst hn
                  have HR := hide (HZ.out (by unfold errX; rw [if_neg (by omega), if_neg (by omega), if_neg (by omega), if_neg (by omega)]))
                  clear HE HZ HF
                  go_wp2_with fail
                  refine (K1.out _).mono ?_
                  rintro e w3 ⟨rfl, rfl⟩
                  go_wp2_with fail
                  exact ⟨⟨j + 1, by omega, by go_num, HR.out, HNW.out _ HBX.out⟩, by simp [intOf]; omega⟩
                · have HR := hide (HE.out 3 (by unfold errX; rw [if_neg (by omega), if_neg (by omega), if_pos (by omega)]) (by omega))
                  clear HE HZ HNW
                  go_wp2_with fail
                  refine (K1.out _).mono ?_
                  rintro e w3 ⟨rfl, rfl⟩
                  go_wp2_with fail
                  go_ret
                  exact ⟨by rw [HR.out]; rfl, HF.out _ HBX.out⟩
              · have HR := hide (HE.out 1 (by unfold errX; rw [if_neg (by omega), if_pos (by omega)]) (by omega))
                clear HE HZ HNW
                go_wp2_with fail
                refine (K1.out _).mono ?_
                rintro e w3 ⟨rfl, rfl⟩
                go_wp2_with fail
                go_ret
                exact ⟨by rw [HR.out]; rfl, HF.out _ HBX.out⟩
          · have K1 := btw (x := kj) (a := 1) (b := 7) (r := false) (by simpa using hk)
            have hr := HE.out 7 (by unfold errX; rw [if_pos hk]) (by omega)
            have HR := hide hr
            clear hr
            go_wp2_with fail
            refine (K1.out _).mono ?_
            rintro e w3 ⟨rfl, rfl⟩
            go_wp2_with fail
            go_ret
            exact ⟨by rw [HR.out]; rfl, HF.out _ ((Below.refl _ wr).alloc (Nat.le_refl _) _)⟩
        · have hz : firstX vars (L.drop j) = 0 := by rw [List.drop_eq_nil_of_le (by omega)]; rfl
          have HFE : Hid (firstX vars L = 0) := by rw [hfe]; exact hz
          clear hz hfe
          go_wp2_with fail
          go_ret
          exact ⟨by rw [HFE.out]; rfl, hB2.trans (hbl.mono hB2.size)⟩
def evalErr (vs : List Int) (k : Nat) (d : D) : Int := if checkX vs.length k d = 0 then (if vs.all in32 = true then 0 else 3) else checkX vs.length k d

theorem firstX_zero {vars : Int} : ∀ {l : List D}, firstX vars l = 0 → ∀ d ∈ l, errX vars (kindOf d) (numOf d) (argsOf d).length = 0
  | [], _, d, hd => by cases hd
  | a :: l, h, d, hd => by
    rw [firstX] at h
    split at h
    · rename_i h0
      rcases List.mem_cons.1 hd with rfl | hd
      · exact h0
      · exact firstX_zero h d hd
    · rename_i h0
      exact absurd h h0

theorem errX_zero {vars k n : Int} {l : Nat} (h : errX vars k n l = 0) : (k = 1 ∧ -9999999 ≤ n ∧ n ≤ 9999999) ∨ (k = 2 ∧ 0 ≤ n ∧ n < vars) ∨ (3 ≤ k ∧ k ≤ 7 ∧ l = 2) := by
  unfold errX at h
  split at h
  · omega
  · split at h
    · omega
    · split at h
      · omega
      · split at h
        · omega
        · omega

theorem okX_of {w : World} {m : Nat} : ∀ (k : Nat) (cs : List Value) (d : D), RX w k cs d → (∀ x ∈ listX k d, errX m (kindOf x) (numOf x) (argsOf x).length = 0) → okX m k d := by
  intro k
  induction k with
  | zero => intro cs d h; exact h.elim
  | succ k ih =>
    intro cs d h ha
    obtain ⟨kd, n, v, ds, rfl, rfl, hkd, hn, hlen, ao, cap, rfl, hc⟩ := h
    have h0 := errX_zero (ha (xD kd n ds) (by simp [listX]))
    simp only [kindOf_x, numOf_x, argsOf_x] at h0
    rcases h0 with h0 | h0 | ⟨h1, h2, h3⟩
    · exact Or.inl h0
    · exact Or.inr (Or.inl h0)
    · refine Or.inr (Or.inr ⟨h1, h2, ?_⟩)
      match ds, h3 with
      | [x, y], _ =>
        obtain ⟨b, off, -, hel⟩ := hc (by simp)
        obtain ⟨xs, -, -, hx⟩ := hel 0 x rfl
        obtain ⟨ys, -, -, hy⟩ := hel 1 y rfl
        exact ⟨x, y, rfl, ih xs x hx (fun q hq => ha q (by simp [listX, hq])), ih ys y hy (fun q hq => ha q (by simp [listX, hq]))⟩

theorem evalErr_zero {w : World} {vs : List Int} {k : Nat} {cs : List Value} {d : D} (h : RX w k cs d) (h0 : evalErr vs k d = 0) : okX vs.length k d ∧ ∀ x ∈ vs, I32 x := by
  unfold evalErr at h0
  split at h0
  · rename_i hc
    split at h0
    · rename_i hv
      refine ⟨?_, fun x hx => by have := List.all_eq_true.1 hv x hx; simpa [in32, I32] using this⟩
      unfold checkX at hc
      split at hc
      · omega
      · exact okX_of k cs d h (firstX_zero hc)
    · omega
  · rename_i hc
    exact absurd h0 hc

set_option maxHeartbeats 4000000 in
set_option maxRecDepth 100000 in
theorem checkEval_any (k : Nat) (cs : List Value) (d : D) (w : World) (vv : Value) (vs : List Int) (h : RX w k cs d) (hv : IsInts w vv vs) (hl : vs.length ≤ 9223372036854775807) :
    Calls Try.prog 9 #[.agg cs.toArray, vv] w fun e w' => e = .returned (.int .i64 (evalErr vs k d)) ∧ Below w.heap.size w w' := by
  have HV := hide fun (W : World) (hB : Below w.heap.size w W) => hv.over hB
  obtain ⟨va, vc, rfl, hvc⟩ := hv
  obtain ⟨ao, cap, rfl⟩ := h.form
  obtain ⟨kd, hkd⟩ : ∃ q, q = kindOf d := ⟨_, rfl⟩
  obtain ⟨n, hn⟩ : ∃ q, q = numOf d := ⟨_, rfl⟩
  obtain ⟨dl, hdl⟩ : ∃ q, q = (argsOf d).length := ⟨_, rfl⟩
  rw [← hkd, ← hn, ← hdl] at h ⊢
  clear hkd hn hdl
  have hbel : Below w.heap.size w (w.alloc (.cells #[.int .i64 kd, .int .i64 n, .slice ao dl cap] 24)) := (Below.refl _ w).alloc (Nat.le_refl _) _
  have HP := hide (checkExpr_any k _ d _ (vs.length : Int) (by omega) (by omega) (h.over hbel))
  obtain ⟨c, hc⟩ : ∃ q, q = checkX vs.length k d := ⟨_, rfl⟩
  have hev : evalErr vs k d = if c = 0 then (if vs.all in32 = true then 0 else 3) else c := by rw [hc]; rfl
  rw [← hc] at HP
  obtain ⟨ev, hE⟩ : ∃ q, q = evalErr vs k d := ⟨_, rfl⟩
  rw [← hE] at hev ⊢
  have HE := hide hev
  clear hev hE hc h hvc
  show Calls Try.prog 9 #[.agg #[.int .i64 kd, .int .i64 n, .slice ao dl cap], .slice va vs.length vc] w _
  go_enter Try.func9, Try.ntmps9
  go_wp2_with fail
  refine (HP.out).mono ?_
  rintro e w1 ⟨rfl, hb1⟩
  have hB1 : Below w.heap.size w w1 := hbel.trans (hb1.mono hbel.size)
  clear HP hb1 hbel
  go_wp2_with fail
  go_loopw [5, 6] (fun s i wr => ∃ (j : Nat) (t : Int), j ≤ vs.length ∧ i = .int .i64 j ∧ s = .int .i64 t ∧ (t = c ∧ (c = 0 → (vs.take j).all in32 = true) ∨ c = 0 ∧ t = 3 ∧ vs.all in32 = false) ∧ wr = w1) (fun _ i _ => vs.length - (intOf i).toNat)
  case atStart => exact ⟨0, c, Nat.zero_le _, rfl, rfl, Or.inl ⟨rfl, fun _ => rfl⟩, rfl⟩
  case round =>
    obtain ⟨j, t, hj, rfl, rfl, ht, rfl⟩ := hrel
    have HT := hide ht
    clear ht
    by_cases hjl : j < vs.length
    · by_cases ht0 : t = 0
      · subst ht0
        obtain ⟨a2, c2, he, hel⟩ := HV.out _ hB1
        obtain ⟨b, off, rfl, hel2⟩ := hel (by rintro rfl; simp at hjl)
        simp only [Value.slice.injEq] at he
        obtain ⟨rfl, -, rfl⟩ := he
        have y := hel2 j hjl
        have hnx : in32 vs[j] = true → (0 : Int) = c ∧ (c = 0 → (vs.take (j + 1)).all in32 = true) := fun hq => by
          rcases HT.out with ⟨h1, h2⟩ | ⟨_, h1, _⟩
          · refine ⟨h1, fun h3 => ?_⟩
            rw [List.take_succ_eq_append_getElem hjl, List.all_append, h2 h3]
            simp [hq]
          · omega
        have hst : in32 vs[j] = false → c = 0 ∧ vs.all in32 = false := fun hq => by
          rcases HT.out with ⟨h1, h2⟩ | ⟨_, h1, _⟩
          · exact ⟨h1.symm, by rw [List.all_eq_false]; exact ⟨vs[j], List.getElem_mem hjl, by simp [hq]⟩⟩
          · omega
        obtain ⟨x, hx⟩ : ∃ x, x = vs[j] := ⟨_, rfl⟩
        rw [← hx] at y hnx hst
        have hcall := isNumber_any x wr
        obtain ⟨r, hr⟩ : ∃ r, r = in32 x := ⟨_, rfl⟩
        rw [← hr] at hcall hnx hst
        have HCALL := hide hcall
        have HNX := hide hnx
        have HST := hide hst
        clear hcall hnx hst hr hx hel hel2 HT HV
        cases r with
        | true =>
          go_wp2_with fail
          refine (HCALL.out).mono ?_
          rintro e w2 ⟨rfl, rfl⟩
          go_wp2_with fail
          exact ⟨⟨j + 1, 0, by omega, by go_num, rfl, Or.inl (HNX.out (by first | rfl | trivial)), by first | rfl | trivial⟩, by simp [intOf]; omega⟩
        | false =>
          go_wp2_with fail
          refine (HCALL.out).mono ?_
          rintro e w2 ⟨rfl, rfl⟩
          go_wp2_with fail
          exact ⟨⟨j + 1, 3, by omega, by go_num, rfl, Or.inr ⟨(HST.out (by first | rfl | trivial)).1, rfl, (HST.out (by first | rfl | trivial)).2⟩, by first | rfl | trivial⟩, by simp [intOf]; omega⟩
      · have hr : ev = t := by
          rw [HE.out]
          rcases HT.out with ⟨h1, h2⟩ | ⟨h1, h2, h3⟩
          · rw [if_neg (by omega), h1]
          · rw [if_pos h1, h3, h2]; rfl
        subst hr
        clear HT HE HV
        go_wp2_with fail
        go_ret
        exact ⟨rfl, hB1⟩
    · have hr : ev = t := by
        rw [HE.out]
        rcases HT.out with ⟨h1, h2⟩ | ⟨h1, h2, h3⟩
        · rw [List.take_of_length_le (by omega)] at h2
          by_cases hc0 : c = 0
          · rw [if_pos hc0, if_pos (h2 hc0)]; omega
          · rw [if_neg hc0, h1]
        · rw [if_pos h1, h3, h2]; rfl
      subst hr
      clear HT HE HV
      go_wp2_with fail
      go_ret
      exact ⟨rfl, hB1⟩
end Go.Proofs.Ytcbbjjenkommeaa.Ex
namespace Go.Proofs.Ytcbbjjenkommeaa.Ex
open Go.RowKit Go.ChangeShapes Go.WideShapes
set_option linter.unusedVariables false
theorem open_vars {H : Type} {enc : TypeId × Value → H} {W : World} {fuel : Nat} {v : Value} {x : DataW H × List MemPlace} (h : DataW.trod enc Try.prog W 0 (fun _ => true) true fuel 25 [v] = some x) :
    ∃ l : List Int, IsInts W v l ∧ l.length ≤ maxLen := by
  rcases Deep.open_slice1 Try.underlying25 Try.cellsI h with ⟨hcs, hx⟩ | ⟨a, len, cap, m, n, V, D, Pl, hcs, _, hl, hm, hmm, hx, hel⟩
  · simp at hcs
    subst hcs
    exact ⟨[], ⟨none, 0, rfl, fun h => absurd rfl h⟩, by simp⟩
  · simp at hcs
    subst hcs
    simp only [if_true] at hmm
    have hget : ∀ i, i < len → ∃ t : Int, W.cell? (a.add i) = some (.int .i64 t) := fun i hi => by
      obtain ⟨hc, htr⟩ := hel i (by omega)
      obtain ⟨t, e, _⟩ := DataW.trod_int Try.underlying3 htr
      simp at e
      rw [e] at hc
      exact ⟨t, hc⟩
    obtain ⟨f, hf⟩ := Deep.choose_lt hget
    refine ⟨(List.range len).map f, ⟨some a, cap, by simp, fun hne => ?_⟩, by simpa using Nat.le_trans hl hm⟩
    have h0 : 0 < len := by
      rcases Nat.eq_zero_or_pos len with h | h
      · subst h; simp at hne
      · exact h
    have hp : ∃ b off, a = ⟨b, off, none⟩ := by
      have hk := hf 0 h0
      have hsp : a.spot = none := by simpa [Addr.add] using World.cell?_spot hk
      obtain ⟨b, off, sp⟩ := a
      simp only at hsp
      subst hsp
      exact ⟨b, off, rfl⟩
    obtain ⟨b, off, rfl⟩ := hp
    refine ⟨b, off, rfl, fun i hi => ?_⟩
    have hi' : i < len := by simpa using hi
    have hc := hf i hi'
    rw [Addr.add_lit] at hc
    simpa using hc

set_option maxRecDepth 100000 in
/-- an argument that is an expression. -/
theorem open_arg {H : Type} {enc : TypeId × Value → H} {W : World} {r : Go.Reach} {b0 : Nat} {v : Value} {d : DataW H} {p : List MemPlace} (hv : Value.okWide Try.prog W r b0 24 v) (h : DataW.Trod enc Try.prog W 0 (fun _ => true) true 24 v d p) :
    ∃ (k : Nat) (cs : List Value) (d' : Ex.D), v = .agg cs.toArray ∧ RX W k cs d' := by
  obtain ⟨cs, rfl, hsz⟩ := okWide_struct Try.underlying24 hv
  obtain ⟨fuel, hf⟩ := h
  obtain ⟨d', hd⟩ := open_expr fuel _ _ hf
  exact ⟨fuel, _, d', by simp [Value.cells], hd⟩
end Go.Proofs.Ytcbbjjenkommeaa.Ex
namespace Go.Proofs.Ytcbbjjenkommeaa.Ex
open Go.RowKit
set_option linter.unusedVariables false
set_option maxHeartbeats 2000000 in
set_option maxRecDepth 100000 in
theorem left_any : ∀ (k : Nat) (cs : List Value) (d : D) (w : World) (m : Int), RX w k cs d → 0 ≤ m → m ≤ 15 →
    Calls Try.prog 61 #[.agg cs.toArray, .int .i64 m] w fun e w' => e = .returned (.int .i64 (m - partsX k d m)) ∧ Below w.heap.size w w' := by
  intro k
  induction k with
  | zero => intro cs d w m h; exact h.elim
  | succ k ih =>
    intro cs d w m h m0 m1
    obtain ⟨kd, n, v, ds, rfl, rfl, hkd, hn, hlen, ao, cap, rfl, hc⟩ := h
    have HC := hide hc
    have IH := hide ih
    have HL : ds.length ≤ 9223372036854775807 := hlen
    have hspec : partsX (k + 1) (xD kd n ds) m = addParts (partsX k) m ds 1 := rfl
    rw [hspec]
    have hbel : Below w.heap.size w (w.alloc (.cells #[.int .i64 kd, .int .i64 n, .slice ao ds.length cap] 24)) := (Below.refl _ w).alloc (Nat.le_refl _) _
    clear hc ih hspec hkd hn hlen
    show Calls Try.prog 61 #[.agg #[.int .i64 kd, .int .i64 n, .slice ao ds.length cap], .int .i64 m] w _
    go_enter Try.func61, Try.ntmps61
    go_wp2_with fail
    go_loopw [1, 12] (fun c i wr => ∃ (j : Nat) (t : Int), j ≤ ds.length ∧ i = .int .i64 j ∧ c = .int .i64 (m - t) ∧ 1 ≤ t ∧ t ≤ m + 1 ∧ addParts (partsX k) m ds 1 = addParts (partsX k) m (ds.drop j) t ∧ Below w.heap.size w wr) (fun _ i _ => ds.length - (intOf i).toNat)
    case atStart => exact ⟨0, 1, Nat.zero_le _, rfl, rfl, by omega, by omega, rfl, hbel⟩
    case round =>
      clear hbel
      obtain ⟨j, t, hj, rfl, rfl, t1, t2, hp, hB⟩ := hrel
      have HP := hide hp
      clear hp
      by_cases hjl : j < ds.length
      · obtain ⟨b, off, rfl, hcl⟩ := HC.out (by rintro rfl; simp at hjl)
        obtain ⟨cs, hl3, hcs, hr⟩ := hcl j ds[j] (List.getElem?_eq_getElem hjl)
        obtain ⟨ao', cap', hcse⟩ := hr.form
        have hnext := fun h => addParts_drop (f := partsX k) (m := m) (n := t) hjl h
        have hle := fun h => partsX_le k ds[j] (m - t) h
        obtain ⟨dj, hdj⟩ : ∃ dj, dj = ds[j] := ⟨_, rfl⟩
        rw [← hdj] at hnext hle hr hcse
        obtain ⟨kj, hkj⟩ : ∃ q, q = kindOf dj := ⟨_, rfl⟩
        obtain ⟨nj, hnj⟩ : ∃ q, q = numOf dj := ⟨_, rfl⟩
        obtain ⟨lj, hlj⟩ : ∃ q, q = (argsOf dj).length := ⟨_, rfl⟩
        rw [← hkj, ← hnj, ← hlj] at hcse
        subst hcse
        have q0 : wr.cell? ⟨b, off + j * 3, none⟩ = _ := cell_over hB _ _ (hcs 0 _ rfl)
        have q1 := cell_over hB _ _ (hcs 1 _ rfl)
        have q2 := cell_over hB _ _ (hcs 2 _ rfl)
        have hba : Below wr.heap.size wr (wr.alloc (.cells #[.int .i64 kj, .int .i64 nj, .slice ao' lj cap'] 24)) := (Below.refl _ wr).alloc (Nat.le_refl _) _
        have hBa : Below w.heap.size w (wr.alloc (.cells #[.int .i64 kj, .int .i64 nj, .slice ao' lj cap'] 24)) := hB.trans (hba.mono hB.size)
        by_cases htm : t ≤ m
        · have hnext := hnext htm
          have hle := hle (by omega)
          have hcall := IH.out _ dj _ (m - t) (hr.over hBa) (by omega) (by omega)
          obtain ⟨r, hre⟩ : ∃ r, r = partsX k dj (m - t) := ⟨_, rfl⟩
          rw [← hre] at hcall hnext hle
          have HCALL := hide hcall
          have HN := hide hnext
          clear hcall hnext hre hkj hnj hlj hr hcs hcl hl3 hdj
          go_wp2_with fail
          refine (HCALL.out).mono ?_
          rintro e w1 ⟨rfl, hb1⟩
          have hB' : Below w.heap.size w w1 := hBa.trans (hb1.mono hBa.size)
          clear q0 q1 q2 hB hb1 HCALL hba hBa
          go_wp2_with fail
          exact ⟨⟨j + 1, t + r, by omega, by go_num, by go_num, by omega, by omega, by rw [HP.out, HN.out], hB'⟩, by simp [intOf]; omega⟩
        · have hd := addParts_done (partsX k) m (ds.drop j) t (by omega)
          have HD := hide hd
          have hneg : m - t < 0 := by omega
          clear hd hnext hle hr hcs hcl hl3 hdj hkj hnj hlj htm
          go_wp2_with fail
          go_ret
          exact ⟨by rw [HP.out, HD.out]; rfl, hBa⟩
      · have hd : addParts (partsX k) m (ds.drop j) t = t := by rw [List.drop_eq_nil_of_le (by omega)]; rfl
        have HD := hide hd
        clear hd
        go_wp2_with fail
        go_ret
        exact ⟨by rw [HP.out, HD.out]; rfl, hB⟩

def argsX (k : Int) : Int := if k = 1 ∨ k = 2 then 0 else 2

set_option maxHeartbeats 400000 in
theorem args_any (k : Int) (w : World) : Calls Try.prog 96 #[.int .i64 k] w fun e w' => e = .returned (.int .i64 (argsX k)) ∧ w' = w := by
  by_cases h1 : k = 1
  · subst h1
    go_enter Try.func96, Try.ntmps96
    go_wp2
    go_ret
    exact ⟨rfl, rfl⟩
  · by_cases h2 : k = 2
    · subst h2
      go_enter Try.func96, Try.ntmps96
      go_wp2
      go_ret
      exact ⟨rfl, rfl⟩
    · have b1 : (k == 1) = false := by simpa using h1
      have b2 : (k == 2) = false := by simpa using h2
      go_enter Try.func96, Try.ntmps96
      go_wp2
      go_ret
      exact ⟨by simp [argsX, h1, h2], rfl⟩

theorem firstX_append (vars : Int) : ∀ (l m : List D), firstX vars (l ++ m) = if firstX vars l = 0 then firstX vars m else firstX vars l
  | [], m => by simp [firstX]
  | a :: l, m => by
    rw [List.cons_append, firstX, firstX]
    split
    · exact firstX_append vars l m
    · rfl
/-- what the parts of the arguments say, one behind the other. -/
def restX (vars : Int) (k : Nat) : List D → Int
  | [] => 0
  | a :: l => if firstX vars (listX k a) = 0 then restX vars k l else firstX vars (listX k a)
theorem restX_flat (vars : Int) (k : Nat) : ∀ l : List D, restX vars k l = firstX vars (l.flatMap (listX k))
  | [] => rfl
  | a :: l => by rw [restX, List.flatMap_cons, firstX_append, restX_flat vars k l]
theorem restX_drop {vars : Int} {k : Nat} {l : List D} {j : Nat} (hj : j < l.length) : restX vars k (l.drop j) = if firstX vars (listX k l[j]) = 0 then restX vars k (l.drop (j + 1)) else firstX vars (listX k l[j]) := by
  rw [List.drop_eq_getElem_cons hj]
  rfl
set_option maxHeartbeats 4000000 in
set_option maxRecDepth 100000 in
theorem part_head (vars kd n : Int) (dl cap : Nat) (ao : Option Addr) (w : World) (v0 : 0 ≤ vars) (v1 : vars ≤ 9223372036854775807) (HL : dl ≤ 9223372036854775807) (hkd : In64 kd) (hn : In64 n) (hE : errX vars kd n dl ≠ 0) :
    Calls Try.prog 62 #[.agg #[.int .i64 kd, .int .i64 n, .slice ao dl cap], .int .i64 vars] w fun e w' => e = .returned (.int .i64 (errX vars kd n dl)) ∧ Below w.heap.size w w' := by
  have hbel : Below w.heap.size w (w.alloc (.cells #[.int .i64 kd, .int .i64 n, .slice ao dl cap] 24)) := (Below.refl _ w).alloc (Nat.le_refl _) _
  have KA := hide fun W => args_any kd W
  obtain ⟨kl, ku⟩ := hkd
  obtain ⟨nl, nu⟩ := hn
  by_cases c1 : kd < 1 ∨ 7 < kd
  · have hr : errX vars kd n dl = 7 := by unfold errX; rw [if_pos (by omega)]
    rw [hr]
    clear hr hE
    rcases c1 with c1 | c1
    · go_enter Try.func62, Try.ntmps62
      go_wp2_with fail
      go_ret
      exact ⟨rfl, hbel⟩
    · have c0 : ¬ kd < 1 := by omega
      go_enter Try.func62, Try.ntmps62
      go_wp2_with fail
      go_ret
      exact ⟨rfl, hbel⟩
  · have c2 : 1 ≤ kd := by omega
    have c3 : kd ≤ 7 := by omega
    clear c1
    have e0 : (w.alloc (.cells #[.int .i64 kd, .int .i64 n, .slice ao dl cap] 24)).cell? ⟨w.heap.size, 0, none⟩ = some (.int .i64 kd) := by simp [go_sem]
    have e1 : (w.alloc (.cells #[.int .i64 kd, .int .i64 n, .slice ao dl cap] 24)).cell? ⟨w.heap.size, 1, none⟩ = some (.int .i64 n) := by simp [go_sem]
    have e2 : (w.alloc (.cells #[.int .i64 kd, .int .i64 n, .slice ao dl cap] 24)).cell? ⟨w.heap.size, 2, none⟩ = some (.slice ao dl cap) := by simp [go_sem]
    by_cases c4 : (dl : Int) = argsX kd
    · by_cases c5 : kd = 1
      · subst c5
        have c6 : dl = 0 := by simpa [argsX] using c4
        subst c6
        have ka : argsX 1 = 0 := rfl
        rw [ka] at KA
        have hr : errX vars 1 n 0 = 3 ∧ (n < -9999999 ∨ 9999999 < n) := by
          unfold errX at hE ⊢
          rw [if_neg (by omega), if_neg (by omega)] at hE ⊢
          by_cases q : n < -9999999 ∨ 9999999 < n
          · exact ⟨by rw [if_pos (by omega)], q⟩
          · rw [if_neg (by omega), if_neg (by omega)] at hE
            exact absurd rfl hE
        obtain ⟨hr, c5⟩ := hr
        rw [hr]
        clear hr hE c4 ka
        rcases c5 with c5 | c5
        · go_enter Try.func62, Try.ntmps62
          go_wp2_with fail
          go_region_held3 (fun W => W.cell? ⟨w.heap.size, 0, none⟩ = some (.int .i64 1) ∧ W.cell? ⟨w.heap.size, 1, none⟩ = some (.int .i64 n) ∧ W.cell? ⟨w.heap.size, 2, none⟩ = some (.slice ao 0 cap) ∧ Below w.heap.size w W) (first | assumption | exact ⟨e0, e1, e2, below_drewN hbel 1⟩ | fail) (first | (go_at_call 96; refine (KA.out _).mono ?_; rintro e wp ⟨rfl, rfl⟩))
          obtain ⟨g0, g1, g2, hB⟩ := (by assumption : _ ∧ _ ∧ _ ∧ Below _ _ _)
          go_wp2_with fail
          go_ret
          exact ⟨rfl, hB⟩
        · have c6 : ¬ n < -9999999 := by omega
          go_enter Try.func62, Try.ntmps62
          go_wp2_with fail
          go_region_held3 (fun W => W.cell? ⟨w.heap.size, 0, none⟩ = some (.int .i64 1) ∧ W.cell? ⟨w.heap.size, 1, none⟩ = some (.int .i64 n) ∧ W.cell? ⟨w.heap.size, 2, none⟩ = some (.slice ao 0 cap) ∧ Below w.heap.size w W) (first | assumption | exact ⟨e0, e1, e2, below_drewN hbel 1⟩ | fail) (first | (go_at_call 96; refine (KA.out _).mono ?_; rintro e wp ⟨rfl, rfl⟩))
          obtain ⟨g0, g1, g2, hB⟩ := (by assumption : _ ∧ _ ∧ _ ∧ Below _ _ _)
          go_wp2_with fail
          go_ret
          exact ⟨rfl, hB⟩
      · by_cases c7 : kd = 2
        · subst c7
          have c6 : dl = 0 := by simpa [argsX] using c4
          subst c6
          have ka : argsX 2 = 0 := rfl
          rw [ka] at KA
          have hr : errX vars 2 n 0 = 5 ∧ (n < 0 ∨ vars ≤ n) := by
            unfold errX at hE ⊢
            rw [if_neg (by omega), if_neg (by omega), if_neg (by omega)] at hE ⊢
            by_cases q : n < 0 ∨ vars ≤ n
            · exact ⟨by rw [if_pos (by omega)], q⟩
            · rw [if_neg (by omega)] at hE
              exact absurd rfl hE
          obtain ⟨hr, c5⟩ := hr
          rw [hr]
          clear hr hE c4 ka
          rcases c5 with c5 | c5
          · go_enter Try.func62, Try.ntmps62
            go_wp2_with fail
            go_region_held3 (fun W => W.cell? ⟨w.heap.size, 0, none⟩ = some (.int .i64 2) ∧ W.cell? ⟨w.heap.size, 1, none⟩ = some (.int .i64 n) ∧ W.cell? ⟨w.heap.size, 2, none⟩ = some (.slice ao 0 cap) ∧ Below w.heap.size w W) (first | assumption | exact ⟨e0, e1, e2, below_drewN hbel 1⟩ | fail) (first | (go_at_call 96; refine (KA.out _).mono ?_; rintro e wp ⟨rfl, rfl⟩))
            obtain ⟨g0, g1, g2, hB⟩ := (by assumption : _ ∧ _ ∧ _ ∧ Below _ _ _)
            go_wp2_with fail
            go_ret
            exact ⟨rfl, hB⟩
          · have c6 : ¬ n < 0 := by omega
            go_enter Try.func62, Try.ntmps62
            go_wp2_with fail
            go_region_held3 (fun W => W.cell? ⟨w.heap.size, 0, none⟩ = some (.int .i64 2) ∧ W.cell? ⟨w.heap.size, 1, none⟩ = some (.int .i64 n) ∧ W.cell? ⟨w.heap.size, 2, none⟩ = some (.slice ao 0 cap) ∧ Below w.heap.size w W) (first | assumption | exact ⟨e0, e1, e2, below_drewN hbel 1⟩ | fail) (first | (go_at_call 96; refine (KA.out _).mono ?_; rintro e wp ⟨rfl, rfl⟩))
            obtain ⟨g0, g1, g2, hB⟩ := (by assumption : _ ∧ _ ∧ _ ∧ Below _ _ _)
            go_wp2_with fail
            go_ret
            exact ⟨rfl, hB⟩
        · have ka : argsX kd = 2 := by unfold argsX; rw [if_neg (by omega)]
          rw [ka] at KA c4
          have c8 : dl = 2 := by omega
          subst c8
          have hr : errX vars kd n 2 = 3 ∧ n ≠ 0 := by
            unfold errX at hE ⊢
            rw [if_neg (by omega), if_neg (by omega)] at hE ⊢
            by_cases q : n = 0
            · rw [if_neg (by omega), if_neg (by omega)] at hE
              exact absurd rfl hE
            · exact ⟨by rw [if_pos (by omega)], q⟩
          obtain ⟨hr, c9⟩ := hr
          rw [hr]
          clear hr hE c4 ka
          go_enter Try.func62, Try.ntmps62
          go_wp2_with fail
          go_region_held3 (fun W => W.cell? ⟨w.heap.size, 0, none⟩ = some (.int .i64 kd) ∧ W.cell? ⟨w.heap.size, 1, none⟩ = some (.int .i64 n) ∧ W.cell? ⟨w.heap.size, 2, none⟩ = some (.slice ao 2 cap) ∧ Below w.heap.size w W) (first | assumption | exact ⟨e0, e1, e2, below_drewN hbel 1⟩ | fail) (first | (go_at_call 96; refine (KA.out _).mono ?_; rintro e wp ⟨rfl, rfl⟩))
          obtain ⟨g0, g1, g2, hB⟩ := (by assumption : _ ∧ _ ∧ _ ∧ Below _ _ _)
          go_wp2_with fail
          go_ret
          exact ⟨rfl, hB⟩
    · have hr : errX vars kd n dl = 1 := by
        unfold errX
        unfold argsX at c4
        rw [if_neg (by omega)]
        split at c4
        · rw [if_pos (by omega)]
        · rw [if_pos (by omega)]
      rw [hr]
      clear hr hE
      go_enter Try.func62, Try.ntmps62
      go_wp2_with fail
      go_region_held3 (fun W => W.cell? ⟨w.heap.size, 0, none⟩ = some (.int .i64 kd) ∧ W.cell? ⟨w.heap.size, 1, none⟩ = some (.int .i64 n) ∧ W.cell? ⟨w.heap.size, 2, none⟩ = some (.slice ao dl cap) ∧ Below w.heap.size w W) (first | assumption | exact ⟨e0, e1, e2, below_drewN hbel 1⟩ | fail) (first | (go_at_call 96; refine (KA.out _).mono ?_; rintro e wp ⟨rfl, rfl⟩))
      obtain ⟨g0, g1, g2, hB⟩ := (by assumption : _ ∧ _ ∧ _ ∧ Below _ _ _)
      go_wp2_with fail
      go_ret
      exact ⟨rfl, hB⟩

set_option maxHeartbeats 4000000 in
set_option maxRecDepth 100000 in
theorem part_leaf (vars kd n : Int) (cap : Nat) (ao : Option Addr) (w : World) (v0 : 0 ≤ vars) (v1 : vars ≤ 9223372036854775807) (hE : errX vars kd n 0 = 0) :
    Calls Try.prog 62 #[.agg #[.int .i64 kd, .int .i64 n, .slice ao 0 cap], .int .i64 vars] w fun e w' => e = .returned (.int .i64 0) ∧ Below w.heap.size w w' := by
  have KA := hide fun W => args_any kd W
  rcases errX_zero hE with ⟨rfl, c1, c2⟩ | ⟨rfl, c1, c2⟩ | ⟨_, _, c3⟩
  · have hbel : Below w.heap.size w (w.alloc (.cells #[.int .i64 1, .int .i64 n, .slice ao 0 cap] 24)) := (Below.refl _ w).alloc (Nat.le_refl _) _
    have e0 : (w.alloc (.cells #[.int .i64 1, .int .i64 n, .slice ao 0 cap] 24)).cell? ⟨w.heap.size, 0, none⟩ = some (.int .i64 1) := by simp [go_sem]
    have e1 : (w.alloc (.cells #[.int .i64 1, .int .i64 n, .slice ao 0 cap] 24)).cell? ⟨w.heap.size, 1, none⟩ = some (.int .i64 n) := by simp [go_sem]
    have e2 : (w.alloc (.cells #[.int .i64 1, .int .i64 n, .slice ao 0 cap] 24)).cell? ⟨w.heap.size, 2, none⟩ = some (.slice ao 0 cap) := by simp [go_sem]
    have ka : argsX 1 = 0 := rfl
    rw [ka] at KA
    clear hE ka
    have c3 : ¬ n < -9999999 := by omega
    have c4 : ¬ 9999999 < n := by omega
    go_enter Try.func62, Try.ntmps62
    go_wp2_with fail
    go_region_held3 (fun W => W.cell? ⟨w.heap.size, 0, none⟩ = some (.int .i64 1) ∧ W.cell? ⟨w.heap.size, 1, none⟩ = some (.int .i64 n) ∧ W.cell? ⟨w.heap.size, 2, none⟩ = some (.slice ao 0 cap) ∧ Below w.heap.size w W) (first | assumption | exact ⟨e0, e1, e2, below_drewN hbel 1⟩ | fail) (first | (go_at_call 96; refine (KA.out _).mono ?_; rintro e wp ⟨rfl, rfl⟩))
    obtain ⟨g0, g1, g2, hB⟩ := (by assumption : _ ∧ _ ∧ _ ∧ Below _ _ _)
    go_wp2_with fail
    go_loopw [67] (fun i wr => i = .int .i64 0 ∧ Below w.heap.size w wr) (fun _ _ => 0)
    case atStart => exact ⟨rfl, hB⟩
    case round =>
      obtain ⟨rfl, hB2⟩ := hrel
      go_wp2_with fail
      go_ret
      exact ⟨rfl, hB2⟩
  · have hbel : Below w.heap.size w (w.alloc (.cells #[.int .i64 2, .int .i64 n, .slice ao 0 cap] 24)) := (Below.refl _ w).alloc (Nat.le_refl _) _
    have e0 : (w.alloc (.cells #[.int .i64 2, .int .i64 n, .slice ao 0 cap] 24)).cell? ⟨w.heap.size, 0, none⟩ = some (.int .i64 2) := by simp [go_sem]
    have e1 : (w.alloc (.cells #[.int .i64 2, .int .i64 n, .slice ao 0 cap] 24)).cell? ⟨w.heap.size, 1, none⟩ = some (.int .i64 n) := by simp [go_sem]
    have e2 : (w.alloc (.cells #[.int .i64 2, .int .i64 n, .slice ao 0 cap] 24)).cell? ⟨w.heap.size, 2, none⟩ = some (.slice ao 0 cap) := by simp [go_sem]
    have ka : argsX 2 = 0 := rfl
    rw [ka] at KA
    clear hE ka
    have c3 : ¬ n < 0 := by omega
    have c4 : ¬ vars ≤ n := by omega
    go_enter Try.func62, Try.ntmps62
    go_wp2_with fail
    go_region_held3 (fun W => W.cell? ⟨w.heap.size, 0, none⟩ = some (.int .i64 2) ∧ W.cell? ⟨w.heap.size, 1, none⟩ = some (.int .i64 n) ∧ W.cell? ⟨w.heap.size, 2, none⟩ = some (.slice ao 0 cap) ∧ Below w.heap.size w W) (first | assumption | exact ⟨e0, e1, e2, below_drewN hbel 1⟩ | fail) (first | (go_at_call 96; refine (KA.out _).mono ?_; rintro e wp ⟨rfl, rfl⟩))
    obtain ⟨g0, g1, g2, hB⟩ := (by assumption : _ ∧ _ ∧ _ ∧ Below _ _ _)
    go_wp2_with fail
    go_loopw [67] (fun i wr => i = .int .i64 0 ∧ Below w.heap.size w wr) (fun _ _ => 0)
    case atStart => exact ⟨rfl, hB⟩
    case round =>
      obtain ⟨rfl, hB2⟩ := hrel
      go_wp2_with fail
      go_ret
      exact ⟨rfl, hB2⟩
  · omega
set_option maxHeartbeats 4000000 in
set_option maxRecDepth 100000 in
theorem part_any (vars : Int) (v0 : 0 ≤ vars) (v1 : vars ≤ 9223372036854775807) : ∀ (k : Nat) (cs : List Value) (d : D) (w : World), RX w k cs d →
    Calls Try.prog 62 #[.agg cs.toArray, .int .i64 vars] w fun e w' => e = .returned (.int .i64 (firstX vars (listX k d))) ∧ Below w.heap.size w w' := by
  intro k
  induction k with
  | zero => intro cs d w h; exact h.elim
  | succ k ih =>
    intro cs d w h
    obtain ⟨kd, n, v, ds, rfl, rfl, hkd, hn, hlen, ao, cap, rfl, hc⟩ := h
    have hspec : firstX vars (listX (k + 1) (xD kd n ds)) = if errX vars kd n ds.length = 0 then restX vars k ds else errX vars kd n ds.length := by
      rw [restX_flat]
      rfl
    rw [hspec]
    show Calls Try.prog 62 #[.agg #[.int .i64 kd, .int .i64 n, .slice ao ds.length cap], .int .i64 vars] w _
    by_cases hE : errX vars kd n ds.length = 0
    · rw [if_pos hE]
      have hz := errX_zero hE
      cases ds with
      | nil => exact part_leaf vars kd n cap ao w v0 v1 hE
      | cons d0 dr =>
        have hk3 : 3 ≤ kd ∧ kd ≤ 7 ∧ (d0 :: dr).length = 2 ∧ n = 0 := by
          rcases hz with ⟨rfl, _, _⟩ | ⟨rfl, _, _⟩ | ⟨z1, z2, z3⟩
          · exfalso
            unfold errX at hE
            rw [if_neg (by omega), if_pos (by simp)] at hE
            omega
          · exfalso
            unfold errX at hE
            rw [if_neg (by omega), if_pos (by simp)] at hE
            omega
          · refine ⟨z1, z2, z3, ?_⟩
            rw [z3] at hE
            unfold errX at hE
            rw [if_neg (by omega), if_neg (by omega)] at hE
            by_cases q : n = 0
            · exact q
            · rw [if_pos (by omega)] at hE
              omega
        obtain ⟨k1, k2, z3, rfl⟩ := hk3
        obtain ⟨ds, hds⟩ : ∃ q, q = d0 :: dr := ⟨_, rfl⟩
        rw [← hds] at hc z3 ⊢
        rw [z3]
        have HC := hide hc
        have IH := hide ih
        have KA := hide fun W => args_any kd W
        have ka : argsX kd = 2 := by unfold argsX; rw [if_neg (by omega)]
        rw [ka] at KA
        have hbel : Below w.heap.size w (w.alloc (.cells #[.int .i64 kd, .int .i64 0, .slice ao 2 cap] 24)) := (Below.refl _ w).alloc (Nat.le_refl _) _
        have e0 : (w.alloc (.cells #[.int .i64 kd, .int .i64 0, .slice ao 2 cap] 24)).cell? ⟨w.heap.size, 0, none⟩ = some (.int .i64 kd) := by simp [go_sem]
        have e1 : (w.alloc (.cells #[.int .i64 kd, .int .i64 0, .slice ao 2 cap] 24)).cell? ⟨w.heap.size, 1, none⟩ = some (.int .i64 0) := by simp [go_sem]
        have e2 : (w.alloc (.cells #[.int .i64 kd, .int .i64 0, .slice ao 2 cap] 24)).cell? ⟨w.heap.size, 2, none⟩ = some (.slice ao 2 cap) := by simp [go_sem]
        have n1 : kd ≠ 1 := by omega
        have n2 : kd ≠ 2 := by omega
        obtain ⟨R, hR⟩ : ∃ q, q = restX vars k ds := ⟨_, rfl⟩
        have HR := hide hR
        have HZ := hide z3
        rw [← hR]
        clear hc ih hspec hE hz hlen hkd hn ka hds z3 hR
        go_enter Try.func62, Try.ntmps62
        go_wp2_with fail
        go_region_held3 (fun W => W.cell? ⟨w.heap.size, 0, none⟩ = some (.int .i64 kd) ∧ W.cell? ⟨w.heap.size, 1, none⟩ = some (.int .i64 0) ∧ W.cell? ⟨w.heap.size, 2, none⟩ = some (.slice ao 2 cap) ∧ Below w.heap.size w W) (first | assumption | exact ⟨e0, e1, e2, below_drewN hbel 1⟩ | fail) (first | (go_at_call 96; refine (KA.out _).mono ?_; rintro e wp ⟨rfl, rfl⟩))
        obtain ⟨g0, g1, g2, hB⟩ := (by assumption : _ ∧ _ ∧ _ ∧ Below _ _ _)
        go_wp2_with fail
        go_loopw [67] (fun i wr => ∃ (j : Nat), j ≤ 2 ∧ i = .int .i64 j ∧ R = restX vars k (ds.drop j) ∧ Below w.heap.size w wr) (fun i _ => 2 - (intOf i).toNat)
        case atStart => exact ⟨0, Nat.zero_le _, rfl, HR.out, hB⟩
        case round =>
          clear hB g0 g1 g2
          obtain ⟨j, hj, rfl, hp, hB⟩ := hrel
          have HP := hide hp
          clear hp
          by_cases hjl : j < 2
          · have hjd : j < ds.length := by rw [HZ.out]; exact hjl
            obtain ⟨b, off, rfl, hcl⟩ := HC.out (by rintro rfl; simp at hjd)
            obtain ⟨cs, hl3, hcs, hr⟩ := hcl j ds[j] (List.getElem?_eq_getElem hjd)
            obtain ⟨ao', cap', hcse⟩ := hr.form
            have hnext := restX_drop (vars := vars) (k := k) hjd
            obtain ⟨dj, hdj⟩ : ∃ dj, dj = ds[j] := ⟨_, rfl⟩
            rw [← hdj] at hnext hr hcse
            obtain ⟨kj, hkj⟩ : ∃ q, q = kindOf dj := ⟨_, rfl⟩
            obtain ⟨nj, hnj⟩ : ∃ q, q = numOf dj := ⟨_, rfl⟩
            obtain ⟨lj, hlj⟩ : ∃ q, q = (argsOf dj).length := ⟨_, rfl⟩
            rw [← hkj, ← hnj, ← hlj] at hcse
            subst hcse
            have q0 : wr.cell? ⟨b, off + j * 3, none⟩ = _ := cell_over hB _ _ (hcs 0 _ rfl)
            have q1 := cell_over hB _ _ (hcs 1 _ rfl)
            have q2 := cell_over hB _ _ (hcs 2 _ rfl)
            have hba : Below wr.heap.size wr (wr.alloc (.cells #[.int .i64 kj, .int .i64 nj, .slice ao' lj cap'] 24)) := (Below.refl _ wr).alloc (Nat.le_refl _) _
            have hBa : Below w.heap.size w (wr.alloc (.cells #[.int .i64 kj, .int .i64 nj, .slice ao' lj cap'] 24)) := hB.trans (hba.mono hB.size)
            have hcall := IH.out _ dj _ (hr.over hBa)
            obtain ⟨r, hre⟩ : ∃ r, r = firstX vars (listX k dj) := ⟨_, rfl⟩
            rw [← hre] at hcall hnext
            have HCALL := hide hcall
            have HN := hide hnext
            clear hcall hnext hre hkj hnj hlj hr hcs hcl hl3 hdj hjd
            by_cases hr0 : r = 0
            · subst hr0
              go_wp2_with fail
              refine (HCALL.out).mono ?_
              rintro e w1 ⟨rfl, hb1⟩
              have hB' : Below w.heap.size w w1 := hBa.trans (hb1.mono hBa.size)
              clear q0 q1 q2 hB hb1 HCALL hba hBa
              go_wp2_with fail
              exact ⟨⟨j + 1, by omega, by go_num, by rw [HP.out, HN.out]; rfl, hB'⟩, by simp [intOf]; omega⟩
            · have hd : R = r := by rw [HP.out, HN.out, if_neg hr0]
              subst hd
              clear HP HN HR
              go_wp2_with fail
              refine (HCALL.out).mono ?_
              rintro e w1 ⟨rfl, hb1⟩
              have hB' : Below w.heap.size w w1 := hBa.trans (hb1.mono hBa.size)
              clear q0 q1 q2 hB hb1 HCALL hba hBa
              go_wp2_with fail
              go_ret
              exact ⟨rfl, hB'⟩
          · have hd : R = 0 := by
              rw [HP.out, List.drop_eq_nil_of_le (by rw [HZ.out]; omega)]
              rfl
            subst hd
            clear HP HR
            go_wp2_with fail
            go_ret
            exact ⟨rfl, hB⟩
    · rw [if_neg hE]
      exact part_head vars kd n ds.length cap ao w v0 v1 hlen hkd hn hE

set_option maxHeartbeats 1000000 in
set_option maxRecDepth 100000 in
theorem check_any (k : Nat) (cs : List Value) (d : D) (w : World) (vars : Int) (v0 : 0 ≤ vars) (v1 : vars ≤ 9223372036854775807) (h : RX w k cs d) :
    Calls Try.prog 23 #[.agg cs.toArray, .int .i64 vars] w fun e w' => e = .returned (.int .i64 (checkX vars k d)) ∧ Below w.heap.size w w' := by
  have K1 := hide fun W hB => left_any k cs d W 15 (h.over hB) (by omega) (by omega)
  have K2 := hide fun W hB => part_any vars v0 v1 k cs d W (h.over hB)
  obtain ⟨ao, cap, rfl⟩ := h.form
  obtain ⟨kd, hkd⟩ : ∃ q, q = kindOf d := ⟨_, rfl⟩
  obtain ⟨n, hn⟩ : ∃ q, q = numOf d := ⟨_, rfl⟩
  obtain ⟨dl, hdl⟩ : ∃ q, q = (argsOf d).length := ⟨_, rfl⟩
  rw [← hkd, ← hn, ← hdl] at K1 K2 ⊢
  clear hkd hn hdl
  obtain ⟨p, hp⟩ : ∃ q, q = partsX k d 15 := ⟨_, rfl⟩
  have hspec : checkX vars k d = if 15 < p then 2 else firstX vars (listX k d) := by rw [hp]; rfl
  rw [← hp] at K1
  have hple := partsX_le k d 15 (by omega)
  rw [← hp] at hple
  obtain ⟨z, hz⟩ : ∃ z, z = 15 - p := ⟨_, rfl⟩
  rw [← hz] at K1
  clear hp
  have e0 : (w.alloc (.cells #[.int .i64 kd, .int .i64 n, .slice ao dl cap] 24)).cell? ⟨w.heap.size, 0, none⟩ = some (.int .i64 kd) := by simp [go_sem]
  have e1 : (w.alloc (.cells #[.int .i64 kd, .int .i64 n, .slice ao dl cap] 24)).cell? ⟨w.heap.size, 1, none⟩ = some (.int .i64 n) := by simp [go_sem]
  have e2 : (w.alloc (.cells #[.int .i64 kd, .int .i64 n, .slice ao dl cap] 24)).cell? ⟨w.heap.size, 2, none⟩ = some (.slice ao dl cap) := by simp [go_sem]
  have hbel : Below w.heap.size w (w.alloc (.cells #[.int .i64 kd, .int .i64 n, .slice ao dl cap] 24)) := (Below.refl _ w).alloc (Nat.le_refl _) _
  by_cases hq : 15 < p
  · rw [hspec, if_pos hq]
    have hneg : z < 0 := by omega
    clear hspec K2 hq hz hple
    show Calls Try.prog 23 #[.agg #[.int .i64 kd, .int .i64 n, .slice ao dl cap], .int .i64 vars] w _
    go_enter Try.func23, Try.ntmps23
    go_wp2_with fail
    refine (K1.out _ hbel).mono ?_
    rintro e w1 ⟨rfl, hb1⟩
    have hB1 : Below w.heap.size w w1 := hbel.trans (hb1.mono hbel.size)
    clear hb1 K1
    go_wp2_with fail
    go_ret
    exact ⟨rfl, hB1⟩
  · rw [hspec, if_neg hq]
    have hneg : ¬ z < 0 := by omega
    obtain ⟨R, hR⟩ : ∃ q, q = firstX vars (listX k d) := ⟨_, rfl⟩
    rw [← hR] at K2 ⊢
    clear hspec hq hR hz hple
    show Calls Try.prog 23 #[.agg #[.int .i64 kd, .int .i64 n, .slice ao dl cap], .int .i64 vars] w _
    go_enter Try.func23, Try.ntmps23
    go_wp2_with fail
    refine (K1.out _ hbel).mono ?_
    rintro e w1 ⟨rfl, hb1⟩
    have hB1 : Below w.heap.size w w1 := hbel.trans (hb1.mono hbel.size)
    have g0 := cell_over hb1 _ _ e0
    have g1 := cell_over hb1 _ _ e1
    have g2 := cell_over hb1 _ _ e2
    clear hb1 K1 e0 e1 e2
    go_wp2_with fail
    refine (K2.out _ hB1).mono ?_
    rintro e w2 ⟨rfl, hb2⟩
    have hB2 : Below w.heap.size w w2 := hB1.trans (hb2.mono hB1.size)
    clear hb2 K2
    go_wp2_with fail
    go_ret
    exact ⟨rfl, hB2⟩
end Go.Proofs.Ytcbbjjenkommeaa.Ex

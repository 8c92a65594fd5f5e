/- The document's own check of an expression. -/
import Derived.Test.YtdbepdabkciiiaaEa
namespace Go.Proofs.Ytdbepdabkciiiaa.Ex
open Go.RowKit
set_option linter.unusedVariables false

def errX (vars k n : Int) (l : Nat) : Int :=
  if ¬ (1 ≤ k ∧ k ≤ 7) then 7 else if k ≤ 2 ∧ l ≠ 0 ∨ 2 < k ∧ l ≠ 2 then 1 else if k = 1 ∧ ¬ (-9999999 ≤ n ∧ n ≤ 9999999) ∨ 2 < k ∧ n ≠ 0 then 3 else if k = 2 ∧ ¬ (0 ≤ n ∧ n ≤ vars - 1) then 5 else 0
def firstX (vars : Int) : List D → Int
  | [] => 0
  | d :: l => if errX vars (kindOf d) (numOf d) (argsOf d).length = 0 then firstX vars l else errX vars (kindOf d) (numOf d) (argsOf d).length
def checkX (vars : Int) (k : Nat) (d : D) : Int := if 15 < partsX k d 15 then 2 else firstX vars (listX k d)

theorem firstX_drop {vars : Int} {l : List D} {j : Nat} (hj : j < l.length) : firstX vars (l.drop j) = if errX vars (kindOf l[j]) (numOf l[j]) (argsOf l[j]).length = 0 then firstX vars (l.drop (j + 1)) else errX vars (kindOf l[j]) (numOf l[j]) (argsOf l[j]).length := by
  rw [List.drop_eq_getElem_cons hj]
  rfl

theorem CellsOf.at : ∀ {l : List D} {xs : List Value}, CellsOf l xs → ∀ (j : Nat) (hj : j < l.length), ∃ (ao : Option Addr) (cap : Nat), xs[j * 3]? = some (.int .i64 (kindOf l[j])) ∧ xs[j * 3 + 1]? = some (.int .i64 (numOf l[j])) ∧ xs[j * 3 + 2]? = some (.slice ao (argsOf l[j]).length cap)
  | d :: l, _, h, 0, hj => by
    obtain ⟨ao, cap, r, rfl, hr⟩ := h
    exact ⟨ao, cap, rfl, rfl, rfl⟩
  | d :: l, _, h, j + 1, hj => by
    obtain ⟨ao, cap, r, rfl, hr⟩ := h
    obtain ⟨ao', cap', h0, h1, h2⟩ := hr.at j (by simpa using hj)
    refine ⟨ao', cap', ?_, ?_, ?_⟩
    · rw [Nat.succ_mul]; exact h0
    · rw [Nat.succ_mul]; exact h1
    · rw [Nat.succ_mul]; exact h2

theorem addParts_len (f : D → Int → Int) (g : D → List D) (hf : ∀ d m, 0 ≤ m → f d m ≤ m → ((g d).length : Int) ≤ f d m) (m : Int) : ∀ (l : List D) (n : Int), addParts f m l n ≤ m → ((l.flatMap g).length : Int) + n ≤ addParts f m l n
  | [], n, _ => by simp [addParts]
  | a :: l, n, h => by
    rw [addParts] at h ⊢
    split at h
    · rename_i hn
      rw [if_pos hn]
      have h1 := addParts_len f g hf m l _ h
      have h2 : (((a :: l).flatMap g).length : Int) = ((g a).length : Int) + ((l.flatMap g).length : Int) := by simp
      have h3 := hf a (m - n) (by omega) (by omega)
      omega
    · omega
theorem listX_len : ∀ (k : Nat) (d : D) (m : Int), 0 ≤ m → partsX k d m ≤ m → ((listX k d).length : Int) ≤ partsX k d m
  | 0, _, m, _, h => by simp [listX, partsX]
  | k + 1, d, m, h0, h => by
    have h1 := addParts_len (partsX k) (listX k) (listX_len k) m (argsOf d) 1 h
    have h2 : ((listX (k + 1) d).length : Int) = (((argsOf d).flatMap (listX k)).length : Int) + 1 := by simp [listX]
    rw [h2]
    exact h1

theorem btw {x a b : Int} {r : Bool} (h : decide (a ≤ x ∧ x ≤ b) = r) : Hid (∀ W, Calls Try.prog 24 #[.int .i64 x, .int .i64 a, .int .i64 b] W fun e w' => e = .returned (.bool r) ∧ w' = W) := fun W => h ▸ between_any x a b W

set_option maxHeartbeats 4000000 in
set_option maxRecDepth 100000 in
theorem checkExpr_any (k : Nat) (cs : List Value) (d : D) (w : World) (vars : Int) (v0 : 0 ≤ vars) (v1 : vars ≤ 9223372036854775807) (h : RX w k cs d) :
    Calls Try.prog 12 #[.agg cs.toArray, .int .i64 vars] w fun e w' => e = .returned (.int .i64 (checkX vars k d)) ∧ Below w.heap.size w w' := by
  obtain ⟨ao, cap, rfl⟩ := h.form
  obtain ⟨kd, hkd⟩ : ∃ q, q = kindOf d := ⟨_, rfl⟩
  obtain ⟨n, hn⟩ : ∃ q, q = numOf d := ⟨_, rfl⟩
  obtain ⟨dl, hdl⟩ : ∃ q, q = (argsOf d).length := ⟨_, rfl⟩
  rw [← hkd, ← hn, ← hdl] at h ⊢
  clear hkd hn hdl
  obtain ⟨w0, hw0⟩ : ∃ w0, w0 = w.alloc (.cells #[.int .i64 kd, .int .i64 n, .slice ao dl cap] 24) := ⟨_, rfl⟩
  have hbel : Below w.heap.size w w0 := by rw [hw0]; exact (Below.refl _ w).alloc (Nat.le_refl _) _
  have b0 : w0.cell? ⟨w.heap.size, 0, none⟩ = some (.int .i64 kd) := by rw [hw0]; simp [go_sem]
  have b1 : w0.cell? ⟨w.heap.size, 1, none⟩ = some (.int .i64 n) := by rw [hw0]; simp [go_sem]
  have b2 : w0.cell? ⟨w.heap.size, 2, none⟩ = some (.slice ao dl cap) := by rw [hw0]; simp [go_sem]
  have HP := hide (parts_any k _ d w0 15 (h.over hbel) (by omega) (by omega))
  have HA := hide fun (W : World) (hB : Below w.heap.size w W) => all_any k _ d W (h.over hB)
  have HLE := hide (listX_len k d 15 (by omega))
  obtain ⟨pc, hpc⟩ : ∃ q, q = partsX k d 15 := ⟨_, rfl⟩
  have hck : checkX vars k d = if 15 < pc then 2 else firstX vars (listX k d) := by rw [hpc]; rfl
  have hpos := listX_pos h
  obtain ⟨L, hL⟩ : ∃ L, L = listX k d := ⟨_, rfl⟩
  rw [← hL] at HA HLE hpos hck
  rw [← hpc] at HP HLE
  rw [hck]
  clear hck hpc h hL
  show Calls Try.prog 12 #[.agg #[.int .i64 kd, .int .i64 n, .slice ao dl cap], .int .i64 vars] w _
  by_cases hp : 15 < pc
  · rw [if_pos hp]
    have HW := hide hw0
    clear hw0
    go_enter Try.func12, Try.ntmps12
    go_wp2_with fail
    rw [← HW.out]
    refine (HP.out).mono ?_
    rintro e w1 ⟨rfl, hb1⟩
    have hB1 : Below w.heap.size w w1 := hbel.trans (hb1.mono hbel.size)
    go_wp2_with fail
    go_ret
    exact ⟨rfl, hB1⟩
  · rw [if_neg hp]
    have HW := hide hw0
    have hlen := HLE.out (by omega)
    clear hw0 HLE
    go_enter Try.func12, Try.ntmps12
    go_wp2_with fail
    rw [← HW.out]
    refine (HP.out).mono ?_
    rintro e w1 ⟨rfl, hb1⟩
    have hB1 : Below w.heap.size w w1 := hbel.trans (hb1.mono hbel.size)
    have d0 := cell_over hb1 _ _ b0
    have d1 := cell_over hb1 _ _ b1
    have d2 := cell_over hb1 _ _ b2
    have HAL := hide (HA.out w1 hB1 (by omega))
    clear b0 b1 b2 hbel hb1 HP HA HW w0
    go_wp2_with fail
    refine (HAL.out).mono ?_
    rintro e w2 ⟨lv, xs, rfl, hown, hcl, hb2⟩
    have hB2 : Below w.heap.size w w2 := hB1.trans (hb2.mono hB1.size)
    have hL15 : L.length ≤ 15 := by omega
    · obtain ⟨g, gc, rfl, hgb, hgl, hgc⟩ := own_cells hown hpos
      have HCL := hide hcl
      have HGC := hide hgc
      clear hown hcl hgc d0 d1 d2 hB1 hb2 HAL hlen
      go_wp2_with fail
      go_loopw [6] (fun i wr => ∃ j : Nat, j ≤ L.length ∧ i = .int .i64 j ∧ firstX vars L = firstX vars (L.drop j) ∧ Below w2.heap.size w2 wr) (fun i _ => L.length - (intOf i).toNat)
      case atStart => exact ⟨0, Nat.zero_le _, rfl, rfl, Below.refl _ _⟩
      case round =>
        obtain ⟨j, hj, rfl, hfe, hbl⟩ := hrel
        by_cases hjl : j < L.length
        · rw [firstX_drop hjl] at hfe
          obtain ⟨pa, pcap, x0, x1, x2⟩ := HCL.out.at j hjl
          obtain ⟨kj, hkj⟩ : ∃ q, q = kindOf L[j] := ⟨_, rfl⟩
          obtain ⟨nj, hnj⟩ : ∃ q, q = numOf L[j] := ⟨_, rfl⟩
          obtain ⟨lj, hlj⟩ : ∃ q, q = (argsOf L[j]).length := ⟨_, rfl⟩
          rw [← hkj, ← hnj, ← hlj] at hfe
          rw [← hkj] at x0
          rw [← hnj] at x1
          rw [← hlj] at x2
          have y0 := cell_over hbl _ _ (HGC.out _ _ x0)
          have y1 := cell_over hbl _ _ (HGC.out _ _ x1)
          have y2 := cell_over hbl _ _ (HGC.out _ _ x2)
          rw [Addr.add_lit] at y0 y1 y2
          have hfin : ∀ wf, Below wr.heap.size wr wf → Below w.heap.size w wf := fun wf hb => by
            have h1 := hB2.trans (hbl.mono hB2.size)
            exact h1.trans (hb.mono h1.size)
          have hnew : ∀ wf, Below wr.heap.size wr wf → Below w2.heap.size w2 wf := fun wf hb => hbl.trans (hb.mono hbl.size)
          have HE : Hid (∀ r, errX vars kj nj lj = r → r ≠ 0 → firstX vars L = r) := fun r h1 h2 => by rw [hfe, h1, if_neg h2]
          have HZ : Hid (errX vars kj nj lj = 0 → firstX vars L = firstX vars (L.drop (j + 1))) := fun h1 => by rw [hfe, if_pos h1]
          have HF := hide hfin
          have HNW := hide hnew
          clear hfe x0 x1 x2 hkj hnj hlj hfin hnew hbl
          simp only [Nat.zero_add] at y0 y1 y2
          by_cases hk : 1 ≤ kj ∧ kj ≤ 7
          · have K1 := fun (q : Int) (h1 : 1 ≤ q ∧ q ≤ 7) => btw (x := q) (a := 1) (b := 7) (r := true) (decide_eq_true h1)
            have HBX : Hid (Below wr.heap.size wr (wr.alloc (Obj.cells #[Value.int IntKind.i64 kj, Value.int IntKind.i64 nj, Value.slice pa lj pcap] 24))) := (Below.refl _ wr).alloc (Nat.le_refl _) _
            have K1 := K1 kj hk
            rcases (by omega : kj = 1 ∨ kj = 2 ∨ kj = 3 ∨ kj = 4 ∨ kj = 5 ∨ kj = 6 ∨ kj = 7) with rfl | rfl | rfl | rfl | rfl | rfl | rfl
            · by_cases hl : lj = 0
              · subst hl
                by_cases hn : -9999999 ≤ nj ∧ nj ≤ 9999999
                · have K2 := btw (x := nj) (a := -9999999) (b := 9999999) (r := true) (decide_eq_true hn)
                  have HR := hide (HZ.out (by simp [errX, hn]))
                  clear HE HZ HF
                  go_wp2_with fail
                  refine (K1.out _).mono ?_
                  rintro e w3 ⟨rfl, rfl⟩
                  go_wp2_with fail
                  refine (K2.out _).mono ?_
                  rintro e w3 ⟨rfl, rfl⟩
                  go_wp2_with fail
                  exact ⟨⟨j + 1, by omega, by go_num, HR.out, HNW.out _ HBX.out⟩, by simp [intOf]; omega⟩
                · have K2 := btw (x := nj) (a := -9999999) (b := 9999999) (r := false) (decide_eq_false hn)
                  have HR := hide (HE.out 3 (by unfold errX; rw [if_neg (by omega), if_neg (by omega), if_pos (Or.inl ⟨rfl, hn⟩)]) (by omega))
                  clear HE HZ HNW
                  go_wp2_with fail
                  refine (K1.out _).mono ?_
                  rintro e w3 ⟨rfl, rfl⟩
                  go_wp2_with fail
                  refine (K2.out _).mono ?_
                  rintro e w3 ⟨rfl, rfl⟩
                  go_wp2_with fail
                  go_ret
                  exact ⟨by rw [HR.out]; rfl, HF.out _ HBX.out⟩
              · have HR := hide (HE.out 1 (by unfold errX; rw [if_neg (by omega), if_pos (by omega)]) (by omega))
                clear HE HZ HNW
                go_wp2_with fail
                refine (K1.out _).mono ?_
                rintro e w3 ⟨rfl, rfl⟩
                go_wp2_with fail
                go_ret
                exact ⟨by rw [HR.out]; rfl, HF.out _ HBX.out⟩
            · by_cases hl : lj = 0
              · subst hl
                by_cases hn : 0 ≤ nj ∧ nj ≤ vars - 1
                · have K2 := btw (x := nj) (a := 0) (b := vars - 1) (r := true) (decide_eq_true hn)
                  have HR := hide (HZ.out (by unfold errX; rw [if_neg (by omega), if_neg (by omega), if_neg (by omega), if_neg (by omega)]))
                  clear HE HZ HF
                  go_wp2_with fail
                  refine (K1.out _).mono ?_
                  rintro e w3 ⟨rfl, rfl⟩
                  go_wp2_with fail
                  refine (K2.out _).mono ?_
                  rintro e w3 ⟨rfl, rfl⟩
                  go_wp2_with fail
                  exact ⟨⟨j + 1, by omega, by go_num, HR.out, HNW.out _ HBX.out⟩, by simp [intOf]; omega⟩
                · have K2 := btw (x := nj) (a := 0) (b := vars - 1) (r := false) (decide_eq_false hn)
                  have HR := hide (HE.out 5 (by unfold errX; rw [if_neg (by omega), if_neg (by omega), if_neg (by omega), if_pos ⟨rfl, hn⟩]) (by omega))
                  clear HE HZ HNW
                  go_wp2_with fail
                  refine (K1.out _).mono ?_
                  rintro e w3 ⟨rfl, rfl⟩
                  go_wp2_with fail
                  refine (K2.out _).mono ?_
                  rintro e w3 ⟨rfl, rfl⟩
                  go_wp2_with fail
                  go_ret
                  exact ⟨by rw [HR.out]; rfl, HF.out _ HBX.out⟩
              · have HR := hide (HE.out 1 (by unfold errX; rw [if_neg (by omega), if_pos (by omega)]) (by omega))
                clear HE HZ HNW
                go_wp2_with fail
                refine (K1.out _).mono ?_
                rintro e w3 ⟨rfl, rfl⟩
                go_wp2_with fail
                go_ret
                exact ⟨by rw [HR.out]; rfl, HF.out _ HBX.out⟩
            · by_cases hl : lj = 2
              · subst hl
                by_cases hn : nj = 0
                · subst hn
                  have HR := hide (HZ.out (by unfold errX; rw [if_neg (by omega), if_neg (by omega), if_neg (by omega), if_neg (by omega)]))
                  clear HE HZ HF
                  go_wp2_with fail
                  refine (K1.out _).mono ?_
                  rintro e w3 ⟨rfl, rfl⟩
                  go_wp2_with fail
                  exact ⟨⟨j + 1, by omega, by go_num, HR.out, HNW.out _ HBX.out⟩, by simp [intOf]; omega⟩
                · have HR := hide (HE.out 3 (by unfold errX; rw [if_neg (by omega), if_neg (by omega), if_pos (by omega)]) (by omega))
                  clear HE HZ HNW
                  go_wp2_with fail
                  refine (K1.out _).mono ?_
                  rintro e w3 ⟨rfl, rfl⟩
                  go_wp2_with fail
                  go_ret
                  exact ⟨by rw [HR.out]; rfl, HF.out _ HBX.out⟩
              · have HR := hide (HE.out 1 (by unfold errX; rw [if_neg (by omega), if_pos (by omega)]) (by omega))
                clear HE HZ HNW
                go_wp2_with fail
                refine (K1.out _).mono ?_
                rintro e w3 ⟨rfl, rfl⟩
                go_wp2_with fail
                go_ret
                exact ⟨by rw [HR.out]; rfl, HF.out _ HBX.out⟩
            · by_cases hl : lj = 2
              · subst hl
                by_cases hn : nj = 0
                · subst hn
                  have HR := hide (HZ.out (by unfold errX; rw [if_neg (by omega), if_neg (by omega), if_neg (by omega), if_neg (by omega)]))
                  clear HE HZ HF
                  go_wp2_with fail
                  refine (K1.out _).mono ?_
                  rintro e w3 ⟨rfl, rfl⟩
                  go_wp2_with fail
                  exact ⟨⟨j + 1, by omega, by go_num, HR.out, HNW.out _ HBX.out⟩, by simp [intOf]; omega⟩
                · have HR := hide (HE.out 3 (by unfold errX; rw [if_neg (by omega), if_neg (by omega), if_pos (by omega)]) (by omega))
                  clear HE HZ HNW
                  go_wp2_with fail
                  refine (K1.out _).mono ?_
                  rintro e w3 ⟨rfl, rfl⟩
                  go_wp2_with fail
                  go_ret
                  exact ⟨by rw [HR.out]; rfl, HF.out _ HBX.out⟩
              · have HR := hide (HE.out 1 (by unfold errX; rw [if_neg (by omega), if_pos (by omega)]) (by omega))
                clear HE HZ HNW
                go_wp2_with fail
                refine (K1.out _).mono ?_
                rintro e w3 ⟨rfl, rfl⟩
                go_wp2_with fail
                go_ret
                exact ⟨by rw [HR.out]; rfl, HF.out _ HBX.out⟩
            · by_cases hl : lj = 2
              · subst hl
                by_cases hn : nj = 0
                · subst hn
                  have HR := hide (HZ.out (by unfold errX; rw [if_neg (by omega), if_neg (by omega), if_neg (by omega), if_neg (by omega)]))
                  clear HE HZ HF
                  go_wp2_with fail
                  refine (K1.out _).mono ?_
                  rintro e w3 ⟨rfl, rfl⟩
                  go_wp2_with fail
                  exact ⟨⟨j + 1, by omega, by go_num, HR.out, HNW.out _ HBX.out⟩, by simp [intOf]; omega⟩
                · have HR := hide (HE.out 3 (by unfold errX; rw [if_neg (by omega), if_neg (by omega), if_pos (by omega)]) (by omega))
                  clear HE HZ HNW
                  go_wp2_with fail
                  refine (K1.out _).mono ?_
                  rintro e w3 ⟨rfl, rfl⟩
                  go_wp2_with fail
                  go_ret
                  exact ⟨by rw [HR.out]; rfl, HF.out _ HBX.out⟩
              · have HR := hide (HE.out 1 (by unfold errX; rw [if_neg (by omega), if_pos (by omega)]) (by omega))
                clear HE HZ HNW
                go_wp2_with fail
                refine (K1.out _).mono ?_
                rintro e w3 ⟨rfl, rfl⟩
                go_wp2_with fail
                go_ret
                exact ⟨by rw [HR.out]; rfl, HF.out _ HBX.out⟩
            · by_cases hl : lj = 2
              · subst hl
                by_cases hn : nj = 0
                · subst hn
                  have HR := hide (HZ.out (by unfold errX; rw [if_neg (by omega), if_neg (by omega), if_neg (by omega), if_neg (by omega)]))
                  clear HE HZ HF
                  go_wp2_with fail
                  refine (K1.out _).mono ?_
                  rintro e w3 ⟨rfl, rfl⟩
                  go_wp2_with fail
                  exact ⟨⟨j + 1, by omega, by go_num, HR.out, HNW.out _ HBX.out⟩, by simp [intOf]; omega⟩
                · have HR := hide (HE.out 3 (by unfold errX; rw [if_neg (by omega), if_neg (by omega), if_pos (by omega)]) (by omega))
                  clear HE HZ HNW
                  go_wp2_with fail
                  refine (K1.out _).mono ?_
                  rintro e w3 ⟨rfl, rfl⟩
                  go_wp2_with fail
                  go_ret
                  exact ⟨by rw [HR.out]; rfl, HF.out _ HBX.out⟩
              · have HR := hide (HE.out 1 (by unfold errX; rw [if_neg (by omega), if_pos (by omega)]) (by omega))
                clear HE HZ HNW
                go_wp2_with fail
                refine (K1.out _).mono ?_
                rintro e w3 ⟨rfl, rfl⟩
                go_wp2_with fail
                go_ret
                exact ⟨by rw [HR.out]; rfl, HF.out _ HBX.out⟩
            · by_cases hl : lj = 2
              · subst hl
                by_cases hn : nj = 0
                · subst hn
                  have HR := hide (HZ.out (by unfold errX; rw [if_neg (by omega), if_neg (by omega), if_neg (by omega), if_neg (by omega)]))
                  clear HE HZ HF
                  go_wp2_with fail
                  refine (K1.out _).mono ?_
                  rintro e w3 ⟨rfl, rfl⟩
                  go_wp2_with fail
                  exact ⟨⟨j + 1, by omega, by go_num, HR.out, HNW.out _ HBX.out⟩, by simp [intOf]; omega⟩
                · have HR := hide (HE.out 3 (by unfold errX; rw [if_neg (by omega), if_neg (by omega), if_pos (by omega)]) (by omega))
                  clear HE HZ HNW
                  go_wp2_with fail
                  refine (K1.out _).mono ?_
                  rintro e w3 ⟨rfl, rfl⟩
                  go_wp2_with fail
                  go_ret
                  exact ⟨by rw [HR.out]; rfl, HF.out _ HBX.out⟩
              · have HR := hide (HE.out 1 (by unfold errX; rw [if_neg (by omega), if_pos (by omega)]) (by omega))
                clear HE HZ HNW
                go_wp2_with fail
                refine (K1.out _).mono ?_
                rintro e w3 ⟨rfl, rfl⟩
                go_wp2_with fail
                go_ret
                exact ⟨by rw [HR.out]; rfl, HF.out _ HBX.out⟩
          · have K1 := btw (x := kj) (a := 1) (b := 7) (r := false) (by simpa using hk)
            have hr := HE.out 7 (by unfold errX; rw [if_pos hk]) (by omega)
            have HR := hide hr
            clear hr
            go_wp2_with fail
            refine (K1.out _).mono ?_
            rintro e w3 ⟨rfl, rfl⟩
            go_wp2_with fail
            go_ret
            exact ⟨by rw [HR.out]; rfl, HF.out _ ((Below.refl _ wr).alloc (Nat.le_refl _) _)⟩
        · have hz : firstX vars (L.drop j) = 0 := by rw [List.drop_eq_nil_of_le (by omega)]; rfl
          have HFE : Hid (firstX vars L = 0) := by rw [hfe]; exact hz
          clear hz hfe
          go_wp2_with fail
          go_ret
          exact ⟨by rw [HFE.out]; rfl, hB2.trans (hbl.mono hB2.size)⟩
end Go.Proofs.Ytdbepdabkciiiaa.Ex

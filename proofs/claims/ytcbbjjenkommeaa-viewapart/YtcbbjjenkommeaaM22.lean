/- Checks of all labels of a program, whatever they are. -/
import Derived.Test.YtcbbjjenkommeaaM21
namespace Go.Proofs.Ytcbbjjenkommeaa.Ex.Ey
open Go.RowKit
set_option linter.unusedVariables false
set_option maxHeartbeats 8000000 in
set_option maxRecDepth 100000 in
theorem labelsG_any (m : Int) (ga : Option Addr) (gn gc : Nat) (sa : Option Addr) (sn sc : Nat) (ya : Option Addr) (yn yc : Nat) (oa : Option Addr) (on oc : Nat) (va : Option Addr) (vn vc : Nat) (fa : Option Addr) (fn fc : Nat) (ba : Option Addr) (bn bc : Nat) (gs : List (Int × Int)) (ls ms : List Lab) (vs : List (Bool × Lab)) (w : World) (hg : IsGrants w (.slice ga gn gc) gs) (h1 : LabsAt w (.slice ya yn yc) ls) (h2 : LabsAt w (.slice oa on oc) ms) (h3 : VarsAt w (.slice va vn vc) vs)
    (hy : yn ≤ 5) (ho : on ≤ 5) (hyc : ya = none → yc = 0) (hoc : oa = none → oc = 0) :
    Calls Try.prog 110 #[.agg #[.int .i64 m, .slice ga gn gc, .slice sa sn sc, .slice ya yn yc, .slice oa on oc, .slice va vn vc, .slice fa fn fc, .slice ba bn bc]] w (Goes (labsOk m gs (ls ++ ms) vs) w) := by
  have hbel : Below w.heap.size w ((w.alloc (.cells #[.int .i64 m, .slice ga gn gc, .slice sa sn sc, .slice ya yn yc, .slice oa on oc, .slice va vn vc, .slice fa fn fc, .slice ba bn bc] 125)).alloc (.cells #[.slice ya yn yc, .slice oa on oc] 36)) := ((Below.refl _ w).alloc (Nat.le_refl _) _).alloc (by simp) _
  have hrow : RowAt [.slice ya yn yc, .slice oa on oc] ((w.alloc (.cells #[.int .i64 m, .slice ga gn gc, .slice sa sn sc, .slice ya yn yc, .slice oa on oc, .slice va vn vc, .slice fa fn fc, .slice ba bn bc] 125)).alloc (.cells #[.slice ya yn yc, .slice oa on oc] 36)) (w.heap.size + 1) := by
    have r := RowAt.new [.slice ya yn yc, .slice oa on oc] 36 (w.alloc (.cells #[.int .i64 m, .slice ga gn gc, .slice sa sn sc, .slice ya yn yc, .slice oa on oc, .slice va vn vc, .slice fa fn fc, .slice ba bn bc] 125))
    have hs : (w.alloc (.cells #[.int .i64 m, .slice ga gn gc, .slice sa sn sc, .slice ya yn yc, .slice oa on oc, .slice va vn vc, .slice fa fn fc, .slice ba bn bc] 125)).heap.size = w.heap.size + 1 := by simp
    rw [hs] at r
    exact r
  have K1 := hide (concat_any (w.heap.size + 1) ya yn yc oa on oc ls ms ((w.alloc (.cells #[.int .i64 m, .slice ga gn gc, .slice sa sn sc, .slice ya yn yc, .slice oa on oc, .slice va vn vc, .slice fa fn fc, .slice ba bn bc] 125)).alloc (.cells #[.slice ya yn yc, .slice oa on oc] 36)) hrow (h1.over hbel) (h2.over hbel) hy ho hyc hoc)
  have KL := hide fun (bl : Lab) (pr pw : Value) (W : World) (hW : Below w.heap.size w W) (hr : IsPols W pr bl.r) (hw : IsPols W pw bl.w) => checkOk m (.slice ga gn gc) gs pr pw bl W (isGrants_over hg hW) hr hw
  have KP := hide pass_any
  have KM := hide must_any
  have hvl : vn ≤ 9223372036854775807 := by obtain ⟨hm, a, c, he, -⟩ := h3; injection he with e1 e2 e3; rw [e2]; exact hm
  have hlen : (ls ++ ms).length ≤ 10 := by
    obtain ⟨-, a, c, he, -⟩ := h1
    injection he with e1 e2 e3
    obtain ⟨-, a', c', he', -⟩ := h2
    injection he' with e1' e2' e3'
    simp
    omega
  have HV := hide h3
  have hvs : vn = vs.length := by obtain ⟨hm, a, c, he, -⟩ := h3; injection he
  have HVS := hide hvs
  clear hvs
  have c0 : ((w.alloc (.cells #[.int .i64 m, .slice ga gn gc, .slice sa sn sc, .slice ya yn yc, .slice oa on oc, .slice va vn vc, .slice fa fn fc, .slice ba bn bc] 125)).alloc (.cells #[.slice ya yn yc, .slice oa on oc] 36)).cell? ⟨w.heap.size, 0, none⟩ = some (.int .i64 m) := by simp [go_sem]
  have c1 : ((w.alloc (.cells #[.int .i64 m, .slice ga gn gc, .slice sa sn sc, .slice ya yn yc, .slice oa on oc, .slice va vn vc, .slice fa fn fc, .slice ba bn bc] 125)).alloc (.cells #[.slice ya yn yc, .slice oa on oc] 36)).cell? ⟨w.heap.size, 1, none⟩ = some (.slice ga gn gc) := by simp [go_sem]
  have c3 : ((w.alloc (.cells #[.int .i64 m, .slice ga gn gc, .slice sa sn sc, .slice ya yn yc, .slice oa on oc, .slice va vn vc, .slice fa fn fc, .slice ba bn bc] 125)).alloc (.cells #[.slice ya yn yc, .slice oa on oc] 36)).cell? ⟨w.heap.size, 3, none⟩ = some (.slice ya yn yc) := by simp [go_sem]
  have c4 : ((w.alloc (.cells #[.int .i64 m, .slice ga gn gc, .slice sa sn sc, .slice ya yn yc, .slice oa on oc, .slice va vn vc, .slice fa fn fc, .slice ba bn bc] 125)).alloc (.cells #[.slice ya yn yc, .slice oa on oc] 36)).cell? ⟨w.heap.size, 4, none⟩ = some (.slice oa on oc) := by simp [go_sem]
  have c5 : ((w.alloc (.cells #[.int .i64 m, .slice ga gn gc, .slice sa sn sc, .slice ya yn yc, .slice oa on oc, .slice va vn vc, .slice fa fn fc, .slice ba bn bc] 125)).alloc (.cells #[.slice ya yn yc, .slice oa on oc] 36)).cell? ⟨w.heap.size, 5, none⟩ = some (.slice va vn vc) := by simp [go_sem]
  clear h1 h2 h3 hg hrow
  go_enter Try.func110, Try.ntmps110
  go_wp2_with fail
  refine (K1.out).mono ?_
  rintro e w1 ⟨v, xs, rfl, hown, hcl, hb1⟩
  have hB1 := hbel.trans (hb1.mono hbel.size)
  have d0 := cell_over hb1 _ _ c0
  have d1 := cell_over hb1 _ _ c1
  have d5 := cell_over hb1 _ _ c5
  obtain ⟨va', vn', vc', hvf⟩ : ∃ a n c, v = .slice a n c := by
    rcases hown.2 with ⟨h, _⟩ | ⟨g, cap, cur, h, _⟩
    · exact ⟨_, _, _, h⟩
    · exact ⟨_, _, _, h⟩
  have hnn : vn' = (ls ++ ms).length := by
    rcases hown.2 with ⟨h, h'⟩ | ⟨g, cap, cur, h, _⟩
    · rw [hvf] at h; injection h with e1 e2 e3; omega
    · rw [hvf] at h; injection h
  subst hvf
  have HO := hide hown
  have HCL := hide hcl
  have HNN := hide hnn
  have hn10 : vn' ≤ 10 := by rw [hnn]; exact hlen
  clear hown hcl hnn hb1 c0 c1 c3 c4 c5 hbel K1
  go_wp2_with fail
  go_loopw [17] (fun i wr => ∃ n : Nat, n ≤ vn' ∧ i = .int .i64 n ∧ (∀ b ∈ (ls ++ ms).take n, lChk m gs b = 0) ∧ (wr.cell? ⟨w.heap.size, 0, none⟩ = some (.int .i64 m) ∧ wr.cell? ⟨w.heap.size, 1, none⟩ = some (.slice ga gn gc) ∧ wr.cell? ⟨w.heap.size, 5, none⟩ = some (.slice va vn vc)) ∧ Below w1.heap.size w1 wr) (fun i _ => vn' - (intOf i).toNat)
  case atStart => exact ⟨0, Nat.zero_le _, rfl, by simp, ⟨d0, d1, d5⟩, Below.refl _ _⟩
  case round =>
    clear d0 d1 d5
    obtain ⟨n, hn, rfl, hok1, ⟨d0, d1, d5⟩, hB⟩ := hrel
    have HOK1 := hide hok1
    clear hok1
    have hBw := hB1.trans (hB.mono hB1.size)
    by_cases hnl : n < vn'
    · have hnd : n < (ls ++ ms).length := by rw [← HNN.out]; exact hnl
      obtain ⟨pr, pw, e0, e1, hr, hw⟩ := HCL.out.at n hnd
      obtain ⟨g, cap, hgf, hgb, hgl, hgc⟩ := own_cellsL HO.out (by omega)
      have a0 := cell_over hB _ _ (hgc _ _ e0)
      have a1 := cell_over hB _ _ (hgc _ _ e1)
      rw [Addr.add_lit, Nat.zero_add] at a0 a1
      injection hgf with f1 f2 f3
      subst f1
      obtain ⟨ra, rn, rc, hrf⟩ := pols_form hr
      obtain ⟨wa, wn, wc, hwf⟩ := pols_form hw
      subst hrf hwf
      have hba := (Below.refl _ wr).alloc (Nat.le_refl _) (.cells #[.slice ra rn rc, .slice wa wn wc] 102)
      have hBa := hBw.trans (hba.mono hBw.size)
      have hB1a := over_trans hB hba
      have K2 := hide (KL.out (ls ++ ms)[n] _ _ _ hBa (isPols_over hr hB1a) (isPols_over hw hB1a))
      have f0 := cell_over hba _ _ d0
      have f1 := cell_over hba _ _ d1
      have f5 := cell_over hba _ _ d5
      obtain ⟨cr, hcr⟩ : ∃ q, q = lChk m gs (ls ++ ms)[n] := ⟨_, rfl⟩
      rw [← hcr] at K2
      have HCR := hide hcr
      clear hgc hr hw e0 e1 hcr f2 f3
      go_wp2_with fail
      refine (K2.out).mono ?_
      rintro e w2 ⟨rfl, hb2⟩
      have hB2 := over_trans hB1a hb2
      have hBw2 := hB1.trans (hB2.mono hB1.size)
      have r0 := cell_over hb2 _ _ f0
      have r1 := cell_over hb2 _ _ f1
      have r5 := cell_over hb2 _ _ f5
      clear K2 hb2 hBa hB1a hba hB hBw a0 a1 d0 d1 d5 f0 f1 f5
      go_wp2_with fail
      refine (KP.out _ _).mono ?_
      rintro e wz ⟨he, rfl⟩
      rcases he with ⟨hz, rfl⟩ | ⟨hz, rfl⟩
      rotate_left
      · have hz2 : cr ≠ 0 := by simpa using hz
        have HN : Hid (¬ labsOk m gs (ls ++ ms) vs) := hide (fun h => hz2 (HCR.out.trans (h.1 _ (List.getElem_mem hnd))))
        unfold gaveW
        go_wp2_with fail
        exact ⟨rfl, Or.inr ⟨HN.out, cr, hz2, rfl⟩, hBw2⟩
      have HZ := hide (show cr = 0 by simpa using hz)
      clear hz
      go_wp2_with fail
      exact ⟨⟨n + 1, by omega, by go_num, take_next hnd HOK1.out (HCR.out.symm.trans HZ.out), ⟨r0, r1, r5⟩, hB2⟩, by simp [intOf]; omega⟩
    · obtain ⟨w2, hw2⟩ : ∃ q, q = wr := ⟨_, rfl⟩
      rw [← hw2] at d0 d1 d5 hBw ⊢
      have HALL1 := hide (take_full (by rw [← HNN.out]; omega) HOK1.out)
      clear hw2 hB HO HCL HOK1
      go_wp2_with fail
      go_loopw [32] (fun i wr => ∃ n : Nat, n ≤ vn ∧ i = .int .i64 n ∧ (∀ v ∈ vs.take n, lChk m gs v.2 = 0) ∧ (wr.cell? ⟨w.heap.size, 0, none⟩ = some (.int .i64 m) ∧ wr.cell? ⟨w.heap.size, 1, none⟩ = some (.slice ga gn gc) ∧ wr.cell? ⟨w.heap.size, 5, none⟩ = some (.slice va vn vc)) ∧ Below w2.heap.size w2 wr) (fun i _ => vn - (intOf i).toNat)
      case atStart => exact ⟨0, Nat.zero_le _, rfl, by simp, ⟨d0, d1, d5⟩, Below.refl _ _⟩
      case round =>
        clear d0 d1 d5 hnl hn
        obtain ⟨n, hn, rfl, hok1, ⟨d0, d1, d5⟩, hB⟩ := hrel
        have HOK1 := hide hok1
        clear hok1
        have hBw3 := hBw.trans (hB.mono hBw.size)
        by_cases hnl : n < vn
        · obtain ⟨-, ao, cap, he, hel⟩ := HV.out.over hBw3
          injection he with e1 e2 e3
          have hne : vs ≠ [] := by intro h; rw [h] at e2; simp at e2; omega
          obtain ⟨b, off, hbo, hel2⟩ := hel hne
          have hnv : n < vs.length := by omega
          obtain ⟨pr, pw, a0, a1, a2, hr, hw⟩ := hel2 n hnv
          have e1' := e1.trans hbo
          subst e1'
          obtain ⟨kn, hkn⟩ : ∃ q, q = vs[n].1 := ⟨_, rfl⟩
          obtain ⟨lb, hlb⟩ : ∃ q, q = vs[n].2 := ⟨_, rfl⟩
          rw [← hkn] at a0
          rw [← hlb] at hr hw
          obtain ⟨ra, rn, rc, hrf⟩ := pols_form hr
          obtain ⟨wa, wn, wc, hwf⟩ := pols_form hw
          subst hrf hwf
          have HLB := hide hlb
          clear hkn hlb hel hel2 e1 e2 e3 hbo
          have hba := (Below.refl _ wr).alloc (Nat.le_refl _) (.cells #[.bool kn, .slice ra rn rc, .slice wa wn wc] 120)
          have hBa := hBw3.trans (hba.mono hBw3.size)
          have hB1a := over_trans hB hba
          have K2 := hide (KL.out lb _ _ _ hBa (isPols_over hr hba) (isPols_over hw hba))
          have f0 := cell_over hba _ _ d0
          have f1 := cell_over hba _ _ d1
          have f5 := cell_over hba _ _ d5
          obtain ⟨cr, hcr⟩ : ∃ q, q = lChk m gs lb := ⟨_, rfl⟩
          rw [← hcr] at K2
          have HCR := hide hcr
          clear hr hw hcr
          go_wp2_with fail
          refine (K2.out).mono ?_
          rintro e w3 ⟨rfl, hb2⟩
          have hB2 := over_trans hB1a hb2
          have hBw2 := hBw.trans (hB2.mono hBw.size)
          have r0 := cell_over hb2 _ _ f0
          have r1 := cell_over hb2 _ _ f1
          have r5 := cell_over hb2 _ _ f5
          clear K2 hb2 hBa hB1a hba hB hBw3 a0 a1 a2 d0 d1 d5 f0 f1 f5
          go_wp2_with fail
          refine (KP.out _ _).mono ?_
          rintro e wz ⟨he, rfl⟩
          rcases he with ⟨hz, rfl⟩ | ⟨hz, rfl⟩
          rotate_left
          · have hz2 : cr ≠ 0 := by simpa using hz
            have HN : Hid (¬ labsOk m gs (ls ++ ms) vs) := hide (fun h => hz2 (HCR.out.trans (by rw [HLB.out]; exact h.2.1 _ (List.getElem_mem hnv))))
            unfold gaveW
            go_wp2_with fail
            exact ⟨rfl, Or.inr ⟨HN.out, cr, hz2, rfl⟩, hBw2⟩
          have HZ := hide (show cr = 0 by simpa using hz)
          clear hz
          go_wp2_with fail
          exact ⟨⟨n + 1, by omega, by go_num, take_next hnv HOK1.out (by rw [← HLB.out]; exact HCR.out.symm.trans HZ.out), ⟨r0, r1, r5⟩, hB2⟩, by simp [intOf]; omega⟩
        · obtain ⟨w3, hw3⟩ : ∃ q, q = wr := ⟨_, rfl⟩
          rw [← hw3] at d0 d1 d5 hBw3 ⊢
          have HALL2 := hide (take_full (by rw [← HVS.out]; omega) HOK1.out)
          clear hw3 hB hBw HOK1
          go_wp2_with fail
          go_loopw [48] (fun i wr => ∃ n : Nat, n ≤ vn ∧ i = .int .i64 n ∧ (∀ v ∈ vs.take n, v.1 = false → v.2.r = [] ∧ v.2.w = []) ∧ (wr.cell? ⟨w.heap.size, 0, none⟩ = some (.int .i64 m) ∧ wr.cell? ⟨w.heap.size, 1, none⟩ = some (.slice ga gn gc) ∧ wr.cell? ⟨w.heap.size, 5, none⟩ = some (.slice va vn vc)) ∧ Below w3.heap.size w3 wr) (fun i _ => vn - (intOf i).toNat)
          case atStart => exact ⟨0, Nat.zero_le _, rfl, by simp, ⟨d0, d1, d5⟩, Below.refl _ _⟩
          case round =>
            clear d0 d1 d5 hnl hn
            obtain ⟨n, hn, rfl, hok1, ⟨d0, d1, d5⟩, hB⟩ := hrel
            have HOK1 := hide hok1
            clear hok1
            have hBw := hBw3.trans (hB.mono hBw3.size)
            by_cases hnl : n < vn
            · obtain ⟨-, ao, cap, he, hel⟩ := HV.out.over hBw
              injection he with e1 e2 e3
              have hne : vs ≠ [] := by intro h; rw [h] at e2; simp at e2; omega
              obtain ⟨b, off, hbo, hel2⟩ := hel hne
              have hnv : n < vs.length := by omega
              obtain ⟨pr, pw, a0, a1, a2, hr, hw⟩ := hel2 n hnv
              have e1' := e1.trans hbo
              subst e1'
              obtain ⟨kn, hkn⟩ : ∃ q, q = vs[n].1 := ⟨_, rfl⟩
              rw [← hkn] at a0
              obtain ⟨ra, rn, rc, hrf⟩ := pols_form hr
              obtain ⟨wa, wn, wc, hwf⟩ := pols_form hw
              subst hrf hwf
              have HKN : Hid (kn = vs[n].1 ∧ rn = vs[n].2.r.length ∧ wn = vs[n].2.w.length) := ⟨hkn, pols_len hr, pols_len hw⟩
              clear hkn hel hel2 e1 e2 e3 hbo hr hw
              have HA : Hid (∀ ob : Obj, ((wr.alloc ob).cell? ⟨w.heap.size, 0, none⟩ = some (.int .i64 m) ∧ (wr.alloc ob).cell? ⟨w.heap.size, 1, none⟩ = some (.slice ga gn gc) ∧ (wr.alloc ob).cell? ⟨w.heap.size, 5, none⟩ = some (.slice (some ⟨b, off, none⟩) vn vc)) ∧ Below w3.heap.size w3 (wr.alloc ob) ∧ Below w.heap.size w (wr.alloc ob)) := fun ob => by
                have hba := (Below.refl _ wr).alloc (Nat.le_refl _) ob
                exact ⟨⟨cell_over hba _ _ d0, cell_over hba _ _ d1, cell_over hba _ _ d5⟩, over_trans hB hba, hBw.trans (hba.mono hBw.size)⟩
              clear KL KP d0 d1 d5 hB
              have HNX : Hid ((kn = false → rn = 0 ∧ wn = 0) → ∀ v ∈ vs.take (n + 1), v.1 = false → v.2.r = [] ∧ v.2.w = []) := fun h => take_next hnv HOK1.out fun h0 => by
                obtain ⟨h1, h2, h3⟩ := HKN.out
                have := h (h1.trans h0)
                exact ⟨List.eq_nil_of_length_eq_zero (by omega), List.eq_nil_of_length_eq_zero (by omega)⟩
              have HNG : Hid (¬ (kn = false → rn = 0 ∧ wn = 0) → ¬ labsOk m gs (ls ++ ms) vs) := hide (fun hn h => hn fun hk => by
                obtain ⟨h1, h2, h3⟩ := HKN.out
                obtain ⟨q1, q2⟩ := h.2.2 _ (List.getElem_mem hnv) (h1.symm.trans hk)
                rw [q1] at h2
                rw [q2] at h3
                exact ⟨h2, h3⟩)
              clear HKN HOK1
              cases kn
              all_goals go_wp2_with fail
              all_goals
                refine (KM.out _ _ _).mono ?_
                rintro e wz ⟨he, rfl⟩
                rcases he with ⟨hz, rfl⟩ | ⟨hz, rfl⟩
                · have HZ : Hid (∀ v ∈ vs.take (n + 1), v.1 = false → v.2.r = [] ∧ v.2.w = []) := HNX.out (by first | (intro h; cases h; done) | (intro _; simp at hz; done) | (intro _; simp at hz; omega) | (intro _; simp at *; omega))
                  clear hz HNX HNG
                  go_wp2_with fail
                  exact ⟨⟨n + 1, by omega, by go_num, HZ.out, (HA.out _).1, (HA.out _).2.1⟩, by simp [intOf]; omega⟩
                · have HN : Hid (¬ labsOk m gs (ls ++ ms) vs) := hide (HNG.out (by first | (simp at hz; done) | (intro hh; have hq := hh (by simp); simp at hz; omega)))
                  clear hz HNX HNG
                  unfold gaveW
                  go_wp2_with fail
                  exact ⟨rfl, Or.inr ⟨HN.out, 1, by decide, rfl⟩, (HA.out _).2.2⟩
            · go_wp2_with fail
              go_end0
              exact ⟨Or.inl ⟨⟨HALL1.out, HALL2.out, take_full (by rw [← HVS.out]; omega) HOK1.out⟩, rfl⟩, hBw⟩
/-- not too deep. -/
def dpS : Nat → Int → D → Prop
  | 0, _, _ => False
  | k + 1, deep, d => deep ≤ 6 ∧ (∀ s ∈ sThen d, dpS k (deep + 1) s) ∧ ∀ s ∈ sElse d, dpS k (deep + 1) s
def dps (k : Nat) (deep : Int) (l : List D) : Prop := ∀ s ∈ l, dpS k deep s
theorem cnts_le {k : Nat} {l : List D} (j : Nat) : cnts k (l.take j) ≤ cnts k l := by
  have h : cnts k l = cnts k (l.take j) + cnts k (l.drop j) := by
    unfold cnts
    rw [← List.sum_append, ← List.map_append, List.take_append_drop]
  omega
def Counted (dp : Prop) (many n : Int) (w : World) (e : Ending) (w' : World) : Prop := ((e = .returned (.int .i64 (many + n)) ∧ many + n ≤ 50 ∧ dp) ∨ (¬ (many + n ≤ 50 ∧ dp) ∧ e = gaveW 2)) ∧ Below w.heap.size w w'

set_option maxHeartbeats 4000000 in
set_option maxRecDepth 100000 in
theorem count_any (K : Nat) : ∀ (k : Nat) (v : Value) (l : List D) (deep many : Int) (w : World), StmtsAt w K k v l → 0 ≤ deep → deep ≤ 7 → 0 ≤ many → many ≤ 50 →
    Calls Try.prog 138 #[v, .int .i64 deep, .int .i64 many] w (Counted (dps k deep l) many (cnts k l) w) := by
  intro k
  induction k with
  | zero =>
    intro v l deep many w h d0 d1 m0 m1
    obtain rfl := h.zero
    obtain ⟨-, ao, cap, rfl, -⟩ := h
    have hz : many + ((cnts 0 [] : Nat) : Int) = many := by simp [cnts]
    show Calls Try.prog 138 #[.slice ao 0 cap, .int .i64 deep, .int .i64 many] w _
    go_enter Try.func138, Try.ntmps138
    go_wp2_with fail
    go_loopw [2, 11] (fun c i wr => c = .int .i64 many ∧ i = .int .i64 0 ∧ wr = w) (fun _ _ _ => 0)
    case atStart => exact ⟨rfl, rfl, rfl⟩
    case round =>
      obtain ⟨rfl, rfl, hw⟩ := hrel
      have hw' := hw.symm
      subst hw'
      clear hw
      go_wp2_with fail
      go_ret
      exact ⟨Or.inl ⟨by rw [hz]; rfl, by rw [hz]; exact m1, fun s hs => absurd hs (by simp)⟩, Below.refl _ _⟩
  | succ k ih =>
    intro v l deep many w h d0 d1 m0 m1
    have HS := hide h
    have hlen : l.length ≤ 9223372036854775807 := h.1
    obtain ⟨ao, cap, rfl, hc⟩ := h.2
    have HC := hide hc
    have IH := hide ih
    clear hc ih h
    have KM := hide must_any
    go_enter Try.func138, Try.ntmps138
    go_wp2_with fail
    go_loopw [2, 11] (fun c i wr => ∃ j : Nat, j ≤ l.length ∧ i = .int .i64 j ∧ c = .int .i64 (many + (cnts (k + 1) (l.take j) : Nat)) ∧ many + (cnts (k + 1) (l.take j) : Nat) ≤ 50 ∧ Hid (dps (k + 1) deep (l.take j)) ∧ Below w.heap.size w wr) (fun _ i _ => l.length - (intOf i).toNat)
    case atStart => exact ⟨0, Nat.zero_le _, rfl, by simp [cnts], by simp [cnts]; omega, hide (fun s hs => absurd hs (by simp)), Below.refl _ w⟩
    case round =>
      obtain ⟨j, hj, rfl, rfl, hle, HDP, hB⟩ := hrel
      by_cases hjl : j < l.length
      · obtain ⟨b, off, rfl, hcl⟩ := HC.out (by rintro rfl; simp at hjl)
        obtain ⟨cs, hl9, hcs, hr⟩ := hcl j l[j] (List.getElem?_eq_getElem hjl)
        have htk := cnts_take (k := k + 1) hjl
        have hcn : cntS (k + 1) l[j] = 1 + cnts k (sThen l[j]) + cnts k (sElse l[j]) := rfl
        rw [hcn] at htk
        obtain ⟨d, hd⟩ : ∃ d, d = l[j] := ⟨_, rfl⟩
        have hmd := List.getElem_mem hjl
        have htl2 : l.take (j + 1) = l.take j ++ [l[j]] := List.take_succ_eq_append_getElem hjl
        have hle2 := cnts_le (k := k + 1) (l := l) (j + 1)
        rw [← hd] at hr htk hmd htl2
        have HMD := hide hmd
        have HTL := hide htl2
        clear hmd htl2
        obtain ⟨ek, en, xa, xl, xc, aa, ac, ta, tc, ea, ec, hcse, -, -, -, -, -, hT, hE, -, -, -⟩ := hr.form
        subst hcse
        obtain ⟨M, hM⟩ : ∃ M : Int, M = many + (cnts (k + 1) (l.take j) : Nat) := ⟨_, rfl⟩
        rw [← hM] at hle ⊢
        have hM0 : 0 ≤ M := by omega
        obtain ⟨n1, hn1⟩ : ∃ n : Nat, n = cnts k (sThen d) := ⟨_, rfl⟩
        obtain ⟨n2, hn2⟩ : ∃ n : Nat, n = cnts k (sElse d) := ⟨_, rfl⟩
        rw [← hn1, ← hn2] at htk
        have HTOT : Hid (M + 1 + (n1 : Int) + n2 ≤ many + (cnts (k + 1) l : Nat)) := hide (by rw [hM]; omega)
        have HTK := hide htk
        have HMM := hide hM
        clear htk hM hcn hle2
        obtain ⟨kd, hkd⟩ : ∃ q, q = sKind d := ⟨_, rfl⟩
        obtain ⟨va, hva⟩ : ∃ q, q = sVar d := ⟨_, rfl⟩
        obtain ⟨ot, hot⟩ : ∃ q, q = sOther d := ⟨_, rfl⟩
        obtain ⟨al, hal⟩ : ∃ q, q = (sArgs d).length := ⟨_, rfl⟩
        obtain ⟨tl, htl⟩ : ∃ q, q = (sThen d).length := ⟨_, rfl⟩
        obtain ⟨el, hel⟩ : ∃ q, q = (sElse d).length := ⟨_, rfl⟩
        rw [← htl] at hT
        rw [← hel] at hE
        rw [← hkd, ← hva, ← hot, ← hal, ← htl, ← hel] at hcs
        have q0 : wr.cell? ⟨b, off + j * 9, none⟩ = _ := cell_over hB _ _ (hcs 0 _ rfl)
        have q1 := cell_over hB _ _ (hcs 1 _ rfl)
        have q2 := cell_over hB _ _ (hcs 2 _ rfl)
        have q3 := cell_over hB _ _ (hcs 3 _ rfl)
        have q4 := cell_over hB _ _ (hcs 4 _ rfl)
        have q5 := cell_over hB _ _ (hcs 5 _ rfl)
        have q6 := cell_over hB _ _ (hcs 6 _ rfl)
        have q7 := cell_over hB _ _ (hcs 7 _ rfl)
        have q8 := cell_over hB _ _ (hcs 8 _ rfl)
        have hba : Below wr.heap.size wr (wr.alloc (.cells #[.int .i64 kd, .int .i64 va, .int .i64 ot, .int .i64 ek, .int .i64 en, .slice xa xl xc, .slice aa al ac, .slice ta tl tc, .slice ea el ec] 78)) := (Below.refl _ wr).alloc (Nat.le_refl _) _
        have hBa := hB.trans (hba.mono hB.size)
        have hTa := hT.over hBa
        have K1 := hide fun (h1 : M + 1 ≤ 50) (h2 : deep ≤ 6) => IH.out (.slice ta tl tc) (sThen d) (deep + 1) (M + 1) _ hTa (by omega) (by omega) (by omega) h1
        have K2 := hide fun W (hW : Below w.heap.size w W) (mm : Int) (h0 : 0 ≤ mm) (h1 : mm ≤ 50) (h2 : deep ≤ 6) => IH.out (.slice ea el ec) (sElse d) (deep + 1) mm W (hE.over hW) (by omega) (by omega) h0 h1
        rw [← hn1] at K1
        rw [← hn2] at K2
        have s8 : (wr.alloc (.cells #[.int .i64 kd, .int .i64 va, .int .i64 ot, .int .i64 ek, .int .i64 en, .slice xa xl xc, .slice aa al ac, .slice ta tl tc, .slice ea el ec] 78)).cell? ⟨wr.heap.size, 8, none⟩ = some (.slice ea el ec) := by simp [go_sem]
        clear hT hE hTa hcs hcl hr hl9 hn1 hn2 hkd hva hot hal htl hel hd
        by_cases c1 : M + 1 ≤ 50 ∧ deep ≤ 6
        · obtain ⟨c1, c2⟩ := c1
          have K1' := hide (K1.out c1 c2)
          go_wp2_with fail
          refine (KM.out true 2 _).mono ?_
          rintro e wz ⟨he, rfl⟩
          have he2 : e = .returned (.tuple #[]) := by
            rcases he with ⟨_, he⟩ | ⟨he, _⟩
            · exact he
            · cases he
          subst he2
          clear he
          go_wp2_with fail
          refine (K1'.out).mono ?_
          rintro e w1 ⟨he, hb1⟩
          have hB1 := hBa.trans (hb1.mono hBa.size)
          rcases he with ⟨rfl, hm1, hdp1⟩ | ⟨hng, rfl⟩
          · have HDP1 := hide hdp1
            clear hdp1
            have t8 := cell_over hb1 _ _ s8
            have hM1 : 0 ≤ M + 1 + (n1 : Int) := by omega
            obtain ⟨M1, hM1e⟩ : ∃ q, q = M + 1 + (n1 : Int) := ⟨_, rfl⟩
            rw [← hM1e] at hm1 hM1 ⊢
            have HME := hide hM1e
            clear hM1e
            have K2' := hide (K2.out w1 hB1 M1 hM1 hm1 c2)
            clear K1 K2 K1' s8 hb1 hBa q0 q1 q2 q3 q4 q5 q6 q7 q8 hB hba
            go_wp2_with fail
            refine (K2'.out).mono ?_
            rintro e w2 ⟨he, hb2⟩
            have hB2 := hB1.trans (hb2.mono hB1.size)
            rcases he with ⟨rfl, hm2, hdp2⟩ | ⟨hng, rfl⟩
            · have HDN : Hid (dps (k + 1) deep (l.take (j + 1))) := hide (fun s hs => by
                rw [HTL.out, List.mem_append, List.mem_singleton] at hs
                rcases hs with hs | rfl
                · exact HDP.out s hs
                · exact ⟨c2, HDP1.out, hdp2⟩)
              clear K2' t8 hb2 hB1 hdp2
              go_wp2_with fail
              refine ⟨⟨j + 1, by omega, by go_num, ?_, ?_, HDN, hB2⟩, by simp [intOf]; omega⟩
              · rw [HTK.out]
                have := HMM.out
                refine congrArg (Value.int IntKind.i64) ?_
                have h2 := HME.out
                push_cast
                omega
              · rw [HTK.out]
                have := HMM.out
                have h2 := HME.out
                push_cast
                omega
            · have HN : Hid (¬ (many + (cnts (k + 1) l : Nat) ≤ 50 ∧ dps (k + 1) deep l)) := hide (fun hh => hng ⟨by have h1 := HTOT.out; have h2 := HME.out; have h3 := hh.1; omega, (hh.2 d HMD.out).2.2⟩)
              clear hng
              unfold gaveW
              go_wp2_with fail
              exact ⟨rfl, Or.inr ⟨HN.out, rfl⟩, hB2⟩
          · have HN : Hid (¬ (many + (cnts (k + 1) l : Nat) ≤ 50 ∧ dps (k + 1) deep l)) := hide (fun hh => hng ⟨by have h1 := HTOT.out; have h3 := hh.1; omega, (hh.2 d HMD.out).2.1⟩)
            clear hng
            unfold gaveW
            go_wp2_with fail
            exact ⟨rfl, Or.inr ⟨HN.out, rfl⟩, hB1⟩
        · clear K1 K2 s8
          by_cases c2 : M + 1 ≤ 50
          · have c3 : ¬ deep ≤ 6 := fun h => c1 ⟨c2, h⟩
            clear c1
            have HN : Hid (¬ (many + (cnts (k + 1) l : Nat) ≤ 50 ∧ dps (k + 1) deep l)) := hide (fun hh => c3 (hh.2 d HMD.out).1)
            go_wp2_with fail
            refine (KM.out false 2 _).mono ?_
            rintro e wz ⟨he, rfl⟩
            have he2 : e = gaveW 2 := by
              rcases he with ⟨he, _⟩ | ⟨_, he⟩
              · cases he
              · exact he
            subst he2
            clear he
            unfold gaveW
            go_wp2_with fail
            exact ⟨rfl, Or.inr ⟨HN.out, rfl⟩, hBa⟩
          · clear c1
            have HN : Hid (¬ (many + (cnts (k + 1) l : Nat) ≤ 50 ∧ dps (k + 1) deep l)) := hide (fun hh => c2 (by have h1 := HTOT.out; have h3 := hh.1; omega))
            go_wp2_with fail
            refine (KM.out false 2 _).mono ?_
            rintro e wz ⟨he, rfl⟩
            have he2 : e = gaveW 2 := by
              rcases he with ⟨he, _⟩ | ⟨_, he⟩
              · cases he
              · exact he
            subst he2
            clear he
            unfold gaveW
            go_wp2_with fail
            exact ⟨rfl, Or.inr ⟨HN.out, rfl⟩, hBa⟩
      · have hd : l.take j = l := List.take_of_length_le (by omega)
        rw [hd] at hle HDP ⊢
        go_wp2_with fail
        go_ret
        exact ⟨Or.inl ⟨rfl, hle, HDP.out⟩, hB⟩
theorem cntF_le {k : Nat} {l : List FnD} (j : Nat) : cntF k (l.take j) ≤ cntF k l := by
  have h : cntF k l = cntF k (l.take j) + cntF k (l.drop j) := by
    unfold cntF
    rw [← List.sum_append, ← List.map_append, List.take_append_drop]
  omega
def dpF (k : Nat) (fs : List FnD) : Prop := ∀ f ∈ fs, dps k 1 f.body
def Limited (dp : Prop) (n : Int) (w : World) (e : Ending) (w' : World) : Prop := ((e = .returned (.tuple #[]) ∧ n ≤ 50 ∧ dp) ∨ (¬ (n ≤ 50 ∧ dp) ∧ e = gaveW 2)) ∧ Below w.heap.size w w'

set_option maxHeartbeats 4000000 in
set_option maxRecDepth 100000 in
theorem limits_any (K k : Nat) (m : Int) (ga : Option Addr) (gn gc : Nat) (sa : Option Addr) (sn sc : Nat) (ya : Option Addr) (yn yc : Nat) (oa : Option Addr) (on oc : Nat) (va : Option Addr) (vn vc : Nat) (fa : Option Addr) (fn fc : Nat) (ba : Option Addr) (bn bc : Nat) (fs : List FnD) (l : List D) (w : World) (hf : FnsAt w K k (.slice fa fn fc) fs) (hl : StmtsAt w K k (.slice ba bn bc) l) :
    Calls Try.prog 111 #[.agg #[.int .i64 m, .slice ga gn gc, .slice sa sn sc, .slice ya yn yc, .slice oa on oc, .slice va vn vc, .slice fa fn fc, .slice ba bn bc]] w (Limited (dpF k fs ∧ dps k 1 l) ((cntF k fs : Nat) + (cnts k l : Nat)) w) := by
  have c6 : (w.alloc (.cells #[.int .i64 m, .slice ga gn gc, .slice sa sn sc, .slice ya yn yc, .slice oa on oc, .slice va vn vc, .slice fa fn fc, .slice ba bn bc] 125)).cell? ⟨w.heap.size, 6, none⟩ = some (.slice fa fn fc) := by simp [go_sem]
  have c7 : (w.alloc (.cells #[.int .i64 m, .slice ga gn gc, .slice sa sn sc, .slice ya yn yc, .slice oa on oc, .slice va vn vc, .slice fa fn fc, .slice ba bn bc] 125)).cell? ⟨w.heap.size, 7, none⟩ = some (.slice ba bn bc) := by simp [go_sem]
  have hbel : Below w.heap.size w (w.alloc (.cells #[.int .i64 m, .slice ga gn gc, .slice sa sn sc, .slice ya yn yc, .slice oa on oc, .slice va vn vc, .slice fa fn fc, .slice ba bn bc] 125)) := (Below.refl _ w).alloc (Nat.le_refl _) _
  obtain ⟨hfl, fa', fc', hfe, hfc⟩ := hf
  injection hfe with e1 e2 e3
  subst e1 e2 e3
  have hfl' : fs.length ≤ 9223372036854775807 := hfl
  have HF := hide hfc
  have HM := hide hl
  clear hfc hl hfl
  have K1 := hide (count_any K)
  go_enter Try.func111, Try.ntmps111
  go_wp2_with fail
  go_loopw [2, 9] (fun c i wr => ∃ j : Nat, j ≤ fs.length ∧ i = .int .i64 j ∧ c = .int .i64 (cntF k (fs.take j) : Nat) ∧ ((cntF k (fs.take j) : Nat) : Int) ≤ 50 ∧ Hid (dpF k (fs.take j)) ∧ wr.cell? ⟨w.heap.size, 7, none⟩ = some (.slice ba bn bc) ∧ Below w.heap.size w wr) (fun _ i _ => fs.length - (intOf i).toNat)
  case atStart => exact ⟨0, Nat.zero_le _, rfl, by simp [cntF], by simp [cntF], hide (fun s hs => absurd hs (by simp)), c7, hbel⟩
  case round =>
    clear c6 c7 hbel
    obtain ⟨j, hj, rfl, rfl, hle, HDP, c7, hB⟩ := hrel
    by_cases hjl : j < fs.length
    · obtain ⟨b, off, rfl, hcl⟩ := HF.out (by rintro rfl; simp at hjl)
      obtain ⟨vP, vB, x0, x1, x2, q0, q1, q2, q3, q4, hp, hpl, hs, hx⟩ := hcl j hjl
      obtain ⟨pa, pc, rfl, -⟩ := hp
      obtain ⟨za, zc, rfl, -⟩ := hs.2
      obtain ⟨xa, xc, hxf⟩ := hx.form
      simp only [List.cons.injEq, and_true] at hxf
      obtain ⟨rfl, rfl, rfl⟩ := hxf
      have htk := cntF_take (k := k) hjl
      obtain ⟨fd, hfd⟩ : ∃ d, d = fs[j] := ⟨_, rfl⟩
      have hmd := List.getElem_mem hjl
      have htl2 : fs.take (j + 1) = fs.take j ++ [fs[j]] := List.take_succ_eq_append_getElem hjl
      have hle2 := cntF_le (k := k) (l := fs) (j + 1)
      rw [← hfd] at q0 q1 q2 q3 q4 hs htk hmd htl2
      have HMD := hide hmd
      have HTL := hide htl2
      clear hmd htl2
      obtain ⟨M, hM⟩ : ∃ M : Nat, M = cntF k (fs.take j) := ⟨_, rfl⟩
      rw [← hM] at hle htk ⊢
      have HTK := hide htk
      have HTOT : Hid (M + cnts k fd.body ≤ cntF k fs) := hide (by rw [← htk]; exact hle2)
      have HFB : Hid (fd ∈ fs) := HMD
      clear htk hM hle2
      have r0 : wr.cell? ⟨b, off + j * 5, none⟩ = _ := cell_over hB _ _ q0
      have r1 := cell_over hB _ _ q1
      have r2 := cell_over hB _ _ q2
      have r3 := cell_over hB _ _ q3
      have r4 := cell_over hB _ _ q4
      obtain ⟨pn, hpn⟩ : ∃ q, q = fd.ps.length := ⟨_, rfl⟩
      obtain ⟨zn, hzn⟩ : ∃ q, q = fd.body.length := ⟨_, rfl⟩
      obtain ⟨ek, hek⟩ : ∃ q, q = kindOf fd.res := ⟨_, rfl⟩
      obtain ⟨en, hen⟩ : ∃ q, q = numOf fd.res := ⟨_, rfl⟩
      obtain ⟨xl, hxl⟩ : ∃ q, q = (argsOf fd.res).length := ⟨_, rfl⟩
      rw [← hpn] at r0
      rw [← hzn] at r1 hs
      rw [← hek] at r2
      rw [← hen] at r3
      rw [← hxl] at r4
      have hba := (Below.refl _ wr).alloc (Nat.le_refl _) (.cells #[.slice pa pn pc, .slice za zn zc, .int .i64 ek, .int .i64 en, .slice xa xl xc] 133)
      have hBa := hB.trans (hba.mono hB.size)
      have c7' := cell_over hba _ _ c7
      have K1' := hide (K1.out k _ _ 1 (M : Int) _ (hs.over hBa) (by omega) (by omega) (by omega) hle)
      obtain ⟨n1, hn1⟩ : ∃ q, q = cnts k fd.body := ⟨_, rfl⟩
      rw [← hn1] at K1' HTK HTOT
      clear q0 q1 q2 q3 q4 hs hx hcl hfd hpn hzn hek hen hxl hn1 hpl
      go_wp2_with fail
      refine (K1'.out).mono ?_
      rintro e w1 ⟨he, hb1⟩
      have hB1 := hBa.trans (hb1.mono hBa.size)
      rcases he with ⟨rfl, hm1, hdp1⟩ | ⟨hng, rfl⟩
      · have HDN : Hid (dpF k (fs.take (j + 1))) := hide (fun f hf => by
          rw [HTL.out, List.mem_append, List.mem_singleton] at hf
          rcases hf with hf | rfl
          · exact HDP.out f hf
          · exact hdp1)
        clear hdp1
        have c7'' := cell_over hb1 _ _ c7'
        clear K1' hb1 hBa hba hB r0 r1 r2 r3 r4 c7 c7'
        go_wp2_with fail
        refine ⟨⟨j + 1, by omega, by go_num, ?_, ?_, HDN, c7'', hB1⟩, by simp [intOf]; omega⟩
        · rw [HTK.out]
          refine congrArg (Value.int IntKind.i64) ?_
          push_cast
          omega
        · rw [HTK.out]
          push_cast
          omega
      · have HN : Hid (¬ ((cntF k fs : Nat) + ((cnts k l : Nat) : Int) ≤ 50 ∧ dpF k fs ∧ dps k 1 l)) := hide (fun hh => hng ⟨by have h1 := HTOT.out; have h3 := hh.1; omega, hh.2.1 fd HMD.out⟩)
        clear hng
        unfold gaveW
        go_wp2_with fail
        exact ⟨rfl, Or.inr ⟨HN.out, rfl⟩, hB1⟩
    · have hd : fs.take j = fs := List.take_of_length_le (by omega)
      rw [hd] at hle HDP ⊢
      have K1' := hide (K1.out k _ _ 1 ((cntF k fs : Nat) : Int) _ (HM.out.over hB) (by omega) (by omega) (by omega) hle)
      obtain ⟨M, hM⟩ : ∃ M : Nat, M = cntF k fs := ⟨_, rfl⟩
      rw [← hM] at K1' hle ⊢
      have HMM := hide hM
      clear hM hd
      go_wp2_with fail
      refine (K1'.out).mono ?_
      rintro e w1 ⟨he, hb1⟩
      have hB1 := hB.trans (hb1.mono hB.size)
      rcases he with ⟨rfl, hm1, hdp1⟩ | ⟨hng, rfl⟩
      · have hm2 : ((cntF k fs : Nat) : Int) + (cnts k l : Nat) ≤ 50 := by rw [← HMM.out]; exact hm1
        have HM2 := hide hm2
        have HD2 := hide hdp1
        clear K1' hm2 hdp1
        go_wp2_with fail
        go_end0
        exact ⟨Or.inl ⟨rfl, HM2.out, HDP.out, HD2.out⟩, hB1⟩
      · have HN : Hid (¬ ((cntF k fs : Nat) + ((cnts k l : Nat) : Int) ≤ 50 ∧ dpF k fs ∧ dps k 1 l)) := hide (fun hh => hng ⟨by have h1 := HMM.out; have h3 := hh.1; omega, hh.2.2⟩)
        clear hng
        unfold gaveW
        go_wp2_with fail
        exact ⟨rfl, Or.inr ⟨HN.out, rfl⟩, hB1⟩
/-- just what a program must be. -/
structure xP (K kf : Nat) (m : Int) (vn yn on sn : Nat) (gs : List (Int × Int)) (sp : List Int) (ls ms : List Lab) (vs : List (Bool × Lab)) (fs : List FnD) (l : List D) : Prop where
  chk : chkErr m gs = 0
  lim : (vn : Int) ≤ 16 ∧ (yn : Int) ≤ 5 ∧ (on : Int) ≤ 5 ∧ (fs.length : Int) ≤ 5 ∧ (sn : Int) ≤ m
  speak : ∀ x ∈ sp, 0 ≤ x ∧ x < m
  labs : labsOk m gs (ls ++ ms) vs
  many : ((cntF kf fs : Nat) : Int) + (cnts kf l : Nat) ≤ 50 ∧ dpF kf fs ∧ dps kf 1 l
  body : ∀ i (h : i < fs.length), xF K vn yn on (i : Int) fs kf fs[i]
  main : ∀ s ∈ l, xS K vn yn on (fs.length : Int) fs kf s
theorem xP.ok {K kf : Nat} {m : Int} {vn yn on sn : Nat} {gs : List (Int × Int)} {sp : List Int} {ls ms : List Lab} {vs : List (Bool × Lab)} {fs : List FnD} {l : List D} (h : xP K kf m vn yn on sn gs sp ls ms vs fs l) : okP K kf m vn yn on gs sp ls ms vs fs l :=
  ⟨h.chk, h.speak, h.labs, by have := h.lim; omega, by have := h.lim; omega, by have := h.lim; omega, by have := h.lim; omega, by have := h.many.1; omega, fun i hi => (h.body i hi).ok, fun s hs => (h.main s hs).ok⟩

set_option maxHeartbeats 2000000 in
set_option maxRecDepth 100000 in
theorem checkG_any (K kf : Nat) (m : Int) (ga : Option Addr) (gn gc : Nat) (sa : Option Addr) (sn sc : Nat) (ya : Option Addr) (yn yc : Nat) (oa : Option Addr) (on oc : Nat) (va : Option Addr) (vn vc : Nat) (fa : Option Addr) (fn fc : Nat) (ba : Option Addr) (bn bc : Nat) (gs : List (Int × Int)) (sp : List Int) (ls ms : List Lab) (vs : List (Bool × Lab)) (fs : List FnD) (l : List D) (w : World) (h : ProgAt K kf m ga gn gc sa sn sc ya yn yc oa on oc va vn vc fa fn fc ba bn bc gs sp ls ms vs fs l w) :
    Calls Try.prog 72 #[.agg #[.int .i64 m, .slice ga gn gc, .slice sa sn sc, .slice ya yn yc, .slice oa on oc, .slice va vn vc, .slice fa fn fc, .slice ba bn bc]] w (Goes (xP K kf m vn yn on sn gs sp ls ms vs fs l) w) := by
  have hfx : fn = fs.length := by obtain ⟨-, a, c, he, -⟩ := h.funcs; injection he
  have HFX := hide hfx
  clear hfx
  have hbel : Below w.heap.size w (w.alloc (.cells #[.int .i64 m, .slice ga gn gc, .slice sa sn sc, .slice ya yn yc, .slice oa on oc, .slice va vn vc, .slice fa fn fc, .slice ba bn bc] 125)) := (Below.refl _ w).alloc (Nat.le_refl _) _
  have HP := hide (h.over hbel)
  have KP := hide pass_any
  have KM := hide must_any
  have KO := hide isOneOf_any
  have KA := hide (Go.Proofs.Ytcbbjjenkommeaa.check_any m (.slice ga gn gc) gs)
  have hvl : vn ≤ 9223372036854775807 := by obtain ⟨hm, a, c, he, -⟩ := h.vars; injection he with e1 e2 e3; rw [e2]; exact hm
  have c0 : (w.alloc (.cells #[.int .i64 m, .slice ga gn gc, .slice sa sn sc, .slice ya yn yc, .slice oa on oc, .slice va vn vc, .slice fa fn fc, .slice ba bn bc] 125)).cell? ⟨w.heap.size, 0, none⟩ = some (.int .i64 m) := by simp [go_sem]
  have c1 : (w.alloc (.cells #[.int .i64 m, .slice ga gn gc, .slice sa sn sc, .slice ya yn yc, .slice oa on oc, .slice va vn vc, .slice fa fn fc, .slice ba bn bc] 125)).cell? ⟨w.heap.size, 1, none⟩ = some (.slice ga gn gc) := by simp [go_sem]
  have c2 : (w.alloc (.cells #[.int .i64 m, .slice ga gn gc, .slice sa sn sc, .slice ya yn yc, .slice oa on oc, .slice va vn vc, .slice fa fn fc, .slice ba bn bc] 125)).cell? ⟨w.heap.size, 2, none⟩ = some (.slice sa sn sc) := by simp [go_sem]
  have c3 : (w.alloc (.cells #[.int .i64 m, .slice ga gn gc, .slice sa sn sc, .slice ya yn yc, .slice oa on oc, .slice va vn vc, .slice fa fn fc, .slice ba bn bc] 125)).cell? ⟨w.heap.size, 3, none⟩ = some (.slice ya yn yc) := by simp [go_sem]
  have c4 : (w.alloc (.cells #[.int .i64 m, .slice ga gn gc, .slice sa sn sc, .slice ya yn yc, .slice oa on oc, .slice va vn vc, .slice fa fn fc, .slice ba bn bc] 125)).cell? ⟨w.heap.size, 4, none⟩ = some (.slice oa on oc) := by simp [go_sem]
  have c5 : (w.alloc (.cells #[.int .i64 m, .slice ga gn gc, .slice sa sn sc, .slice ya yn yc, .slice oa on oc, .slice va vn vc, .slice fa fn fc, .slice ba bn bc] 125)).cell? ⟨w.heap.size, 5, none⟩ = some (.slice va vn vc) := by simp [go_sem]
  have c6 : (w.alloc (.cells #[.int .i64 m, .slice ga gn gc, .slice sa sn sc, .slice ya yn yc, .slice oa on oc, .slice va vn vc, .slice fa fn fc, .slice ba bn bc] 125)).cell? ⟨w.heap.size, 6, none⟩ = some (.slice fa fn fc) := by simp [go_sem]
  have c7 : (w.alloc (.cells #[.int .i64 m, .slice ga gn gc, .slice sa sn sc, .slice ya yn yc, .slice oa on oc, .slice va vn vc, .slice fa fn fc, .slice ba bn bc] 125)).cell? ⟨w.heap.size, 7, none⟩ = some (.slice ba bn bc) := by simp [go_sem]
  clear h
  go_enter Try.func72, Try.ntmps72
  go_wp2_with fail
  refine (KA.out _ (HP.out.grants)).mono ?_
  rintro e w1 ⟨rfl, hb1⟩
  have d0 := cell_over hb1 _ _ c0
  have d1 := cell_over hb1 _ _ c1
  have d2 := cell_over hb1 _ _ c2
  have d3 := cell_over hb1 _ _ c3
  have d4 := cell_over hb1 _ _ c4
  have d5 := cell_over hb1 _ _ c5
  have d6 := cell_over hb1 _ _ c6
  have d7 := cell_over hb1 _ _ c7
  have hB1 := hbel.trans (hb1.mono hbel.size)
  have HP1 := hide (HP.out.over hb1)
  obtain ⟨ce, hce⟩ : ∃ q, q = chkErr m gs := ⟨_, rfl⟩
  rw [← hce]
  have HCE := hide hce
  clear KA c0 c1 c2 c3 c4 c5 c6 c7 hb1 hbel hce HP
  go_wp2_with fail
  refine (KP.out _ _).mono ?_
  rintro e wz ⟨he, rfl⟩
  rcases he with ⟨hz, rfl⟩ | ⟨hz, rfl⟩
  rotate_left
  · have hz2 : ce ≠ 0 := by simpa using hz
    have HN : Hid (¬ xP K kf m vn yn on sn gs sp ls ms vs fs l) := hide (fun hx => hz2 (HCE.out.trans hx.chk))
    unfold gaveW
    go_wp2_with fail
    exact ⟨rfl, Or.inr ⟨HN.out, ce, hz2, rfl⟩, hB1⟩
  have HCHK := hide (show chkErr m gs = 0 by rw [← HCE.out]; simpa using hz)
  clear hz HCE
  by_cases hlim : ((vn : Int) ≤ 16 ∧ (yn : Int) ≤ 5 ∧ (on : Int) ≤ 5 ∧ (fn : Int) ≤ 5 ∧ (sn : Int) ≤ m)
  rotate_left
  · have HL := hide hlim
    have HN : Hid (¬ xP K kf m vn yn on sn gs sp ls ms vs fs l) := hide (fun hx => hlim (by rw [HFX.out]; exact hx.lim))
    clear hlim
    go_wp2_with fail
    all_goals
      refine (KM.out _ _ _).mono ?_
      rintro e wz ⟨he, rfl⟩
      rcases he with ⟨hz, rfl⟩ | ⟨hz, rfl⟩
      · exfalso
        have := HL.out
        first | (simp at hz; done) | (simp at hz; omega)
      · clear hz
        unfold gaveW
        go_wp2_with fail
        exact ⟨rfl, Or.inr ⟨HN.out, 2, by decide, rfl⟩, hB1⟩
  have HLIM : Hid ((vn : Int) ≤ 16 ∧ (yn : Int) ≤ 5 ∧ (on : Int) ≤ 5 ∧ (fs.length : Int) ≤ 5 ∧ (sn : Int) ≤ m) := hide (by rw [← HFX.out]; exact hlim)
  obtain ⟨l1, l2, l3, l4, l5⟩ := hlim
  go_wp2_with fail
  refine (KM.out _ _ _).mono ?_
  rintro e wz ⟨he, rfl⟩
  rcases he with ⟨hz, rfl⟩ | ⟨hz, rfl⟩
  rotate_left
  · cases hz
  clear hz
  have hsn : sn = sp.length := by obtain ⟨a, c, he, -⟩ := HP1.out.speak; injection he
  have hsl : sn ≤ 9223372036854775807 := by rw [hsn]; exact HP1.out.speakL
  have HSN := hide hsn
  clear hsn
  go_wp2_with fail
  go_loopw [53] (fun i wr => ∃ n : Nat, n ≤ sn ∧ i = .int .i64 n ∧ (∀ x ∈ sp.take n, 0 ≤ x ∧ x < m) ∧ (wr.cell? ⟨w.heap.size, 0, none⟩ = some (.int .i64 m) ∧ wr.cell? ⟨w.heap.size, 1, none⟩ = some (.slice ga gn gc) ∧ wr.cell? ⟨w.heap.size, 2, none⟩ = some (.slice sa sn sc) ∧ wr.cell? ⟨w.heap.size, 3, none⟩ = some (.slice ya yn yc) ∧ wr.cell? ⟨w.heap.size, 4, none⟩ = some (.slice oa on oc) ∧ wr.cell? ⟨w.heap.size, 5, none⟩ = some (.slice va vn vc) ∧ wr.cell? ⟨w.heap.size, 6, none⟩ = some (.slice fa fn fc) ∧ wr.cell? ⟨w.heap.size, 7, none⟩ = some (.slice ba bn bc)) ∧ Below wz.heap.size wz wr) (fun i _ => sn - (intOf i).toNat)
  case atStart => exact ⟨0, Nat.zero_le _, rfl, by simp, ⟨d0, d1, d2, d3, d4, d5, d6, d7⟩, Below.refl _ _⟩
  case round =>
    clear d0 d1 d2 d3 d4 d5 d6 d7
    obtain ⟨n, hn, rfl, hok1, ⟨d0, d1, d2, d3, d4, d5, d6, d7⟩, hB⟩ := hrel
    have HOK1 := hide hok1
    clear hok1
    have hBw := hB1.trans (hB.mono hB1.size)
    by_cases hnl : n < sn
    · obtain ⟨a2, c2, he, hel⟩ := HP1.out.speak.over hB
      injection he with e1 e2 e3
      have hnd : n < sp.length := by omega
      obtain ⟨b, off, hbo, hel2⟩ := hel (by intro h; rw [h] at hnd; simp at hnd)
      have q := hel2 n hnd
      have e1' := e1.trans hbo
      subst e1'
      obtain ⟨x, hx⟩ : ∃ x, x = sp[n] := ⟨_, rfl⟩
      rw [← hx] at q
      have HX := hide hx
      clear hel hel2 hx e1 e2 e3 hbo
      go_wp2_with fail
      refine (KO.out _ _ _).mono ?_
      rintro e wy ⟨rfl, rfl⟩
      obtain ⟨ok, hok⟩ : ∃ q, q = decide (0 ≤ x ∧ x < m) := ⟨_, rfl⟩
      rw [← hok]
      have HOK := hide hok
      clear hok
      go_wp2_with fail
      refine (KM.out _ _ _).mono ?_
      rintro e wx ⟨he, rfl⟩
      rcases he with ⟨hz, rfl⟩ | ⟨hz, rfl⟩
      rotate_left
      · have HN : Hid (¬ xP K kf m vn yn on sn gs sp ls ms vs fs l) := hide (fun hx => by have h1 := HOK.out; rw [hz] at h1; have h2 := hx.speak x (by rw [HX.out]; exact List.getElem_mem _); simp at h1; omega)
        clear hz
        unfold gaveW
        go_wp2_with fail
        exact ⟨rfl, Or.inr ⟨HN.out, 5, by decide, rfl⟩, hBw⟩
      have HZ := hide (show 0 ≤ x ∧ x < m by have h := HOK.out; rw [hz] at h; simpa using h.symm)
      clear hz HOK
      go_wp2_with fail
      exact ⟨⟨n + 1, by omega, by go_num, take_next hnd HOK1.out (by rw [← HX.out]; exact HZ.out), ⟨d0, d1, d2, d3, d4, d5, d6, d7⟩, hB⟩, by simp [intOf]; omega⟩
    · have HP2 := hide (HP1.out.over hB)
      obtain ⟨w2, hw2⟩ : ∃ q, q = wr := ⟨_, rfl⟩
      rw [← hw2] at d0 d1 d2 d3 d4 d5 d6 d7 hBw HP2 ⊢
      have HSP := hide (take_full (by rw [← HSN.out]; omega) HOK1.out)
      clear hw2 hB HP1 hB1 HOK1
      have KL := hide (labelsG_any m ga gn gc sa sn sc ya yn yc oa on oc va vn vc fa fn fc ba bn bc gs ls ms vs w2 HP2.out.grants HP2.out.ins HP2.out.outs HP2.out.vars (by omega) (by omega) HP2.out.insN HP2.out.outsN)
      go_wp2_with fail
      refine (KL.out).mono ?_
      rintro e w3 ⟨he, hb3⟩
      have hBw3 := hBw.trans (hb3.mono hBw.size)
      have HP3 := hide (HP2.out.over hb3)
      have r0 := cell_over hb3 _ _ d0
      have r1 := cell_over hb3 _ _ d1
      have r2 := cell_over hb3 _ _ d2
      have r3 := cell_over hb3 _ _ d3
      have r4 := cell_over hb3 _ _ d4
      have r5 := cell_over hb3 _ _ d5
      have r6 := cell_over hb3 _ _ d6
      have r7 := cell_over hb3 _ _ d7
      clear KL d0 d1 d2 d3 d4 d5 d6 d7
      rcases he with ⟨hlab, rfl⟩ | ⟨hng, why, hne, rfl⟩
      rotate_left
      · have HN : Hid (¬ xP K kf m vn yn on sn gs sp ls ms vs fs l) := hide (fun hx => hng hx.labs)
        clear hng
        unfold gaveW
        go_wp2_with fail
        exact ⟨rfl, Or.inr ⟨HN.out, why, hne, rfl⟩, hBw3⟩
      have HLAB := hide hlab
      clear hb3 HP2 hBw hlab
      have KI := hide (limits_any K kf m ga gn gc sa sn sc ya yn yc oa on oc va vn vc fa fn fc ba bn bc fs l w3 HP3.out.funcs HP3.out.main)
      go_wp2_with fail
      refine (KI.out).mono ?_
      rintro e w4 ⟨he, hb4⟩
      have hBw4 := hBw3.trans (hb4.mono hBw3.size)
      have HP4 := hide (HP3.out.over hb4)
      have d0 := cell_over hb4 _ _ r0
      have d1 := cell_over hb4 _ _ r1
      have d2 := cell_over hb4 _ _ r2
      have d3 := cell_over hb4 _ _ r3
      have d4 := cell_over hb4 _ _ r4
      have d5 := cell_over hb4 _ _ r5
      have d6 := cell_over hb4 _ _ r6
      have d7 := cell_over hb4 _ _ r7
      clear KI r0 r1 r2 r3 r4 r5 r6 r7
      rcases he with ⟨rfl, hlm⟩ | ⟨hng, rfl⟩
      rotate_left
      · have HN : Hid (¬ xP K kf m vn yn on sn gs sp ls ms vs fs l) := hide (fun hx => hng hx.many)
        clear hng
        unfold gaveW
        go_wp2_with fail
        exact ⟨rfl, Or.inr ⟨HN.out, 2, by decide, rfl⟩, hBw4⟩
      have HLM := hide hlm
      have hfn : fn = fs.length := by obtain ⟨-, a, c, he, -⟩ := HP4.out.funcs; injection he
      have HFN := hide hfn
      clear hb4 HP3 hBw3 hlm hfn
      go_wp2_with fail
      go_loopw [73] (fun i wr => ∃ n : Nat, n ≤ fn ∧ i = .int .i64 n ∧ (∀ j (h : j < fs.length), j < n → xF K vn yn on (j : Int) fs kf fs[j]) ∧ (wr.cell? ⟨w.heap.size, 0, none⟩ = some (.int .i64 m) ∧ wr.cell? ⟨w.heap.size, 1, none⟩ = some (.slice ga gn gc) ∧ wr.cell? ⟨w.heap.size, 2, none⟩ = some (.slice sa sn sc) ∧ wr.cell? ⟨w.heap.size, 3, none⟩ = some (.slice ya yn yc) ∧ wr.cell? ⟨w.heap.size, 4, none⟩ = some (.slice oa on oc) ∧ wr.cell? ⟨w.heap.size, 5, none⟩ = some (.slice va vn vc) ∧ wr.cell? ⟨w.heap.size, 6, none⟩ = some (.slice fa fn fc) ∧ wr.cell? ⟨w.heap.size, 7, none⟩ = some (.slice ba bn bc)) ∧ Below w4.heap.size w4 wr) (fun i _ => fn - (intOf i).toNat)
      case atStart => exact ⟨0, Nat.zero_le _, rfl, fun j h h' => absurd h' (by omega), ⟨d0, d1, d2, d3, d4, d5, d6, d7⟩, Below.refl _ _⟩
      case round =>
        clear d0 d1 d2 d3 d4 d5 d6 d7
        obtain ⟨n, hn, rfl, hok, ⟨d0, d1, d2, d3, d4, d5, d6, d7⟩, hB⟩ := hrel
        have HOK := hide hok
        clear hok
        have hBw := hBw4.trans (hB.mono hBw4.size)
        by_cases hnl : n < fn
        · obtain ⟨-, ao, cap, he, hel⟩ := HP4.out.funcs.over hB
          injection he with e1 e2 e3
          have hnd : n < fs.length := by omega
          obtain ⟨b, off, hbo, hel2⟩ := hel (by intro h; rw [h] at hnd; simp at hnd)
          obtain ⟨vP, vB, x0, x1, x2, q0, q1, q2, q3, q4, hp, ⟨hpl, pa, pc, hvp, hpc⟩, hs, hx⟩ := hel2 n hnd
          have e1' := e1.trans hbo
          subst e1'
          subst hvp
          have hs0 := hs
          obtain ⟨-, za, zc, hvb, -⟩ := hs0
          subst hvb
          obtain ⟨xa, xc, hxf⟩ := hx.form
          simp only [List.cons.injEq, and_true] at hxf
          obtain ⟨rfl, rfl, rfl⟩ := hxf
          have hba := (Below.refl _ wr).alloc (Nat.le_refl _) (.cells #[.slice pa fs[n].ps.length pc, .slice za fs[n].body.length zc, .int .i64 (kindOf fs[n].res), .int .i64 (numOf fs[n].res), .slice xa (argsOf fs[n].res).length xc] 133)
          have hBa := hBw.trans (hba.mono hBw.size)
          have hB4a := over_trans hB hba
          have KF := hide (functionG_any K kf kf fs fs[n] (n : Int) m ga gn gc sa sn sc ya yn yc oa on oc va vn vc (some ⟨b, off, none⟩) fn fc ba bn bc pa fs[n].ps.length pc za fs[n].body.length zc (kindOf fs[n].res) (numOf fs[n].res) xa (argsOf fs[n].res).length xc _ hvl (by omega) (by omega) (by omega) (by omega) (by omega) (hp.over hba) hpl hpc (hs.over hba) (hx.over hba) (HP4.out.funcs.over hB4a))
          obtain ⟨pl, hpl2⟩ : ∃ q, q = fs[n].ps.length := ⟨_, rfl⟩
          obtain ⟨zl, hzl2⟩ : ∃ q, q = fs[n].body.length := ⟨_, rfl⟩
          obtain ⟨ek, hek2⟩ : ∃ q, q = kindOf fs[n].res := ⟨_, rfl⟩
          obtain ⟨en, hen2⟩ : ∃ q, q = numOf fs[n].res := ⟨_, rfl⟩
          obtain ⟨xl, hxl2⟩ : ∃ q, q = (argsOf fs[n].res).length := ⟨_, rfl⟩
          rw [← hpl2, ← hzl2, ← hek2, ← hen2, ← hxl2] at KF hba hBa hB4a
          rw [← hpl2] at q0
          rw [← hzl2] at q1
          rw [← hek2] at q2
          rw [← hen2] at q3
          rw [← hxl2] at q4
          have f0 := cell_over hba _ _ d0
          have f1 := cell_over hba _ _ d1
          have f2 := cell_over hba _ _ d2
          have f3 := cell_over hba _ _ d3
          have f4 := cell_over hba _ _ d4
          have f5 := cell_over hba _ _ d5
          have f6 := cell_over hba _ _ d6
          have f7 := cell_over hba _ _ d7
          clear hel hel2 e1 e2 e3 hbo hp hpl hpc hs hx hpl2 hzl2 hek2 hen2 hxl2 d0 d1 d2 d3 d4 d5 d6 d7
          go_wp2_with fail
          refine (KF.out).mono ?_
          rintro e w5 ⟨he, hb5⟩
          have hB5 := over_trans hB4a hb5
          have hBw5 := hBa.trans (hb5.mono hBa.size)
          have r0 := cell_over hb5 _ _ f0
          have r1 := cell_over hb5 _ _ f1
          have r2 := cell_over hb5 _ _ f2
          have r3 := cell_over hb5 _ _ f3
          have r4 := cell_over hb5 _ _ f4
          have r5 := cell_over hb5 _ _ f5
          have r6 := cell_over hb5 _ _ f6
          have r7 := cell_over hb5 _ _ f7
          clear KF f0 f1 f2 f3 f4 f5 f6 f7 hb5 hba hBa hB4a hB hBw q0 q1 q2 q3 q4
          rcases he with ⟨hok, rfl⟩ | ⟨hng, why, hne, rfl⟩
          rotate_left
          · have HN : Hid (¬ xP K kf m vn yn on sn gs sp ls ms vs fs l) := hide (fun hx => hng (hx.body n hnd))
            clear hng
            unfold gaveW
            go_wp2_with fail
            exact ⟨rfl, Or.inr ⟨HN.out, why, hne, rfl⟩, hBw5⟩
          have HOK2 := hide hok
          clear hok
          go_wp2_with fail
          refine ⟨⟨n + 1, by omega, by go_num, fun j h h' => ?_, ⟨r0, r1, r2, r3, r4, r5, r6, r7⟩, hB5⟩, by simp [intOf]; omega⟩
          by_cases hjn : j < n
          · exact HOK.out j h hjn
          · obtain rfl : j = n := by omega
            exact HOK2.out
        · have KS := hide (stmtsG_any K kf fs (fn : Int) m ga gn gc sa sn sc ya yn yc oa on oc va vn vc fa fn fc ba bn bc hvl (by omega) (by omega) (by omega) (by omega) (by have := HFN.out; omega) kf (.slice ba bn bc) l wr (HP4.out.main.over hB) (HP4.out.funcs.over hB))
          go_wp2_with fail
          refine (KS.out).mono ?_
          rintro e w5 ⟨he, hb5⟩
          have hBw5 := hBw.trans (hb5.mono hBw.size)
          clear KS d0 d1 d2 d3 d4 d5 d6 d7 hb5 hB hBw
          rcases he with ⟨hok, rfl⟩ | ⟨hng, why, hne, rfl⟩
          rotate_left
          · have HN : Hid (¬ xP K kf m vn yn on sn gs sp ls ms vs fs l) := hide (fun hx => hng (by rw [HFN.out]; exact hx.main))
            clear hng
            unfold gaveW
            go_wp2_with fail
            exact ⟨rfl, Or.inr ⟨HN.out, why, hne, rfl⟩, hBw5⟩
          have HOK2 := hide hok
          clear hok
          go_wp2_with fail
          go_end0
          have hfn := HFN.out
          have hlm := HLM.out
          refine ⟨Or.inl ⟨⟨HCHK.out, HLIM.out, HSP.out, HLAB.out, HLM.out, fun j h => HOK.out j h (by omega), ?_⟩, rfl⟩, hBw5⟩
          rw [← hfn]
          exact HOK2.out
end Go.Proofs.Ytcbbjjenkommeaa.Ex.Ey

/- Checks of all labels of a program, whatever they are. -/
import Derived.Test.YtpbnmmgocpobcaaM20
import Derived.Test.YtpbnmmgocpobcaaM19
namespace Go.Proofs.Ytpbnmmgocpobcaa.Ex
open Go.RowKit
set_option linter.unusedVariables false

theorem own_cellsL {W : World} {B e : Nat} {v : Value} {n : Nat} {xs : List Value} (h : W.ownsRow B e 2 v n xs) (hn : 0 < n) : ∃ g cap, v = .slice (some ⟨g, 0, none⟩) n cap ∧ B ≤ g ∧ g < W.heap.size ∧ ∀ j u, xs[j]? = some u → W.cell? ((⟨g, 0, none⟩ : Addr).add j) = some u := by
  rcases h.2 with ⟨_, h0⟩ | ⟨g, cap, cur, hv, hb, hg, h1, h2, h3, h4⟩
  · omega
  · refine ⟨g, cap, hv, hb, (Array.getElem?_eq_some_iff.1 hg).1, fun j u hu => ?_⟩
    rw [Addr.add_lit, Lib.cell_of_heap hg]
    rw [← h4, List.getElem?_take] at hu
    split at hu
    · simpa using hu
    · cases hu

set_option maxHeartbeats 8000000 in
set_option maxRecDepth 100000 in
theorem labelsG_any (m : Int) (ga : Option Addr) (gn gc : Nat) (sa : Option Addr) (sn sc : Nat) (ya : Option Addr) (yn yc : Nat) (oa : Option Addr) (on oc : Nat) (va : Option Addr) (vn vc : Nat) (fa : Option Addr) (fn fc : Nat) (ba : Option Addr) (bn bc : Nat) (gs : List (Int × Int)) (ls ms : List Lab) (vs : List (Bool × Lab)) (w : World) (hg : IsGrants w (.slice ga gn gc) gs) (h1 : LabsAt w (.slice ya yn yc) ls) (h2 : LabsAt w (.slice oa on oc) ms) (h3 : VarsAt w (.slice va vn vc) vs)
    (hy : yn ≤ 5) (ho : on ≤ 5) (hyc : ya = none → yc = 0) (hoc : oa = none → oc = 0) :
    Calls Try.prog 42 #[.agg #[.int .i64 m, .slice ga gn gc, .slice sa sn sc, .slice ya yn yc, .slice oa on oc, .slice va vn vc, .slice fa fn fc, .slice ba bn bc]] w (Goes True w) := by
  have hbel : Below w.heap.size w ((w.alloc (.cells #[.int .i64 m, .slice ga gn gc, .slice sa sn sc, .slice ya yn yc, .slice oa on oc, .slice va vn vc, .slice fa fn fc, .slice ba bn bc] 75)).alloc (.cells #[.slice ya yn yc, .slice oa on oc] 26)) := ((Below.refl _ w).alloc (Nat.le_refl _) _).alloc (by simp) _
  have hrow : RowAt [.slice ya yn yc, .slice oa on oc] ((w.alloc (.cells #[.int .i64 m, .slice ga gn gc, .slice sa sn sc, .slice ya yn yc, .slice oa on oc, .slice va vn vc, .slice fa fn fc, .slice ba bn bc] 75)).alloc (.cells #[.slice ya yn yc, .slice oa on oc] 26)) (w.heap.size + 1) := by
    have r := RowAt.new [.slice ya yn yc, .slice oa on oc] 26 (w.alloc (.cells #[.int .i64 m, .slice ga gn gc, .slice sa sn sc, .slice ya yn yc, .slice oa on oc, .slice va vn vc, .slice fa fn fc, .slice ba bn bc] 75))
    have hs : (w.alloc (.cells #[.int .i64 m, .slice ga gn gc, .slice sa sn sc, .slice ya yn yc, .slice oa on oc, .slice va vn vc, .slice fa fn fc, .slice ba bn bc] 75)).heap.size = w.heap.size + 1 := by simp
    rw [hs] at r
    exact r
  have K1 := hide (concat_any (w.heap.size + 1) ya yn yc oa on oc ls ms ((w.alloc (.cells #[.int .i64 m, .slice ga gn gc, .slice sa sn sc, .slice ya yn yc, .slice oa on oc, .slice va vn vc, .slice fa fn fc, .slice ba bn bc] 75)).alloc (.cells #[.slice ya yn yc, .slice oa on oc] 26)) hrow (h1.over hbel) (h2.over hbel) hy ho hyc hoc)
  have KL := hide fun (bl : Lab) (pr pw : Value) (W : World) (hW : Below w.heap.size w W) (hr : IsPols W pr bl.r) (hw : IsPols W pw bl.w) => checkOk m (.slice ga gn gc) gs pr pw bl W (isGrants_over hg hW) hr hw
  have KP := hide pass_any
  have KM := hide must_any
  have hvl : vn ≤ 9223372036854775807 := by obtain ⟨hm, a, c, he, -⟩ := h3; injection he with e1 e2 e3; rw [e2]; exact hm
  have hlen : (ls ++ ms).length ≤ 10 := by
    obtain ⟨-, a, c, he, -⟩ := h1
    injection he with e1 e2 e3
    obtain ⟨-, a', c', he', -⟩ := h2
    injection he' with e1' e2' e3'
    simp
    omega
  have HV := hide h3
  have c0 : ((w.alloc (.cells #[.int .i64 m, .slice ga gn gc, .slice sa sn sc, .slice ya yn yc, .slice oa on oc, .slice va vn vc, .slice fa fn fc, .slice ba bn bc] 75)).alloc (.cells #[.slice ya yn yc, .slice oa on oc] 26)).cell? ⟨w.heap.size, 0, none⟩ = some (.int .i64 m) := by simp [go_sem]
  have c1 : ((w.alloc (.cells #[.int .i64 m, .slice ga gn gc, .slice sa sn sc, .slice ya yn yc, .slice oa on oc, .slice va vn vc, .slice fa fn fc, .slice ba bn bc] 75)).alloc (.cells #[.slice ya yn yc, .slice oa on oc] 26)).cell? ⟨w.heap.size, 1, none⟩ = some (.slice ga gn gc) := by simp [go_sem]
  have c3 : ((w.alloc (.cells #[.int .i64 m, .slice ga gn gc, .slice sa sn sc, .slice ya yn yc, .slice oa on oc, .slice va vn vc, .slice fa fn fc, .slice ba bn bc] 75)).alloc (.cells #[.slice ya yn yc, .slice oa on oc] 26)).cell? ⟨w.heap.size, 3, none⟩ = some (.slice ya yn yc) := by simp [go_sem]
  have c4 : ((w.alloc (.cells #[.int .i64 m, .slice ga gn gc, .slice sa sn sc, .slice ya yn yc, .slice oa on oc, .slice va vn vc, .slice fa fn fc, .slice ba bn bc] 75)).alloc (.cells #[.slice ya yn yc, .slice oa on oc] 26)).cell? ⟨w.heap.size, 4, none⟩ = some (.slice oa on oc) := by simp [go_sem]
  have c5 : ((w.alloc (.cells #[.int .i64 m, .slice ga gn gc, .slice sa sn sc, .slice ya yn yc, .slice oa on oc, .slice va vn vc, .slice fa fn fc, .slice ba bn bc] 75)).alloc (.cells #[.slice ya yn yc, .slice oa on oc] 26)).cell? ⟨w.heap.size, 5, none⟩ = some (.slice va vn vc) := by simp [go_sem]
  clear h1 h2 h3 hg hrow
  go_enter Try.func42, Try.ntmps42
  go_wp2_with fail
  refine (K1.out).mono ?_
  rintro e w1 ⟨v, xs, rfl, hown, hcl, hb1⟩
  have hB1 := hbel.trans (hb1.mono hbel.size)
  have d0 := cell_over hb1 _ _ c0
  have d1 := cell_over hb1 _ _ c1
  have d5 := cell_over hb1 _ _ c5
  obtain ⟨va', vn', vc', hvf⟩ : ∃ a n c, v = .slice a n c := by
    rcases hown.2 with ⟨h, _⟩ | ⟨g, cap, cur, h, _⟩
    · exact ⟨_, _, _, h⟩
    · exact ⟨_, _, _, h⟩
  have hnn : vn' = (ls ++ ms).length := by
    rcases hown.2 with ⟨h, h'⟩ | ⟨g, cap, cur, h, _⟩
    · rw [hvf] at h; injection h with e1 e2 e3; omega
    · rw [hvf] at h; injection h
  subst hvf
  have HO := hide hown
  have HCL := hide hcl
  have HNN := hide hnn
  have hn10 : vn' ≤ 10 := by rw [hnn]; exact hlen
  clear hown hcl hnn hb1 c0 c1 c3 c4 c5 hbel K1
  go_wp2_with fail
  go_loopw [17] (fun i wr => ∃ n : Nat, n ≤ vn' ∧ i = .int .i64 n ∧ (wr.cell? ⟨w.heap.size, 0, none⟩ = some (.int .i64 m) ∧ wr.cell? ⟨w.heap.size, 1, none⟩ = some (.slice ga gn gc) ∧ wr.cell? ⟨w.heap.size, 5, none⟩ = some (.slice va vn vc)) ∧ Below w1.heap.size w1 wr) (fun i _ => vn' - (intOf i).toNat)
  case atStart => exact ⟨0, Nat.zero_le _, rfl, ⟨d0, d1, d5⟩, Below.refl _ _⟩
  case round =>
    clear d0 d1 d5
    obtain ⟨n, hn, rfl, ⟨d0, d1, d5⟩, hB⟩ := hrel
    have hBw := hB1.trans (hB.mono hB1.size)
    by_cases hnl : n < vn'
    · have hnd : n < (ls ++ ms).length := by rw [← HNN.out]; exact hnl
      obtain ⟨pr, pw, e0, e1, hr, hw⟩ := HCL.out.at n hnd
      obtain ⟨g, cap, hgf, hgb, hgl, hgc⟩ := own_cellsL HO.out (by omega)
      have a0 := cell_over hB _ _ (hgc _ _ e0)
      have a1 := cell_over hB _ _ (hgc _ _ e1)
      rw [Addr.add_lit, Nat.zero_add] at a0 a1
      injection hgf with f1 f2 f3
      subst f1
      obtain ⟨ra, rn, rc, hrf⟩ := pols_form hr
      obtain ⟨wa, wn, wc, hwf⟩ := pols_form hw
      subst hrf hwf
      have hba := (Below.refl _ wr).alloc (Nat.le_refl _) (.cells #[.slice ra rn rc, .slice wa wn wc] 67)
      have hBa := hBw.trans (hba.mono hBw.size)
      have hB1a := over_trans hB hba
      have K2 := hide (KL.out (ls ++ ms)[n] _ _ _ hBa (isPols_over hr hB1a) (isPols_over hw hB1a))
      have f0 := cell_over hba _ _ d0
      have f1 := cell_over hba _ _ d1
      have f5 := cell_over hba _ _ d5
      obtain ⟨cr, hcr⟩ : ∃ q, q = lChk m gs (ls ++ ms)[n] := ⟨_, rfl⟩
      rw [← hcr] at K2
      clear hgc hr hw e0 e1 hcr f2 f3
      go_wp2_with fail
      refine (K2.out).mono ?_
      rintro e w2 ⟨rfl, hb2⟩
      have hB2 := over_trans hB1a hb2
      have hBw2 := hB1.trans (hB2.mono hB1.size)
      have r0 := cell_over hb2 _ _ f0
      have r1 := cell_over hb2 _ _ f1
      have r5 := cell_over hb2 _ _ f5
      clear K2 hb2 hBa hB1a hba hB hBw a0 a1 d0 d1 d5 f0 f1 f5
      go_wp2_with fail
      refine (KP.out _ _).mono ?_
      rintro e wz ⟨he, rfl⟩
      rcases he with ⟨hz, rfl⟩ | ⟨hz, rfl⟩
      rotate_left
      · have hz2 : cr ≠ 0 := by simpa using hz
        unfold gaveW
        go_wp2_with fail
        exact ⟨rfl, Or.inr ⟨cr, hz2, rfl⟩, hBw2⟩
      clear hz
      go_wp2_with fail
      exact ⟨⟨n + 1, by omega, by go_num, ⟨r0, r1, r5⟩, hB2⟩, by simp [intOf]; omega⟩
    · obtain ⟨w2, hw2⟩ : ∃ q, q = wr := ⟨_, rfl⟩
      rw [← hw2] at d0 d1 d5 hBw ⊢
      clear hw2 hB HO HCL
      go_wp2_with fail
      go_loopw [32] (fun i wr => ∃ n : Nat, n ≤ vn ∧ i = .int .i64 n ∧ (wr.cell? ⟨w.heap.size, 0, none⟩ = some (.int .i64 m) ∧ wr.cell? ⟨w.heap.size, 1, none⟩ = some (.slice ga gn gc) ∧ wr.cell? ⟨w.heap.size, 5, none⟩ = some (.slice va vn vc)) ∧ Below w2.heap.size w2 wr) (fun i _ => vn - (intOf i).toNat)
      case atStart => exact ⟨0, Nat.zero_le _, rfl, ⟨d0, d1, d5⟩, Below.refl _ _⟩
      case round =>
        clear d0 d1 d5 hnl hn
        obtain ⟨n, hn, rfl, ⟨d0, d1, d5⟩, hB⟩ := hrel
        have hBw3 := hBw.trans (hB.mono hBw.size)
        by_cases hnl : n < vn
        · obtain ⟨-, ao, cap, he, hel⟩ := HV.out.over hBw3
          injection he with e1 e2 e3
          have hne : vs ≠ [] := by intro h; rw [h] at e2; simp at e2; omega
          obtain ⟨b, off, hbo, hel2⟩ := hel hne
          have hnv : n < vs.length := by omega
          obtain ⟨pr, pw, a0, a1, a2, hr, hw⟩ := hel2 n hnv
          have e1' := e1.trans hbo
          subst e1'
          obtain ⟨kn, hkn⟩ : ∃ q, q = vs[n].1 := ⟨_, rfl⟩
          obtain ⟨lb, hlb⟩ : ∃ q, q = vs[n].2 := ⟨_, rfl⟩
          rw [← hkn] at a0
          rw [← hlb] at hr hw
          obtain ⟨ra, rn, rc, hrf⟩ := pols_form hr
          obtain ⟨wa, wn, wc, hwf⟩ := pols_form hw
          subst hrf hwf
          clear hkn hlb hel hel2 e1 e2 e3 hbo
          have hba := (Below.refl _ wr).alloc (Nat.le_refl _) (.cells #[.bool kn, .slice ra rn rc, .slice wa wn wc] 69)
          have hBa := hBw3.trans (hba.mono hBw3.size)
          have hB1a := over_trans hB hba
          have K2 := hide (KL.out lb _ _ _ hBa (isPols_over hr hba) (isPols_over hw hba))
          have f0 := cell_over hba _ _ d0
          have f1 := cell_over hba _ _ d1
          have f5 := cell_over hba _ _ d5
          obtain ⟨cr, hcr⟩ : ∃ q, q = lChk m gs lb := ⟨_, rfl⟩
          rw [← hcr] at K2
          clear hr hw hcr
          go_wp2_with fail
          refine (K2.out).mono ?_
          rintro e w3 ⟨rfl, hb2⟩
          have hB2 := over_trans hB1a hb2
          have hBw2 := hBw.trans (hB2.mono hBw.size)
          have r0 := cell_over hb2 _ _ f0
          have r1 := cell_over hb2 _ _ f1
          have r5 := cell_over hb2 _ _ f5
          clear K2 hb2 hBa hB1a hba hB hBw3 a0 a1 a2 d0 d1 d5 f0 f1 f5
          go_wp2_with fail
          refine (KP.out _ _).mono ?_
          rintro e wz ⟨he, rfl⟩
          rcases he with ⟨hz, rfl⟩ | ⟨hz, rfl⟩
          rotate_left
          · have hz2 : cr ≠ 0 := by simpa using hz
            unfold gaveW
            go_wp2_with fail
            exact ⟨rfl, Or.inr ⟨cr, hz2, rfl⟩, hBw2⟩
          clear hz
          go_wp2_with fail
          exact ⟨⟨n + 1, by omega, by go_num, ⟨r0, r1, r5⟩, hB2⟩, by simp [intOf]; omega⟩
        · obtain ⟨w3, hw3⟩ : ∃ q, q = wr := ⟨_, rfl⟩
          rw [← hw3] at d0 d1 d5 hBw3 ⊢
          clear hw3 hB hBw
          go_wp2_with fail
          go_loopw [48] (fun i wr => ∃ n : Nat, n ≤ vn ∧ i = .int .i64 n ∧ (wr.cell? ⟨w.heap.size, 0, none⟩ = some (.int .i64 m) ∧ wr.cell? ⟨w.heap.size, 1, none⟩ = some (.slice ga gn gc) ∧ wr.cell? ⟨w.heap.size, 5, none⟩ = some (.slice va vn vc)) ∧ Below w3.heap.size w3 wr) (fun i _ => vn - (intOf i).toNat)
          case atStart => exact ⟨0, Nat.zero_le _, rfl, ⟨d0, d1, d5⟩, Below.refl _ _⟩
          case round =>
            clear d0 d1 d5 hnl hn
            obtain ⟨n, hn, rfl, ⟨d0, d1, d5⟩, hB⟩ := hrel
            have hBw := hBw3.trans (hB.mono hBw3.size)
            by_cases hnl : n < vn
            · obtain ⟨-, ao, cap, he, hel⟩ := HV.out.over hBw
              injection he with e1 e2 e3
              have hne : vs ≠ [] := by intro h; rw [h] at e2; simp at e2; omega
              obtain ⟨b, off, hbo, hel2⟩ := hel hne
              have hnv : n < vs.length := by omega
              obtain ⟨pr, pw, a0, a1, a2, hr, hw⟩ := hel2 n hnv
              have e1' := e1.trans hbo
              subst e1'
              obtain ⟨kn, hkn⟩ : ∃ q, q = vs[n].1 := ⟨_, rfl⟩
              rw [← hkn] at a0
              obtain ⟨ra, rn, rc, hrf⟩ := pols_form hr
              obtain ⟨wa, wn, wc, hwf⟩ := pols_form hw
              subst hrf hwf
              clear hkn hel hel2 e1 e2 e3 hbo hr hw
              have HA : Hid (∀ ob : Obj, ((wr.alloc ob).cell? ⟨w.heap.size, 0, none⟩ = some (.int .i64 m) ∧ (wr.alloc ob).cell? ⟨w.heap.size, 1, none⟩ = some (.slice ga gn gc) ∧ (wr.alloc ob).cell? ⟨w.heap.size, 5, none⟩ = some (.slice (some ⟨b, off, none⟩) vn vc)) ∧ Below w3.heap.size w3 (wr.alloc ob) ∧ Below w.heap.size w (wr.alloc ob)) := fun ob => by
                have hba := (Below.refl _ wr).alloc (Nat.le_refl _) ob
                exact ⟨⟨cell_over hba _ _ d0, cell_over hba _ _ d1, cell_over hba _ _ d5⟩, over_trans hB hba, hBw.trans (hba.mono hBw.size)⟩
              clear KL KP d0 d1 d5 hB
              cases kn
              all_goals go_wp2_with fail
              all_goals
                refine (KM.out _ _ _).mono ?_
                rintro e wz ⟨he, rfl⟩
                rcases he with ⟨hz, rfl⟩ | ⟨hz, rfl⟩
                · clear hz
                  go_wp2_with fail
                  exact ⟨⟨n + 1, by omega, by go_num, (HA.out _).1, (HA.out _).2.1⟩, by simp [intOf]; omega⟩
                · clear hz
                  unfold gaveW
                  go_wp2_with fail
                  exact ⟨rfl, Or.inr ⟨1, by decide, rfl⟩, (HA.out _).2.2⟩
            · go_wp2_with fail
              go_end0
              exact ⟨Or.inl ⟨trivial, rfl⟩, hBw⟩
end Go.Proofs.Ytpbnmmgocpobcaa.Ex

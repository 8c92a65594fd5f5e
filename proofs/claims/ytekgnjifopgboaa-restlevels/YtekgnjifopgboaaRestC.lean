/- veilworklaw.RestLevels answers true, whatever it is handed: the walk. -/
import Derived.Test.YtekgnjifopgboaaRestA
namespace Go.Proofs.Ytekgnjifopgboaa
open Go.RowKit
set_option linter.unusedVariables false
attribute [local go_sem ↓] Go.wp_at_zero Go.wp_at_succ

set_option maxRecDepth 100000 in
set_option maxHeartbeats 16000000 in
theorem rest_ok (m : Int) (v : Value) (gs : List (Int × Int)) (vl vk : Value) (l k : Lev) (pr pw : Value) (bl : Lab) (w : World) (hv : IsGrants w v gs) (hl : LevAt w vl l) (hk : LevAt w vk k) (hp : IsPols w pr bl.r) (hq : IsPols w pw bl.w) (hz1 : l.r.length ≤ 140737488351232 ∧ l.w.length ≤ 140737488351232) (hz2 : k.r.length ≤ 140737488351232 ∧ k.w.length ≤ 140737488351232) (hh1 : ∀ x y, vl = .agg #[x, y] → Shape x ∧ Shape y) (hh2 : ∀ x y, vk = .agg #[x, y] → Shape x ∧ Shape y) (hE : chkErr m gs = 0) (hL : labErr m bl = 0) :
    Calls Try.prog 7 #[.agg #[.int .i64 m, v], vl, vk, .agg #[pr, pw]] w fun e w' => e = .returned (.bool true) ∧ Below w.heap.size w w' := by
  have hKL := fun (W : World) (hW : Below w.heap.size w W) => levelOk m v gs pr pw bl W (isGrants_over hv hW) (isPols_over hp hW) (isPols_over hq hW)
  have hKR := fun (W : World) (hW : Below w.heap.size w W) => refCheck_any m v gs W (isGrants_over hv hW)
  have hKJ := fun (vx vy : Value) (W : World) (hW : Below w.heap.size w W) (hx : LevAt W vx l) (hy : LevAt W vy k) => joinOk m v gs vx vy l k W (isGrants_over hv hW) hx hy
  have hKM := fun (vx vy : Value) (W : World) (hW : Below w.heap.size w W) (hx : LevAt W vx l) (hy : LevAt W vy k) => meetOk m v gs vx vy l k W (isGrants_over hv hW) hx hy
  have hSl : l.small := by unfold Lev.small; omega
  have hSk : k.small := by unfold Lev.small; omega
  have hKA := fun (vx : Value) (W : World) (hW : Below w.heap.size w W) (hx : LevAt W vx l) => sameLevel_any vx vl l l W hx (levAt_over hl hW) hSl
  have hKB := fun (vx : Value) (W : World) (hW : Below w.heap.size w W) (hx : LevAt W vx k) => sameLevel_any vx vk k k W hx (levAt_over hk hW) hSk
  rw [sameLev_self] at hKA hKB
  have hO1 := fun (W : World) (hW : Below w.heap.size w W) => own_any vl l W (levAt_over hl hW) hz1 hh1
  have hO2 := fun (W : World) (hW : Below w.heap.size w W) => own_any vk k W (levAt_over hk hW) hz2 hh2
  obtain ⟨⟨hj1, hj2⟩, hm1, hm2⟩ := lev_six (m := m) (gs := gs) (l := l) (k := k)
  obtain ⟨LJ, hLJ⟩ : ∃ L, L = (if lTwo m gs l k = 0 then joinL l k m.toNat else noLev) := ⟨_, rfl⟩
  obtain ⟨LM, hLM⟩ : ∃ L, L = (if lTwo m gs l k = 0 then meetL l k m.toNat else noLev) := ⟨_, rfl⟩
  obtain ⟨rj, hrj⟩ : ∃ r, r = lTwo m gs l k := ⟨_, rfl⟩
  rw [← hLJ] at hj1 hj2
  rw [← hLM] at hm1 hm2
  simp only [← hLJ] at hKJ
  simp only [← hLM] at hKM
  simp only [← hrj] at hKJ hKM
  clear hLJ hLM hrj
  have hX : lChk m gs bl = 0 := by unfold lChk; rw [if_pos hE]; exact hL
  have hm : 1 ≤ m ∧ m ≤ 6 := by obtain ⟨n, hm, h1, h2, _⟩ := chk_ok hE; omega
  have hKK := fun (W : World) (hW : Below w.heap.size w W) => checkLabel_any m hm v pr pw bl W (isPols_over hp hW) (isPols_over hq hW)
  rw [hX, if_pos rfl] at hKL
  rw [hE] at hKR
  rw [hL] at hKK
  obtain ⟨n, rfl, h1, h6, hgs, hlen, hgb, hin, _⟩ := lChk_ok hX
  simp only [Int.toNat_natCast] at hKL
  have hKO := fun (W : World) (hW : Below w.heap.size w W) => levelOf_any n h1 h6 v pr pw (gnOf gs) bl W (by rw [hgs]; exact isGrants_over hv hW) hlen hgb (isPols_over hp hW) (isPols_over hq hW) hin
  have HFIN := hide (levelIs_self (levOf (gnOf gs) n bl) (levOf (gnOf gs) n bl) 0 (by simp))
  have HLN := hide (levOf_len (gnOf gs) n bl)
  have HSM : Hid ((levOf (gnOf gs) n bl).r.length ≤ 6 ∧ (levOf (gnOf gs) n bl).w.length ≤ 6) := by
    show _ ∧ _
    rw [HLN.out.1, HLN.out.2]
    exact ⟨h6, h6⟩
  have KK := hide hKK
  have KO := hide hKO
  clear hX hKK hE hL hKO hgs hlen hgb hin hm
  have KI := hide fun (vx vy : Value) (W : World) (hx : LevAt W vx (levOf (gnOf gs) n bl)) (hy : LevAt W vy (levOf (gnOf gs) n bl)) => levelIs_any vx vy (levOf (gnOf gs) n bl) (levOf (gnOf gs) n bl) 0 0 W hx hy (small_six HSM.out)
  have KL := hide hKL
  have KR := hide hKR
  have KJ := hide hKJ
  have KM := hide hKM
  have KA := hide hKA
  have KB := hide hKB
  have KO1 := hide hO1
  have KO2 := hide hO2
  obtain ⟨a1, k1, a2, k2, rfl⟩ := lev_form hl
  obtain ⟨a3, k3, a4, k4, rfl⟩ := lev_form hk
  obtain ⟨va, vn, vc, rfl⟩ := grants_form hv
  obtain ⟨pa, pn, pc, rfl⟩ := pols_form hp
  obtain ⟨qa, qn, qc, rfl⟩ := pols_form hq
  have hs0 : Hid (((((w.alloc (.cells #[.int .i64 n, .slice va vn vc] 24)).alloc (.cells #[.slice a1 l.r.length k1, .slice a2 l.w.length k2] 30)).alloc (.cells #[.slice a3 k.r.length k3, .slice a4 k.w.length k4] 30)).alloc (.cells #[.slice pa pn pc, .slice qa qn qc] 27)).cell? ⟨w.heap.size, 0, none⟩ = some (.int .i64 n) ∧ ((((w.alloc (.cells #[.int .i64 n, .slice va vn vc] 24)).alloc (.cells #[.slice a1 l.r.length k1, .slice a2 l.w.length k2] 30)).alloc (.cells #[.slice a3 k.r.length k3, .slice a4 k.w.length k4] 30)).alloc (.cells #[.slice pa pn pc, .slice qa qn qc] 27)).cell? ⟨w.heap.size, 1, none⟩ = some (.slice va vn vc) ∧ ((((w.alloc (.cells #[.int .i64 n, .slice va vn vc] 24)).alloc (.cells #[.slice a1 l.r.length k1, .slice a2 l.w.length k2] 30)).alloc (.cells #[.slice a3 k.r.length k3, .slice a4 k.w.length k4] 30)).alloc (.cells #[.slice pa pn pc, .slice qa qn qc] 27)).cell? ⟨w.heap.size + 1, 0, none⟩ = some (.slice a1 l.r.length k1) ∧ ((((w.alloc (.cells #[.int .i64 n, .slice va vn vc] 24)).alloc (.cells #[.slice a1 l.r.length k1, .slice a2 l.w.length k2] 30)).alloc (.cells #[.slice a3 k.r.length k3, .slice a4 k.w.length k4] 30)).alloc (.cells #[.slice pa pn pc, .slice qa qn qc] 27)).cell? ⟨w.heap.size + 1, 1, none⟩ = some (.slice a2 l.w.length k2) ∧ ((((w.alloc (.cells #[.int .i64 n, .slice va vn vc] 24)).alloc (.cells #[.slice a1 l.r.length k1, .slice a2 l.w.length k2] 30)).alloc (.cells #[.slice a3 k.r.length k3, .slice a4 k.w.length k4] 30)).alloc (.cells #[.slice pa pn pc, .slice qa qn qc] 27)).cell? ⟨w.heap.size + 1 + 1, 0, none⟩ = some (.slice a3 k.r.length k3) ∧ ((((w.alloc (.cells #[.int .i64 n, .slice va vn vc] 24)).alloc (.cells #[.slice a1 l.r.length k1, .slice a2 l.w.length k2] 30)).alloc (.cells #[.slice a3 k.r.length k3, .slice a4 k.w.length k4] 30)).alloc (.cells #[.slice pa pn pc, .slice qa qn qc] 27)).cell? ⟨w.heap.size + 1 + 1, 1, none⟩ = some (.slice a4 k.w.length k4) ∧ ((((w.alloc (.cells #[.int .i64 n, .slice va vn vc] 24)).alloc (.cells #[.slice a1 l.r.length k1, .slice a2 l.w.length k2] 30)).alloc (.cells #[.slice a3 k.r.length k3, .slice a4 k.w.length k4] 30)).alloc (.cells #[.slice pa pn pc, .slice qa qn qc] 27)).cell? ⟨w.heap.size + 1 + 1 + 1, 0, none⟩ = some (.slice pa pn pc) ∧ ((((w.alloc (.cells #[.int .i64 n, .slice va vn vc] 24)).alloc (.cells #[.slice a1 l.r.length k1, .slice a2 l.w.length k2] 30)).alloc (.cells #[.slice a3 k.r.length k3, .slice a4 k.w.length k4] 30)).alloc (.cells #[.slice pa pn pc, .slice qa qn qc] 27)).cell? ⟨w.heap.size + 1 + 1 + 1, 1, none⟩ = some (.slice qa qn qc) ∧ Below w.heap.size w ((((w.alloc (.cells #[.int .i64 n, .slice va vn vc] 24)).alloc (.cells #[.slice a1 l.r.length k1, .slice a2 l.w.length k2] 30)).alloc (.cells #[.slice a3 k.r.length k3, .slice a4 k.w.length k4] 30)).alloc (.cells #[.slice pa pn pc, .slice qa qn qc] 27))) := ⟨by simp [go_sem], by simp [go_sem], by simp [go_sem], by simp [go_sem], by simp [go_sem], by simp [go_sem], by simp [go_sem], by simp [go_sem], ((((Below.refl _ w).alloc (Nat.le_refl _) _).alloc (by simp) _).alloc (by simp; omega) _).alloc (by simp; omega) _⟩
  clear hKL hKR hKJ hKM hKA hKB hO1 hO2 hv hl hk hp hq hh1 hh2 hz1 hz2 hSl hSk
  go_enter Try.func7, Try.ntmps7
  go_wp2_with fail
  refine (begun_any _).mono ?_
  rintro e w1 ⟨rfl, hb1⟩
  have hs1 := hide (held8 hs0.out hb1)
  clear hs0 
  clear hb1
  obtain ⟨c0, c1, c2, c3, c4, c5, c6, c7, hB⟩ := hs1.out
  have HB1 := hide hB
  have L1 := hide (World.block_lt_of_cell? w1 _ c2)
  have L2 := hide (World.block_lt_of_cell? w1 _ c4)
  go_wp2_with fail
  go_cut [10, 11] from 23 to 28 (fun s10 s11 wc => RelR w1 l k s10 s11 wc)
  case first =>
    refine wp_region_noPanic ?_
    refine wp_region_held_drew (S := fun W => W.cell? ⟨w.heap.size + 1, 0, none⟩ = some (.slice a1 l.r.length k1) ∧ W.cell? ⟨w.heap.size + 1, 1, none⟩ = some (.slice a2 l.w.length k2) ∧ W.cell? ⟨w.heap.size + 1 + 1, 0, none⟩ = some (.slice a3 k.r.length k3) ∧ W.cell? ⟨w.heap.size + 1 + 1, 1, none⟩ = some (.slice a4 k.w.length k4) ∧ Below w1.heap.size w1 W) (by kernel_rfl) ⟨c2, c3, c4, c5, below_drewN (Below.refl _ _) 1⟩ (fun hHeld => ?_)
    clear c0 c1 c2 c3 c4 c5 c6 c7 hB hs1 KI KL KR KJ KM KA KB
    refine wpAnyH_take (i := 0) (v := ?_) rfl (by kernel_rfl) (by kernel_rfl) (by kernel_rfl) (fun _ _ _ h => h) (Or.inl ⟨by rfl, fun w hSw => ?_⟩) hHeld ?_
    rotate_left
    · obtain ⟨t0, t1, t2, t3, -⟩ := hSw; go_simp; first | done | with_reducible rfl
    simp only [List.getElem_toArray, List.getElem_cons_zero, Act.put, List.setIfInBounds_toArray, List.set_cons_zero, List.set_cons_succ]
    refine wpAnyH_take (i := 1) (v := ?_) rfl (by kernel_rfl) (by kernel_rfl) (by kernel_rfl) (fun _ _ _ h => h) (Or.inl ⟨by rfl, fun w hSw => ?_⟩) hHeld ?_
    rotate_left
    · obtain ⟨t0, t1, t2, t3, -⟩ := hSw; go_simp; first | done | with_reducible rfl
    simp only [List.getElem_toArray, List.getElem_cons_succ, List.getElem_cons_zero, Act.put, List.setIfInBounds_toArray, List.set_cons_zero, List.set_cons_succ]
    refine wpAnyH_take (i := 3) (v := ?_) rfl (by kernel_rfl) (by kernel_rfl) (by kernel_rfl) (fun _ _ _ h => h) (Or.inl ⟨by rfl, fun w hSw => ?_⟩) hHeld ?_
    rotate_left
    · obtain ⟨t0, t1, t2, t3, -⟩ := hSw; go_simp; first | done | with_reducible rfl
    simp only [List.getElem_toArray, List.getElem_cons_succ, List.getElem_cons_zero, Act.put, List.setIfInBounds_toArray, List.set_cons_zero, List.set_cons_succ]
    refine wpAnyH_take (i := 4) (v := ?_) rfl (by kernel_rfl) (by kernel_rfl) (by kernel_rfl) (fun _ _ _ h => h) (Or.inl ⟨by rfl, fun w hSw => ?_⟩) hHeld ?_
    rotate_left
    · obtain ⟨t0, t1, t2, t3, -⟩ := hSw; go_simp; first | done | with_reducible rfl
    simp only [List.getElem_toArray, List.getElem_cons_succ, List.getElem_cons_zero, Act.put, List.setIfInBounds_toArray, List.set_cons_zero, List.set_cons_succ]
    generalize w1.drew = W0 at hHeld ⊢
    have HZ : w1.heap.size ≤ W0.heap.size := hHeld.2.2.2.2.size
    refine wpAnyH_ready (rs := [2, 6, 7]) (by kernel_rfl) (by simp) ?_
    refine AllReadyH.cons rfl (fun K hK => ?_) (AllReadyH.cons rfl (fun K hK => ?_) (AllReadyH.cons rfl (fun K hK => ?_) AllReadyH.nil))
    · go_simp
      go_at_call 26
      refine (KO1.out _ (HB1.out.trans (hHeld.2.2.2.2.mono HB1.out.size))).mono ?_
      rintro e W1 ⟨vX, rfl, FX, hb⟩
      have HZ : w1.heap.size ≤ W1.heap.size := Nat.le_trans HZ hb.size
      refine hK.out _ _ (held4 hHeld hb) (fun hHeld => ?_)
      clear hK K
      obtain ⟨ax, cx, gx, dx, rfl⟩ := lev_form (levFresh_at FX)
      clear hb
      try simp only [List.getElem_toArray, List.getElem_cons_succ, List.getElem_cons_zero, Act.put, List.setIfInBounds_toArray, List.set_cons_zero, List.set_cons_succ]
      refine wpAnyH_ready (rs := [5, 6, 7]) (by kernel_rfl) (by simp) ?_
      refine AllReadyH.cons rfl (fun K hK => ?_) (AllReadyH.cons rfl (fun K hK => ?_) (AllReadyH.cons rfl (fun K hK => ?_) AllReadyH.nil))
      · go_simp
        go_at_call 26
        refine (KO2.out _ (HB1.out.trans (hHeld.2.2.2.2.mono HB1.out.size))).mono ?_
        rintro e W2 ⟨vY, rfl, FY, hb⟩
        have HZ : w1.heap.size ≤ W2.heap.size := Nat.le_trans HZ hb.size
        refine hK.out _ _ (held4 hHeld hb) (fun hHeld => ?_)
        clear hK K
        have FX := fresh_over FX hb
        obtain ⟨ay, cy, gy, dy, rfl⟩ := lev_form (levFresh_at FY)
        clear hb
        try simp only [List.getElem_toArray, List.getElem_cons_succ, List.getElem_cons_zero, Act.put, List.setIfInBounds_toArray, List.set_cons_zero, List.set_cons_succ]
        refine wpAnyH_ready (rs := [6, 7]) (by kernel_rfl) (by simp) ?_
        refine AllReadyH.cons rfl (fun K hK => ?_) (AllReadyH.cons rfl (fun K hK => ?_) AllReadyH.nil)
        · go_simp
          have hal := (Below.refl _ W2).alloc (Nat.le_refl _) (.cells #[.slice none 0 0, .slice none 0 0] 30)
          refine hK.out _ _ (held4 hHeld hal) (fun hHeld => ?_)
          clear hK K
          have HBP : w1.heap.size ≤ W2.heap.size := HZ
          have FX := fresh_over FX hal
          have FY := fresh_over FY hal
          have FP := heap_of_alloc W2 (.cells #[.slice none 0 0, .slice none 0 0] 30)
          obtain ⟨W3, hV⟩ : ∃ V, V = W2.alloc (.cells #[.slice none 0 0, .slice none 0 0] 30) := ⟨_, rfl⟩
          rw [← hV] at hHeld FX FY FP ⊢
          clear hV hal
          have HZ : w1.heap.size ≤ W3.heap.size := hHeld.2.2.2.2.size
          refine wpAnyH_ready (rs := [7]) (by kernel_rfl) (by simp) ?_
          refine AllReadyH.cons rfl (fun K hK => ?_) AllReadyH.nil
          go_simp
          have hal := (Below.refl _ W3).alloc (Nat.le_refl _) (.cells #[.slice none 0 0, .slice none 0 0] 30)
          refine hK.out _ _ (held4 hHeld hal) (fun hHeld => ?_)
          clear hK K
          have HBQ : w1.heap.size ≤ W3.heap.size := HZ
          have PQ : W3.heap.size ≠ W2.heap.size := Nat.ne_of_gt (Array.getElem?_eq_some_iff.1 FP).1
          have FX := fresh_over FX hal
          have FY := fresh_over FY hal
          have FP := box_over FP hal
          have FQ := heap_of_alloc W3 (.cells #[.slice none 0 0, .slice none 0 0] 30)
          obtain ⟨W4, hV⟩ : ∃ V, V = W3.alloc (.cells #[.slice none 0 0, .slice none 0 0] 30) := ⟨_, rfl⟩
          rw [← hV] at hHeld FX FY FP FQ ⊢
          clear hV hal
          have HZ : w1.heap.size ≤ W4.heap.size := hHeld.2.2.2.2.size
          obtain ⟨z0, z1, z2, z3⟩ := cells_of_pair FP
          obtain ⟨y0, y1, y2, y3⟩ := cells_of_pair FQ
          have hst := two_stored PQ FX FY FP FQ
          have HST := hide hst
          clear hst
          refine wpAnyH_ready (rs := [8]) (by kernel_rfl) (by simp) ?_
          refine AllReadyH.cons rfl (fun K hK => ?_) AllReadyH.nil
          go_simp
          refine hK.out _ _ (held_set (held_set hHeld L1.out L2.out HBP) L1.out L2.out HBP) (fun hHeld => ?_)
          clear hK K
          refine wpAnyH_ready (rs := [9]) (by kernel_rfl) (by simp) ?_
          refine AllReadyH.cons rfl (fun K hK => ?_) AllReadyH.nil
          go_simp
          refine hK.out _ _ (held_set (held_set hHeld L1.out L2.out HBQ) L1.out L2.out HBQ) (fun hHeld => ?_)
          clear hK K
          refine wpAnyH_done (by kernel_rfl) ?_ _
          refine NoPanic.normal ?_
          go_wp2_with fail
          go_meet
          exact ⟨_, _, _, _, _, _, rfl, rfl, HST.out.1, HST.out.2, hHeld.2.2.2.2⟩
        · go_simp
          have hal := (Below.refl _ W2).alloc (Nat.le_refl _) (.cells #[.slice none 0 0, .slice none 0 0] 30)
          refine hK.out _ _ (held4 hHeld hal) (fun hHeld => ?_)
          clear hK K
          have HBQ : w1.heap.size ≤ W2.heap.size := HZ
          have FX := fresh_over FX hal
          have FY := fresh_over FY hal
          have FQ := heap_of_alloc W2 (.cells #[.slice none 0 0, .slice none 0 0] 30)
          obtain ⟨W3, hV⟩ : ∃ V, V = W2.alloc (.cells #[.slice none 0 0, .slice none 0 0] 30) := ⟨_, rfl⟩
          rw [← hV] at hHeld FX FY FQ ⊢
          clear hV hal
          have HZ : w1.heap.size ≤ W3.heap.size := hHeld.2.2.2.2.size
          refine wpAnyH_ready (rs := [6]) (by kernel_rfl) (by simp) ?_
          refine AllReadyH.cons rfl (fun K hK => ?_) AllReadyH.nil
          go_simp
          have hal := (Below.refl _ W3).alloc (Nat.le_refl _) (.cells #[.slice none 0 0, .slice none 0 0] 30)
          refine hK.out _ _ (held4 hHeld hal) (fun hHeld => ?_)
          clear hK K
          have HBP : w1.heap.size ≤ W3.heap.size := HZ
          have PQ : W2.heap.size ≠ W3.heap.size := Nat.ne_of_lt (Array.getElem?_eq_some_iff.1 FQ).1
          have FX := fresh_over FX hal
          have FY := fresh_over FY hal
          have FQ := box_over FQ hal
          have FP := heap_of_alloc W3 (.cells #[.slice none 0 0, .slice none 0 0] 30)
          obtain ⟨W4, hV⟩ : ∃ V, V = W3.alloc (.cells #[.slice none 0 0, .slice none 0 0] 30) := ⟨_, rfl⟩
          rw [← hV] at hHeld FX FY FQ FP ⊢
          clear hV hal
          have HZ : w1.heap.size ≤ W4.heap.size := hHeld.2.2.2.2.size
          obtain ⟨z0, z1, z2, z3⟩ := cells_of_pair FP
          obtain ⟨y0, y1, y2, y3⟩ := cells_of_pair FQ
          have hst := two_stored PQ FX FY FP FQ
          have HST := hide hst
          clear hst
          refine wpAnyH_ready (rs := [8]) (by kernel_rfl) (by simp) ?_
          refine AllReadyH.cons rfl (fun K hK => ?_) AllReadyH.nil
          go_simp
          refine hK.out _ _ (held_set (held_set hHeld L1.out L2.out HBP) L1.out L2.out HBP) (fun hHeld => ?_)
          clear hK K
          refine wpAnyH_ready (rs := [9]) (by kernel_rfl) (by simp) ?_
          refine AllReadyH.cons rfl (fun K hK => ?_) AllReadyH.nil
          go_simp
          refine hK.out _ _ (held_set (held_set hHeld L1.out L2.out HBQ) L1.out L2.out HBQ) (fun hHeld => ?_)
          clear hK K
          refine wpAnyH_done (by kernel_rfl) ?_ _
          refine NoPanic.normal ?_
          go_wp2_with fail
          go_meet
          exact ⟨_, _, _, _, _, _, rfl, rfl, HST.out.1, HST.out.2, hHeld.2.2.2.2⟩
      · go_simp
        have hal := (Below.refl _ W1).alloc (Nat.le_refl _) (.cells #[.slice none 0 0, .slice none 0 0] 30)
        refine hK.out _ _ (held4 hHeld hal) (fun hHeld => ?_)
        clear hK K
        have HBP : w1.heap.size ≤ W1.heap.size := HZ
        have FX := fresh_over FX hal
        have FP := heap_of_alloc W1 (.cells #[.slice none 0 0, .slice none 0 0] 30)
        obtain ⟨W2, hV⟩ : ∃ V, V = W1.alloc (.cells #[.slice none 0 0, .slice none 0 0] 30) := ⟨_, rfl⟩
        rw [← hV] at hHeld FX FP ⊢
        clear hV hal
        have HZ : w1.heap.size ≤ W2.heap.size := hHeld.2.2.2.2.size
        refine wpAnyH_ready (rs := [5, 7]) (by kernel_rfl) (by simp) ?_
        refine AllReadyH.cons rfl (fun K hK => ?_) (AllReadyH.cons rfl (fun K hK => ?_) AllReadyH.nil)
        · go_simp
          go_at_call 26
          refine (KO2.out _ (HB1.out.trans (hHeld.2.2.2.2.mono HB1.out.size))).mono ?_
          rintro e W3 ⟨vY, rfl, FY, hb⟩
          have HZ : w1.heap.size ≤ W3.heap.size := Nat.le_trans HZ hb.size
          refine hK.out _ _ (held4 hHeld hb) (fun hHeld => ?_)
          clear hK K
          have FX := fresh_over FX hb
          have FP := box_over FP hb
          obtain ⟨ay, cy, gy, dy, rfl⟩ := lev_form (levFresh_at FY)
          clear hb
          try simp only [List.getElem_toArray, List.getElem_cons_succ, List.getElem_cons_zero, Act.put, List.setIfInBounds_toArray, List.set_cons_zero, List.set_cons_succ]
          refine wpAnyH_ready (rs := [7]) (by kernel_rfl) (by simp) ?_
          refine AllReadyH.cons rfl (fun K hK => ?_) AllReadyH.nil
          go_simp
          have hal := (Below.refl _ W3).alloc (Nat.le_refl _) (.cells #[.slice none 0 0, .slice none 0 0] 30)
          refine hK.out _ _ (held4 hHeld hal) (fun hHeld => ?_)
          clear hK K
          have HBQ : w1.heap.size ≤ W3.heap.size := HZ
          have PQ : W3.heap.size ≠ W1.heap.size := Nat.ne_of_gt (Array.getElem?_eq_some_iff.1 FP).1
          have FX := fresh_over FX hal
          have FY := fresh_over FY hal
          have FP := box_over FP hal
          have FQ := heap_of_alloc W3 (.cells #[.slice none 0 0, .slice none 0 0] 30)
          obtain ⟨W4, hV⟩ : ∃ V, V = W3.alloc (.cells #[.slice none 0 0, .slice none 0 0] 30) := ⟨_, rfl⟩
          rw [← hV] at hHeld FX FY FP FQ ⊢
          clear hV hal
          have HZ : w1.heap.size ≤ W4.heap.size := hHeld.2.2.2.2.size
          obtain ⟨z0, z1, z2, z3⟩ := cells_of_pair FP
          obtain ⟨y0, y1, y2, y3⟩ := cells_of_pair FQ
          have hst := two_stored PQ FX FY FP FQ
          have HST := hide hst
          clear hst
          refine wpAnyH_ready (rs := [8]) (by kernel_rfl) (by simp) ?_
          refine AllReadyH.cons rfl (fun K hK => ?_) AllReadyH.nil
          go_simp
          refine hK.out _ _ (held_set (held_set hHeld L1.out L2.out HBP) L1.out L2.out HBP) (fun hHeld => ?_)
          clear hK K
          refine wpAnyH_ready (rs := [9]) (by kernel_rfl) (by simp) ?_
          refine AllReadyH.cons rfl (fun K hK => ?_) AllReadyH.nil
          go_simp
          refine hK.out _ _ (held_set (held_set hHeld L1.out L2.out HBQ) L1.out L2.out HBQ) (fun hHeld => ?_)
          clear hK K
          refine wpAnyH_done (by kernel_rfl) ?_ _
          refine NoPanic.normal ?_
          go_wp2_with fail
          go_meet
          exact ⟨_, _, _, _, _, _, rfl, rfl, HST.out.1, HST.out.2, hHeld.2.2.2.2⟩
        · go_simp
          have hal := (Below.refl _ W2).alloc (Nat.le_refl _) (.cells #[.slice none 0 0, .slice none 0 0] 30)
          refine hK.out _ _ (held4 hHeld hal) (fun hHeld => ?_)
          clear hK K
          have HBQ : w1.heap.size ≤ W2.heap.size := HZ
          have PQ : W2.heap.size ≠ W1.heap.size := Nat.ne_of_gt (Array.getElem?_eq_some_iff.1 FP).1
          have FX := fresh_over FX hal
          have FP := box_over FP hal
          have FQ := heap_of_alloc W2 (.cells #[.slice none 0 0, .slice none 0 0] 30)
          obtain ⟨W3, hV⟩ : ∃ V, V = W2.alloc (.cells #[.slice none 0 0, .slice none 0 0] 30) := ⟨_, rfl⟩
          rw [← hV] at hHeld FX FP FQ ⊢
          clear hV hal
          have HZ : w1.heap.size ≤ W3.heap.size := hHeld.2.2.2.2.size
          refine wpAnyH_ready (rs := [5]) (by kernel_rfl) (by simp) ?_
          refine AllReadyH.cons rfl (fun K hK => ?_) AllReadyH.nil
          go_simp
          go_at_call 26
          refine (KO2.out _ (HB1.out.trans (hHeld.2.2.2.2.mono HB1.out.size))).mono ?_
          rintro e W4 ⟨vY, rfl, FY, hb⟩
          have HZ : w1.heap.size ≤ W4.heap.size := Nat.le_trans HZ hb.size
          refine hK.out _ _ (held4 hHeld hb) (fun hHeld => ?_)
          clear hK K
          have FX := fresh_over FX hb
          have FP := box_over FP hb
          have FQ := box_over FQ hb
          obtain ⟨ay, cy, gy, dy, rfl⟩ := lev_form (levFresh_at FY)
          clear hb
          try simp only [List.getElem_toArray, List.getElem_cons_succ, List.getElem_cons_zero, Act.put, List.setIfInBounds_toArray, List.set_cons_zero, List.set_cons_succ]
          obtain ⟨z0, z1, z2, z3⟩ := cells_of_pair FP
          obtain ⟨y0, y1, y2, y3⟩ := cells_of_pair FQ
          have hst := two_stored PQ FX FY FP FQ
          have HST := hide hst
          clear hst
          refine wpAnyH_ready (rs := [8]) (by kernel_rfl) (by simp) ?_
          refine AllReadyH.cons rfl (fun K hK => ?_) AllReadyH.nil
          go_simp
          refine hK.out _ _ (held_set (held_set hHeld L1.out L2.out HBP) L1.out L2.out HBP) (fun hHeld => ?_)
          clear hK K
          refine wpAnyH_ready (rs := [9]) (by kernel_rfl) (by simp) ?_
          refine AllReadyH.cons rfl (fun K hK => ?_) AllReadyH.nil
          go_simp
          refine hK.out _ _ (held_set (held_set hHeld L1.out L2.out HBQ) L1.out L2.out HBQ) (fun hHeld => ?_)
          clear hK K
          refine wpAnyH_done (by kernel_rfl) ?_ _
          refine NoPanic.normal ?_
          go_wp2_with fail
          go_meet
          exact ⟨_, _, _, _, _, _, rfl, rfl, HST.out.1, HST.out.2, hHeld.2.2.2.2⟩
      · go_simp
        have hal := (Below.refl _ W1).alloc (Nat.le_refl _) (.cells #[.slice none 0 0, .slice none 0 0] 30)
        refine hK.out _ _ (held4 hHeld hal) (fun hHeld => ?_)
        clear hK K
        have HBQ : w1.heap.size ≤ W1.heap.size := HZ
        have FX := fresh_over FX hal
        have FQ := heap_of_alloc W1 (.cells #[.slice none 0 0, .slice none 0 0] 30)
        obtain ⟨W2, hV⟩ : ∃ V, V = W1.alloc (.cells #[.slice none 0 0, .slice none 0 0] 30) := ⟨_, rfl⟩
        rw [← hV] at hHeld FX FQ ⊢
        clear hV hal
        have HZ : w1.heap.size ≤ W2.heap.size := hHeld.2.2.2.2.size
        refine wpAnyH_ready (rs := [5, 6]) (by kernel_rfl) (by simp) ?_
        refine AllReadyH.cons rfl (fun K hK => ?_) (AllReadyH.cons rfl (fun K hK => ?_) AllReadyH.nil)
        · go_simp
          go_at_call 26
          refine (KO2.out _ (HB1.out.trans (hHeld.2.2.2.2.mono HB1.out.size))).mono ?_
          rintro e W3 ⟨vY, rfl, FY, hb⟩
          have HZ : w1.heap.size ≤ W3.heap.size := Nat.le_trans HZ hb.size
          refine hK.out _ _ (held4 hHeld hb) (fun hHeld => ?_)
          clear hK K
          have FX := fresh_over FX hb
          have FQ := box_over FQ hb
          obtain ⟨ay, cy, gy, dy, rfl⟩ := lev_form (levFresh_at FY)
          clear hb
          try simp only [List.getElem_toArray, List.getElem_cons_succ, List.getElem_cons_zero, Act.put, List.setIfInBounds_toArray, List.set_cons_zero, List.set_cons_succ]
          refine wpAnyH_ready (rs := [6]) (by kernel_rfl) (by simp) ?_
          refine AllReadyH.cons rfl (fun K hK => ?_) AllReadyH.nil
          go_simp
          have hal := (Below.refl _ W3).alloc (Nat.le_refl _) (.cells #[.slice none 0 0, .slice none 0 0] 30)
          refine hK.out _ _ (held4 hHeld hal) (fun hHeld => ?_)
          clear hK K
          have HBP : w1.heap.size ≤ W3.heap.size := HZ
          have PQ : W1.heap.size ≠ W3.heap.size := Nat.ne_of_lt (Array.getElem?_eq_some_iff.1 FQ).1
          have FX := fresh_over FX hal
          have FY := fresh_over FY hal
          have FQ := box_over FQ hal
          have FP := heap_of_alloc W3 (.cells #[.slice none 0 0, .slice none 0 0] 30)
          obtain ⟨W4, hV⟩ : ∃ V, V = W3.alloc (.cells #[.slice none 0 0, .slice none 0 0] 30) := ⟨_, rfl⟩
          rw [← hV] at hHeld FX FY FQ FP ⊢
          clear hV hal
          have HZ : w1.heap.size ≤ W4.heap.size := hHeld.2.2.2.2.size
          obtain ⟨z0, z1, z2, z3⟩ := cells_of_pair FP
          obtain ⟨y0, y1, y2, y3⟩ := cells_of_pair FQ
          have hst := two_stored PQ FX FY FP FQ
          have HST := hide hst
          clear hst
          refine wpAnyH_ready (rs := [8]) (by kernel_rfl) (by simp) ?_
          refine AllReadyH.cons rfl (fun K hK => ?_) AllReadyH.nil
          go_simp
          refine hK.out _ _ (held_set (held_set hHeld L1.out L2.out HBP) L1.out L2.out HBP) (fun hHeld => ?_)
          clear hK K
          refine wpAnyH_ready (rs := [9]) (by kernel_rfl) (by simp) ?_
          refine AllReadyH.cons rfl (fun K hK => ?_) AllReadyH.nil
          go_simp
          refine hK.out _ _ (held_set (held_set hHeld L1.out L2.out HBQ) L1.out L2.out HBQ) (fun hHeld => ?_)
          clear hK K
          refine wpAnyH_done (by kernel_rfl) ?_ _
          refine NoPanic.normal ?_
          go_wp2_with fail
          go_meet
          exact ⟨_, _, _, _, _, _, rfl, rfl, HST.out.1, HST.out.2, hHeld.2.2.2.2⟩
        · go_simp
          have hal := (Below.refl _ W2).alloc (Nat.le_refl _) (.cells #[.slice none 0 0, .slice none 0 0] 30)
          refine hK.out _ _ (held4 hHeld hal) (fun hHeld => ?_)
          clear hK K
          have HBP : w1.heap.size ≤ W2.heap.size := HZ
          have PQ : W1.heap.size ≠ W2.heap.size := Nat.ne_of_lt (Array.getElem?_eq_some_iff.1 FQ).1
          have FX := fresh_over FX hal
          have FQ := box_over FQ hal
          have FP := heap_of_alloc W2 (.cells #[.slice none 0 0, .slice none 0 0] 30)
          obtain ⟨W3, hV⟩ : ∃ V, V = W2.alloc (.cells #[.slice none 0 0, .slice none 0 0] 30) := ⟨_, rfl⟩
          rw [← hV] at hHeld FX FQ FP ⊢
          clear hV hal
          have HZ : w1.heap.size ≤ W3.heap.size := hHeld.2.2.2.2.size
          refine wpAnyH_ready (rs := [5]) (by kernel_rfl) (by simp) ?_
          refine AllReadyH.cons rfl (fun K hK => ?_) AllReadyH.nil
          go_simp
          go_at_call 26
          refine (KO2.out _ (HB1.out.trans (hHeld.2.2.2.2.mono HB1.out.size))).mono ?_
          rintro e W4 ⟨vY, rfl, FY, hb⟩
          have HZ : w1.heap.size ≤ W4.heap.size := Nat.le_trans HZ hb.size
          refine hK.out _ _ (held4 hHeld hb) (fun hHeld => ?_)
          clear hK K
          have FX := fresh_over FX hb
          have FP := box_over FP hb
          have FQ := box_over FQ hb
          obtain ⟨ay, cy, gy, dy, rfl⟩ := lev_form (levFresh_at FY)
          clear hb
          try simp only [List.getElem_toArray, List.getElem_cons_succ, List.getElem_cons_zero, Act.put, List.setIfInBounds_toArray, List.set_cons_zero, List.set_cons_succ]
          obtain ⟨z0, z1, z2, z3⟩ := cells_of_pair FP
          obtain ⟨y0, y1, y2, y3⟩ := cells_of_pair FQ
          have hst := two_stored PQ FX FY FP FQ
          have HST := hide hst
          clear hst
          refine wpAnyH_ready (rs := [8]) (by kernel_rfl) (by simp) ?_
          refine AllReadyH.cons rfl (fun K hK => ?_) AllReadyH.nil
          go_simp
          refine hK.out _ _ (held_set (held_set hHeld L1.out L2.out HBP) L1.out L2.out HBP) (fun hHeld => ?_)
          clear hK K
          refine wpAnyH_ready (rs := [9]) (by kernel_rfl) (by simp) ?_
          refine AllReadyH.cons rfl (fun K hK => ?_) AllReadyH.nil
          go_simp
          refine hK.out _ _ (held_set (held_set hHeld L1.out L2.out HBQ) L1.out L2.out HBQ) (fun hHeld => ?_)
          clear hK K
          refine wpAnyH_done (by kernel_rfl) ?_ _
          refine NoPanic.normal ?_
          go_wp2_with fail
          go_meet
          exact ⟨_, _, _, _, _, _, rfl, rfl, HST.out.1, HST.out.2, hHeld.2.2.2.2⟩
    · go_simp
      have hal := (Below.refl _ W0).alloc (Nat.le_refl _) (.cells #[.slice none 0 0, .slice none 0 0] 30)
      refine hK.out _ _ (held4 hHeld hal) (fun hHeld => ?_)
      clear hK K
      have HBP : w1.heap.size ≤ W0.heap.size := HZ
      have FP := heap_of_alloc W0 (.cells #[.slice none 0 0, .slice none 0 0] 30)
      obtain ⟨W1, hV⟩ : ∃ V, V = W0.alloc (.cells #[.slice none 0 0, .slice none 0 0] 30) := ⟨_, rfl⟩
      rw [← hV] at hHeld FP ⊢
      clear hV hal
      have HZ : w1.heap.size ≤ W1.heap.size := hHeld.2.2.2.2.size
      refine wpAnyH_ready (rs := [2, 7]) (by kernel_rfl) (by simp) ?_
      refine AllReadyH.cons rfl (fun K hK => ?_) (AllReadyH.cons rfl (fun K hK => ?_) AllReadyH.nil)
      · go_simp
        go_at_call 26
        refine (KO1.out _ (HB1.out.trans (hHeld.2.2.2.2.mono HB1.out.size))).mono ?_
        rintro e W2 ⟨vX, rfl, FX, hb⟩
        have HZ : w1.heap.size ≤ W2.heap.size := Nat.le_trans HZ hb.size
        refine hK.out _ _ (held4 hHeld hb) (fun hHeld => ?_)
        clear hK K
        have FP := box_over FP hb
        obtain ⟨ax, cx, gx, dx, rfl⟩ := lev_form (levFresh_at FX)
        clear hb
        try simp only [List.getElem_toArray, List.getElem_cons_succ, List.getElem_cons_zero, Act.put, List.setIfInBounds_toArray, List.set_cons_zero, List.set_cons_succ]
        refine wpAnyH_ready (rs := [5, 7]) (by kernel_rfl) (by simp) ?_
        refine AllReadyH.cons rfl (fun K hK => ?_) (AllReadyH.cons rfl (fun K hK => ?_) AllReadyH.nil)
        · go_simp
          go_at_call 26
          refine (KO2.out _ (HB1.out.trans (hHeld.2.2.2.2.mono HB1.out.size))).mono ?_
          rintro e W3 ⟨vY, rfl, FY, hb⟩
          have HZ : w1.heap.size ≤ W3.heap.size := Nat.le_trans HZ hb.size
          refine hK.out _ _ (held4 hHeld hb) (fun hHeld => ?_)
          clear hK K
          have FX := fresh_over FX hb
          have FP := box_over FP hb
          obtain ⟨ay, cy, gy, dy, rfl⟩ := lev_form (levFresh_at FY)
          clear hb
          try simp only [List.getElem_toArray, List.getElem_cons_succ, List.getElem_cons_zero, Act.put, List.setIfInBounds_toArray, List.set_cons_zero, List.set_cons_succ]
          refine wpAnyH_ready (rs := [7]) (by kernel_rfl) (by simp) ?_
          refine AllReadyH.cons rfl (fun K hK => ?_) AllReadyH.nil
          go_simp
          have hal := (Below.refl _ W3).alloc (Nat.le_refl _) (.cells #[.slice none 0 0, .slice none 0 0] 30)
          refine hK.out _ _ (held4 hHeld hal) (fun hHeld => ?_)
          clear hK K
          have HBQ : w1.heap.size ≤ W3.heap.size := HZ
          have PQ : W3.heap.size ≠ W0.heap.size := Nat.ne_of_gt (Array.getElem?_eq_some_iff.1 FP).1
          have FX := fresh_over FX hal
          have FY := fresh_over FY hal
          have FP := box_over FP hal
          have FQ := heap_of_alloc W3 (.cells #[.slice none 0 0, .slice none 0 0] 30)
          obtain ⟨W4, hV⟩ : ∃ V, V = W3.alloc (.cells #[.slice none 0 0, .slice none 0 0] 30) := ⟨_, rfl⟩
          rw [← hV] at hHeld FX FY FP FQ ⊢
          clear hV hal
          have HZ : w1.heap.size ≤ W4.heap.size := hHeld.2.2.2.2.size
          obtain ⟨z0, z1, z2, z3⟩ := cells_of_pair FP
          obtain ⟨y0, y1, y2, y3⟩ := cells_of_pair FQ
          have hst := two_stored PQ FX FY FP FQ
          have HST := hide hst
          clear hst
          refine wpAnyH_ready (rs := [8]) (by kernel_rfl) (by simp) ?_
          refine AllReadyH.cons rfl (fun K hK => ?_) AllReadyH.nil
          go_simp
          refine hK.out _ _ (held_set (held_set hHeld L1.out L2.out HBP) L1.out L2.out HBP) (fun hHeld => ?_)
          clear hK K
          refine wpAnyH_ready (rs := [9]) (by kernel_rfl) (by simp) ?_
          refine AllReadyH.cons rfl (fun K hK => ?_) AllReadyH.nil
          go_simp
          refine hK.out _ _ (held_set (held_set hHeld L1.out L2.out HBQ) L1.out L2.out HBQ) (fun hHeld => ?_)
          clear hK K
          refine wpAnyH_done (by kernel_rfl) ?_ _
          refine NoPanic.normal ?_
          go_wp2_with fail
          go_meet
          exact ⟨_, _, _, _, _, _, rfl, rfl, HST.out.1, HST.out.2, hHeld.2.2.2.2⟩
        · go_simp
          have hal := (Below.refl _ W2).alloc (Nat.le_refl _) (.cells #[.slice none 0 0, .slice none 0 0] 30)
          refine hK.out _ _ (held4 hHeld hal) (fun hHeld => ?_)
          clear hK K
          have HBQ : w1.heap.size ≤ W2.heap.size := HZ
          have PQ : W2.heap.size ≠ W0.heap.size := Nat.ne_of_gt (Array.getElem?_eq_some_iff.1 FP).1
          have FX := fresh_over FX hal
          have FP := box_over FP hal
          have FQ := heap_of_alloc W2 (.cells #[.slice none 0 0, .slice none 0 0] 30)
          obtain ⟨W3, hV⟩ : ∃ V, V = W2.alloc (.cells #[.slice none 0 0, .slice none 0 0] 30) := ⟨_, rfl⟩
          rw [← hV] at hHeld FX FP FQ ⊢
          clear hV hal
          have HZ : w1.heap.size ≤ W3.heap.size := hHeld.2.2.2.2.size
          refine wpAnyH_ready (rs := [5]) (by kernel_rfl) (by simp) ?_
          refine AllReadyH.cons rfl (fun K hK => ?_) AllReadyH.nil
          go_simp
          go_at_call 26
          refine (KO2.out _ (HB1.out.trans (hHeld.2.2.2.2.mono HB1.out.size))).mono ?_
          rintro e W4 ⟨vY, rfl, FY, hb⟩
          have HZ : w1.heap.size ≤ W4.heap.size := Nat.le_trans HZ hb.size
          refine hK.out _ _ (held4 hHeld hb) (fun hHeld => ?_)
          clear hK K
          have FX := fresh_over FX hb
          have FP := box_over FP hb
          have FQ := box_over FQ hb
          obtain ⟨ay, cy, gy, dy, rfl⟩ := lev_form (levFresh_at FY)
          clear hb
          try simp only [List.getElem_toArray, List.getElem_cons_succ, List.getElem_cons_zero, Act.put, List.setIfInBounds_toArray, List.set_cons_zero, List.set_cons_succ]
          obtain ⟨z0, z1, z2, z3⟩ := cells_of_pair FP
          obtain ⟨y0, y1, y2, y3⟩ := cells_of_pair FQ
          have hst := two_stored PQ FX FY FP FQ
          have HST := hide hst
          clear hst
          refine wpAnyH_ready (rs := [8]) (by kernel_rfl) (by simp) ?_
          refine AllReadyH.cons rfl (fun K hK => ?_) AllReadyH.nil
          go_simp
          refine hK.out _ _ (held_set (held_set hHeld L1.out L2.out HBP) L1.out L2.out HBP) (fun hHeld => ?_)
          clear hK K
          refine wpAnyH_ready (rs := [9]) (by kernel_rfl) (by simp) ?_
          refine AllReadyH.cons rfl (fun K hK => ?_) AllReadyH.nil
          go_simp
          refine hK.out _ _ (held_set (held_set hHeld L1.out L2.out HBQ) L1.out L2.out HBQ) (fun hHeld => ?_)
          clear hK K
          refine wpAnyH_done (by kernel_rfl) ?_ _
          refine NoPanic.normal ?_
          go_wp2_with fail
          go_meet
          exact ⟨_, _, _, _, _, _, rfl, rfl, HST.out.1, HST.out.2, hHeld.2.2.2.2⟩
      · go_simp
        have hal := (Below.refl _ W1).alloc (Nat.le_refl _) (.cells #[.slice none 0 0, .slice none 0 0] 30)
        refine hK.out _ _ (held4 hHeld hal) (fun hHeld => ?_)
        clear hK K
        have HBQ : w1.heap.size ≤ W1.heap.size := HZ
        have PQ : W1.heap.size ≠ W0.heap.size := Nat.ne_of_gt (Array.getElem?_eq_some_iff.1 FP).1
        have FP := box_over FP hal
        have FQ := heap_of_alloc W1 (.cells #[.slice none 0 0, .slice none 0 0] 30)
        obtain ⟨W2, hV⟩ : ∃ V, V = W1.alloc (.cells #[.slice none 0 0, .slice none 0 0] 30) := ⟨_, rfl⟩
        rw [← hV] at hHeld FP FQ ⊢
        clear hV hal
        have HZ : w1.heap.size ≤ W2.heap.size := hHeld.2.2.2.2.size
        refine wpAnyH_ready (rs := [2]) (by kernel_rfl) (by simp) ?_
        refine AllReadyH.cons rfl (fun K hK => ?_) AllReadyH.nil
        go_simp
        go_at_call 26
        refine (KO1.out _ (HB1.out.trans (hHeld.2.2.2.2.mono HB1.out.size))).mono ?_
        rintro e W3 ⟨vX, rfl, FX, hb⟩
        have HZ : w1.heap.size ≤ W3.heap.size := Nat.le_trans HZ hb.size
        refine hK.out _ _ (held4 hHeld hb) (fun hHeld => ?_)
        clear hK K
        have FP := box_over FP hb
        have FQ := box_over FQ hb
        obtain ⟨ax, cx, gx, dx, rfl⟩ := lev_form (levFresh_at FX)
        clear hb
        try simp only [List.getElem_toArray, List.getElem_cons_succ, List.getElem_cons_zero, Act.put, List.setIfInBounds_toArray, List.set_cons_zero, List.set_cons_succ]
        refine wpAnyH_ready (rs := [5]) (by kernel_rfl) (by simp) ?_
        refine AllReadyH.cons rfl (fun K hK => ?_) AllReadyH.nil
        go_simp
        go_at_call 26
        refine (KO2.out _ (HB1.out.trans (hHeld.2.2.2.2.mono HB1.out.size))).mono ?_
        rintro e W4 ⟨vY, rfl, FY, hb⟩
        have HZ : w1.heap.size ≤ W4.heap.size := Nat.le_trans HZ hb.size
        refine hK.out _ _ (held4 hHeld hb) (fun hHeld => ?_)
        clear hK K
        have FX := fresh_over FX hb
        have FP := box_over FP hb
        have FQ := box_over FQ hb
        obtain ⟨ay, cy, gy, dy, rfl⟩ := lev_form (levFresh_at FY)
        clear hb
        try simp only [List.getElem_toArray, List.getElem_cons_succ, List.getElem_cons_zero, Act.put, List.setIfInBounds_toArray, List.set_cons_zero, List.set_cons_succ]
        obtain ⟨z0, z1, z2, z3⟩ := cells_of_pair FP
        obtain ⟨y0, y1, y2, y3⟩ := cells_of_pair FQ
        have hst := two_stored PQ FX FY FP FQ
        have HST := hide hst
        clear hst
        refine wpAnyH_ready (rs := [8]) (by kernel_rfl) (by simp) ?_
        refine AllReadyH.cons rfl (fun K hK => ?_) AllReadyH.nil
        go_simp
        refine hK.out _ _ (held_set (held_set hHeld L1.out L2.out HBP) L1.out L2.out HBP) (fun hHeld => ?_)
        clear hK K
        refine wpAnyH_ready (rs := [9]) (by kernel_rfl) (by simp) ?_
        refine AllReadyH.cons rfl (fun K hK => ?_) AllReadyH.nil
        go_simp
        refine hK.out _ _ (held_set (held_set hHeld L1.out L2.out HBQ) L1.out L2.out HBQ) (fun hHeld => ?_)
        clear hK K
        refine wpAnyH_done (by kernel_rfl) ?_ _
        refine NoPanic.normal ?_
        go_wp2_with fail
        go_meet
        exact ⟨_, _, _, _, _, _, rfl, rfl, HST.out.1, HST.out.2, hHeld.2.2.2.2⟩
    · go_simp
      have hal := (Below.refl _ W0).alloc (Nat.le_refl _) (.cells #[.slice none 0 0, .slice none 0 0] 30)
      refine hK.out _ _ (held4 hHeld hal) (fun hHeld => ?_)
      clear hK K
      have HBQ : w1.heap.size ≤ W0.heap.size := HZ
      have FQ := heap_of_alloc W0 (.cells #[.slice none 0 0, .slice none 0 0] 30)
      obtain ⟨W1, hV⟩ : ∃ V, V = W0.alloc (.cells #[.slice none 0 0, .slice none 0 0] 30) := ⟨_, rfl⟩
      rw [← hV] at hHeld FQ ⊢
      clear hV hal
      have HZ : w1.heap.size ≤ W1.heap.size := hHeld.2.2.2.2.size
      refine wpAnyH_ready (rs := [2, 6]) (by kernel_rfl) (by simp) ?_
      refine AllReadyH.cons rfl (fun K hK => ?_) (AllReadyH.cons rfl (fun K hK => ?_) AllReadyH.nil)
      · go_simp
        go_at_call 26
        refine (KO1.out _ (HB1.out.trans (hHeld.2.2.2.2.mono HB1.out.size))).mono ?_
        rintro e W2 ⟨vX, rfl, FX, hb⟩
        have HZ : w1.heap.size ≤ W2.heap.size := Nat.le_trans HZ hb.size
        refine hK.out _ _ (held4 hHeld hb) (fun hHeld => ?_)
        clear hK K
        have FQ := box_over FQ hb
        obtain ⟨ax, cx, gx, dx, rfl⟩ := lev_form (levFresh_at FX)
        clear hb
        try simp only [List.getElem_toArray, List.getElem_cons_succ, List.getElem_cons_zero, Act.put, List.setIfInBounds_toArray, List.set_cons_zero, List.set_cons_succ]
        refine wpAnyH_ready (rs := [5, 6]) (by kernel_rfl) (by simp) ?_
        refine AllReadyH.cons rfl (fun K hK => ?_) (AllReadyH.cons rfl (fun K hK => ?_) AllReadyH.nil)
        · go_simp
          go_at_call 26
          refine (KO2.out _ (HB1.out.trans (hHeld.2.2.2.2.mono HB1.out.size))).mono ?_
          rintro e W3 ⟨vY, rfl, FY, hb⟩
          have HZ : w1.heap.size ≤ W3.heap.size := Nat.le_trans HZ hb.size
          refine hK.out _ _ (held4 hHeld hb) (fun hHeld => ?_)
          clear hK K
          have FX := fresh_over FX hb
          have FQ := box_over FQ hb
          obtain ⟨ay, cy, gy, dy, rfl⟩ := lev_form (levFresh_at FY)
          clear hb
          try simp only [List.getElem_toArray, List.getElem_cons_succ, List.getElem_cons_zero, Act.put, List.setIfInBounds_toArray, List.set_cons_zero, List.set_cons_succ]
          refine wpAnyH_ready (rs := [6]) (by kernel_rfl) (by simp) ?_
          refine AllReadyH.cons rfl (fun K hK => ?_) AllReadyH.nil
          go_simp
          have hal := (Below.refl _ W3).alloc (Nat.le_refl _) (.cells #[.slice none 0 0, .slice none 0 0] 30)
          refine hK.out _ _ (held4 hHeld hal) (fun hHeld => ?_)
          clear hK K
          have HBP : w1.heap.size ≤ W3.heap.size := HZ
          have PQ : W0.heap.size ≠ W3.heap.size := Nat.ne_of_lt (Array.getElem?_eq_some_iff.1 FQ).1
          have FX := fresh_over FX hal
          have FY := fresh_over FY hal
          have FQ := box_over FQ hal
          have FP := heap_of_alloc W3 (.cells #[.slice none 0 0, .slice none 0 0] 30)
          obtain ⟨W4, hV⟩ : ∃ V, V = W3.alloc (.cells #[.slice none 0 0, .slice none 0 0] 30) := ⟨_, rfl⟩
          rw [← hV] at hHeld FX FY FQ FP ⊢
          clear hV hal
          have HZ : w1.heap.size ≤ W4.heap.size := hHeld.2.2.2.2.size
          obtain ⟨z0, z1, z2, z3⟩ := cells_of_pair FP
          obtain ⟨y0, y1, y2, y3⟩ := cells_of_pair FQ
          have hst := two_stored PQ FX FY FP FQ
          have HST := hide hst
          clear hst
          refine wpAnyH_ready (rs := [8]) (by kernel_rfl) (by simp) ?_
          refine AllReadyH.cons rfl (fun K hK => ?_) AllReadyH.nil
          go_simp
          refine hK.out _ _ (held_set (held_set hHeld L1.out L2.out HBP) L1.out L2.out HBP) (fun hHeld => ?_)
          clear hK K
          refine wpAnyH_ready (rs := [9]) (by kernel_rfl) (by simp) ?_
          refine AllReadyH.cons rfl (fun K hK => ?_) AllReadyH.nil
          go_simp
          refine hK.out _ _ (held_set (held_set hHeld L1.out L2.out HBQ) L1.out L2.out HBQ) (fun hHeld => ?_)
          clear hK K
          refine wpAnyH_done (by kernel_rfl) ?_ _
          refine NoPanic.normal ?_
          go_wp2_with fail
          go_meet
          exact ⟨_, _, _, _, _, _, rfl, rfl, HST.out.1, HST.out.2, hHeld.2.2.2.2⟩
        · go_simp
          have hal := (Below.refl _ W2).alloc (Nat.le_refl _) (.cells #[.slice none 0 0, .slice none 0 0] 30)
          refine hK.out _ _ (held4 hHeld hal) (fun hHeld => ?_)
          clear hK K
          have HBP : w1.heap.size ≤ W2.heap.size := HZ
          have PQ : W0.heap.size ≠ W2.heap.size := Nat.ne_of_lt (Array.getElem?_eq_some_iff.1 FQ).1
          have FX := fresh_over FX hal
          have FQ := box_over FQ hal
          have FP := heap_of_alloc W2 (.cells #[.slice none 0 0, .slice none 0 0] 30)
          obtain ⟨W3, hV⟩ : ∃ V, V = W2.alloc (.cells #[.slice none 0 0, .slice none 0 0] 30) := ⟨_, rfl⟩
          rw [← hV] at hHeld FX FQ FP ⊢
          clear hV hal
          have HZ : w1.heap.size ≤ W3.heap.size := hHeld.2.2.2.2.size
          refine wpAnyH_ready (rs := [5]) (by kernel_rfl) (by simp) ?_
          refine AllReadyH.cons rfl (fun K hK => ?_) AllReadyH.nil
          go_simp
          go_at_call 26
          refine (KO2.out _ (HB1.out.trans (hHeld.2.2.2.2.mono HB1.out.size))).mono ?_
          rintro e W4 ⟨vY, rfl, FY, hb⟩
          have HZ : w1.heap.size ≤ W4.heap.size := Nat.le_trans HZ hb.size
          refine hK.out _ _ (held4 hHeld hb) (fun hHeld => ?_)
          clear hK K
          have FX := fresh_over FX hb
          have FP := box_over FP hb
          have FQ := box_over FQ hb
          obtain ⟨ay, cy, gy, dy, rfl⟩ := lev_form (levFresh_at FY)
          clear hb
          try simp only [List.getElem_toArray, List.getElem_cons_succ, List.getElem_cons_zero, Act.put, List.setIfInBounds_toArray, List.set_cons_zero, List.set_cons_succ]
          obtain ⟨z0, z1, z2, z3⟩ := cells_of_pair FP
          obtain ⟨y0, y1, y2, y3⟩ := cells_of_pair FQ
          have hst := two_stored PQ FX FY FP FQ
          have HST := hide hst
          clear hst
          refine wpAnyH_ready (rs := [8]) (by kernel_rfl) (by simp) ?_
          refine AllReadyH.cons rfl (fun K hK => ?_) AllReadyH.nil
          go_simp
          refine hK.out _ _ (held_set (held_set hHeld L1.out L2.out HBP) L1.out L2.out HBP) (fun hHeld => ?_)
          clear hK K
          refine wpAnyH_ready (rs := [9]) (by kernel_rfl) (by simp) ?_
          refine AllReadyH.cons rfl (fun K hK => ?_) AllReadyH.nil
          go_simp
          refine hK.out _ _ (held_set (held_set hHeld L1.out L2.out HBQ) L1.out L2.out HBQ) (fun hHeld => ?_)
          clear hK K
          refine wpAnyH_done (by kernel_rfl) ?_ _
          refine NoPanic.normal ?_
          go_wp2_with fail
          go_meet
          exact ⟨_, _, _, _, _, _, rfl, rfl, HST.out.1, HST.out.2, hHeld.2.2.2.2⟩
      · go_simp
        have hal := (Below.refl _ W1).alloc (Nat.le_refl _) (.cells #[.slice none 0 0, .slice none 0 0] 30)
        refine hK.out _ _ (held4 hHeld hal) (fun hHeld => ?_)
        clear hK K
        have HBP : w1.heap.size ≤ W1.heap.size := HZ
        have PQ : W0.heap.size ≠ W1.heap.size := Nat.ne_of_lt (Array.getElem?_eq_some_iff.1 FQ).1
        have FQ := box_over FQ hal
        have FP := heap_of_alloc W1 (.cells #[.slice none 0 0, .slice none 0 0] 30)
        obtain ⟨W2, hV⟩ : ∃ V, V = W1.alloc (.cells #[.slice none 0 0, .slice none 0 0] 30) := ⟨_, rfl⟩
        rw [← hV] at hHeld FQ FP ⊢
        clear hV hal
        have HZ : w1.heap.size ≤ W2.heap.size := hHeld.2.2.2.2.size
        refine wpAnyH_ready (rs := [2]) (by kernel_rfl) (by simp) ?_
        refine AllReadyH.cons rfl (fun K hK => ?_) AllReadyH.nil
        go_simp
        go_at_call 26
        refine (KO1.out _ (HB1.out.trans (hHeld.2.2.2.2.mono HB1.out.size))).mono ?_
        rintro e W3 ⟨vX, rfl, FX, hb⟩
        have HZ : w1.heap.size ≤ W3.heap.size := Nat.le_trans HZ hb.size
        refine hK.out _ _ (held4 hHeld hb) (fun hHeld => ?_)
        clear hK K
        have FP := box_over FP hb
        have FQ := box_over FQ hb
        obtain ⟨ax, cx, gx, dx, rfl⟩ := lev_form (levFresh_at FX)
        clear hb
        try simp only [List.getElem_toArray, List.getElem_cons_succ, List.getElem_cons_zero, Act.put, List.setIfInBounds_toArray, List.set_cons_zero, List.set_cons_succ]
        refine wpAnyH_ready (rs := [5]) (by kernel_rfl) (by simp) ?_
        refine AllReadyH.cons rfl (fun K hK => ?_) AllReadyH.nil
        go_simp
        go_at_call 26
        refine (KO2.out _ (HB1.out.trans (hHeld.2.2.2.2.mono HB1.out.size))).mono ?_
        rintro e W4 ⟨vY, rfl, FY, hb⟩
        have HZ : w1.heap.size ≤ W4.heap.size := Nat.le_trans HZ hb.size
        refine hK.out _ _ (held4 hHeld hb) (fun hHeld => ?_)
        clear hK K
        have FX := fresh_over FX hb
        have FP := box_over FP hb
        have FQ := box_over FQ hb
        obtain ⟨ay, cy, gy, dy, rfl⟩ := lev_form (levFresh_at FY)
        clear hb
        try simp only [List.getElem_toArray, List.getElem_cons_succ, List.getElem_cons_zero, Act.put, List.setIfInBounds_toArray, List.set_cons_zero, List.set_cons_succ]
        obtain ⟨z0, z1, z2, z3⟩ := cells_of_pair FP
        obtain ⟨y0, y1, y2, y3⟩ := cells_of_pair FQ
        have hst := two_stored PQ FX FY FP FQ
        have HST := hide hst
        clear hst
        refine wpAnyH_ready (rs := [8]) (by kernel_rfl) (by simp) ?_
        refine AllReadyH.cons rfl (fun K hK => ?_) AllReadyH.nil
        go_simp
        refine hK.out _ _ (held_set (held_set hHeld L1.out L2.out HBP) L1.out L2.out HBP) (fun hHeld => ?_)
        clear hK K
        refine wpAnyH_ready (rs := [9]) (by kernel_rfl) (by simp) ?_
        refine AllReadyH.cons rfl (fun K hK => ?_) AllReadyH.nil
        go_simp
        refine hK.out _ _ (held_set (held_set hHeld L1.out L2.out HBQ) L1.out L2.out HBQ) (fun hHeld => ?_)
        clear hK K
        refine wpAnyH_done (by kernel_rfl) ?_ _
        refine NoPanic.normal ?_
        go_wp2_with fail
        go_meet
        exact ⟨_, _, _, _, _, _, rfl, rfl, HST.out.1, HST.out.2, hHeld.2.2.2.2⟩
  case rest =>
    clear c0 c1 c2 c3 c4 c5 c6 c7 hB
    obtain ⟨p, q, xr, xw, yr, yw, rfl, rfl, hbx, hby, hBc⟩ := hcut
    obtain ⟨ax, cx, bx, dx, hxe⟩ := lev_form hbx.2.2
    obtain ⟨rfl, rfl⟩ : xr = .slice ax l.r.length cx ∧ xw = .slice bx l.w.length dx := by simpa using hxe
    obtain ⟨ay, cy, ey, dy, hye⟩ := lev_form hby.2.2
    obtain ⟨rfl, rfl⟩ : yr = .slice ay k.r.length cy ∧ yw = .slice ey k.w.length dy := by simpa using hye
    have hs2 := hide (held8 hs1.out hBc)
    have hx2 := hide hbx
    have hy2 := hide hby
    clear hs1 hbx hby hBc hxe hye L1 L2 HB1 KO1 KO2
    obtain ⟨c0, c1, c2, c3, c4, c5, c6, c7, hB⟩ := hs2.out
    go_wp2_with fail
    refine (KR.out _ hB).mono ?_
    rintro e w3 ⟨rfl, hb3⟩
    clear c0 c1 c2 c3 c4 c5 c6 c7 hB
    have hs3 := hide (held8 hs2.out hb3)
    have hx3 := hide (hx2.out.over hb3)
    have hy3 := hide (hy2.out.over hb3)
    clear hs2 hx2 hy2
    clear hb3 KR
    obtain ⟨c0, c1, c2, c3, c4, c5, c6, c7, hB⟩ := hs3.out
    go_wp2_with fail
    refine (KK.out _ hB).mono ?_
    rintro e w4 ⟨rfl, hb4⟩
    clear c0 c1 c2 c3 c4 c5 c6 c7 hB
    have hs4 := hide (held8 hs3.out hb4)
    have hx4 := hide (hx3.out.over hb4)
    have hy4 := hide (hy3.out.over hb4)
    clear hs3 hx3 hy3
    clear hb4 KK
    have hal := (Below.refl _ w4).alloc (Nat.le_refl _) (.cells #[.slice none 0 0, .slice none 0 0] 30)
    have hs4a := hide (held8 hs4.out hal)
    obtain ⟨c0, c1, c2, c3, c4, c5, c6, c7, hB4⟩ := hs4a.out
    go_wp2_with fail
    refine (KO.out _ hB4).mono ?_
    rintro e w5 ⟨vr, vw, rfl, ho1, ho2, hap, hb5⟩
    have hh5 := box_over (heap_of_alloc w4 _) hb5
    obtain ⟨z0, z1, z2, z3⟩ := cells_of_pair hh5
    have hfr : LevFresh (w4.alloc (.cells #[.slice none 0 0, .slice none 0 0] 30)) w5 (.agg #[vr, vw]) (levOf (gnOf gs) n bl) := ⟨vr, vw, rfl, by rw [HLN.out.1]; exact ho1, by rw [HLN.out.2]; exact ho2, hap⟩
    obtain ⟨g1, q1, rfl⟩ := ownB_some ho1 h1
    obtain ⟨g2, q2, rfl⟩ := ownB_some ho2 h1
    have hu6 := hide (box_stored hfr hh5)
    have hb45 := ((hal.trans (hb5.mono (by simp))).setCell (p := ⟨w4.heap.size, 0, none⟩) (Nat.le_refl _) (.slice (some ⟨g1, 0, none⟩) n q1)).setCell (p := ⟨w4.heap.size, 1, none⟩) (Nat.le_refl _) (.slice (some ⟨g2, 0, none⟩) n q2)
    have hs6 := hide (held8 hs4.out hb45)
    have hx6 := hide (hx4.out.over hb45)
    have hy6 := hide (hy4.out.over hb45)
    clear hs4 hx4 hy4
    clear hs4a hal hfr ho1 ho2 hb5 hb45 c0 c1 c2 c3 c4 c5 c6 c7 hB4 KO hh5
    go_wp2_with fail
    clear z0 z1 z2 z3
    go_loopw [14] (fun i wr => ∃ t : Nat, t ≤ 2 ∧ i = .int .i64 t ∧ (wr.cell? ⟨w.heap.size, 0, none⟩ = some (.int .i64 n) ∧ wr.cell? ⟨w.heap.size, 1, none⟩ = some (.slice va vn vc) ∧ wr.cell? ⟨w.heap.size + 1, 0, none⟩ = some (.slice a1 l.r.length k1) ∧ wr.cell? ⟨w.heap.size + 1, 1, none⟩ = some (.slice a2 l.w.length k2) ∧ wr.cell? ⟨w.heap.size + 1 + 1, 0, none⟩ = some (.slice a3 k.r.length k3) ∧ wr.cell? ⟨w.heap.size + 1 + 1, 1, none⟩ = some (.slice a4 k.w.length k4) ∧ wr.cell? ⟨w.heap.size + 1 + 1 + 1, 0, none⟩ = some (.slice pa pn pc) ∧ wr.cell? ⟨w.heap.size + 1 + 1 + 1, 1, none⟩ = some (.slice qa qn qc) ∧ Below w.heap.size w wr) ∧ Box wr p (.slice ax l.r.length cx) (.slice bx l.w.length dx) l ∧ Box wr q (.slice ay k.r.length cy) (.slice ey k.w.length dy) k ∧ Box wr w4.heap.size (.slice (some ⟨g1, 0, none⟩) n q1) (.slice (some ⟨g2, 0, none⟩) n q2) (levOf (gnOf gs) n bl)) (fun i _ => 2 - (intOf i).toNat)
    case atStart => exact ⟨0, Nat.zero_le _, rfl, hs6.out, hx6.out, hy6.out, hu6.out⟩
    case round =>
      clear hs6 hx6 hy6 hu6
      obtain ⟨t, ht, rfl, hs, hx, hy, hu⟩ := hrel
      by_cases htn : t < 2
      · have hs0 := hide hs
        have hx0 := hide hx
        have hy0 := hide hy
        have hu0 := hide hu
        have ti : (t : Int) < 2 := by omega
        have hR := hide (And.intro hs (And.intro hx (And.intro hy hu)))
        clear hs hx hy hu
        obtain ⟨c0, c1, c2, c3, c4, c5, c6, c7, hB⟩ := hs0.out
        obtain ⟨x0, x1, x2⟩ := hx0.out
        obtain ⟨y0, y1, y2⟩ := hy0.out
        go_wp2_with fail
        refine (KJ.out _ _ _ hB x2 y2).mono ?_
        rintro e v1 ⟨vj, rfl, hjf, hb1⟩
        obtain ⟨a7, k7, a8, k8, rfl⟩ := lev_form (levFresh_at hjf)
        have hal1 := hb1.trans (((Below.refl _ v1).alloc (Nat.le_refl _) (.cells #[.slice a7 LJ.r.length k7, .slice a8 LJ.w.length k8] 30)).mono hb1.size)
        have hj1' := hide (jb_new hjf (Nat.le_refl wr.heap.size))
        clear c0 c1 c2 c3 c4 c5 c6 c7 hB x0 x1 x2 y0 y1 y2 hjf
        have hs1 := hide (held8 hs0.out hal1)
        have hx1 := hide (hx0.out.over hal1)
        have hy1 := hide (hy0.out.over hal1)
        have hu1 := hide (hu0.out.over hal1)
        clear hs0 hx0 hy0 hu0
        have HZ1 : Hid (wr.heap.size ≤ (v1.alloc (.cells #[.slice a7 LJ.r.length k7, .slice a8 LJ.w.length k8] 30)).heap.size) := hal1.size
        have BT1 := hide hal1
        clear hal1 hb1
        obtain ⟨c0, c1, c2, c3, c4, c5, c6, c7, hB⟩ := hs1.out
        obtain ⟨x0, x1, x2⟩ := hx1.out
        obtain ⟨y0, y1, y2⟩ := hy1.out
        go_wp2_with fail
        refine (KM.out _ _ _ hB x2 y2).mono ?_
        rintro e v2 ⟨vm, rfl, hmf, hb2⟩
        obtain ⟨a9, k9, a10, k10, rfl⟩ := lev_form (levFresh_at hmf)
        have hal2 := hb2.trans (((Below.refl _ v2).alloc (Nat.le_refl _) (.cells #[.slice a9 LM.r.length k9, .slice a10 LM.w.length k10] 30)).mono hb2.size)
        have hm2' := hide (jb_new hmf HZ1.out)
        have hj2' := hide (hj1'.out.over hal2)
        clear c0 c1 c2 c3 c4 c5 c6 c7 hB x0 x1 x2 y0 y1 y2 hmf hj1'
        have hs2 := hide (held8 hs1.out hal2)
        have hx2 := hide (hx1.out.over hal2)
        have hy2 := hide (hy1.out.over hal2)
        have hu2 := hide (hu1.out.over hal2)
        clear hs1 hx1 hy1 hu1
        have BT2 := hide (BT1.out.trans (hal2.mono BT1.out.size))
        have HZ2 : Hid (wr.heap.size ≤ (v2.alloc (.cells #[.slice a9 LM.r.length k9, .slice a10 LM.w.length k10] 30)).heap.size) := BT2.out.size
        clear hal2 hb2 HZ1 BT1
        obtain ⟨c0, c1, c2, c3, c4, c5, c6, c7, hB⟩ := hs2.out
        go_wp2_with fail
        refine (KL.out _ hB).mono ?_
        rintro e v3 ⟨vn', rfl, hnf, hb3⟩
        have hna := levFresh_at hnf
        obtain ⟨a11, k11, a12, k12, rfl⟩ := lev_form hna
        have hal3 := hb3.trans (((Below.refl _ v3).alloc (Nat.le_refl _) (.cells #[.slice a11 (levOf (gnOf gs) n bl).r.length k11, .slice a12 (levOf (gnOf gs) n bl).w.length k12] 30)).mono hb3.size)
        have hn3 := hide (box_new hna)
        have hn3' := hide (jb_new hnf HZ2.out)
        have hj3' := hide (hj2'.out.over hal3)
        have hm3' := hide (hm2'.out.over hal3)
        clear c0 c1 c2 c3 c4 c5 c6 c7 hB hnf hna hj2' hm2'
        have hs3 := hide (held8 hs2.out hal3)
        have hx3 := hide (hx2.out.over hal3)
        have hy3 := hide (hy2.out.over hal3)
        have hu3 := hide (hu2.out.over hal3)
        clear hs2 hx2 hy2 hu2
        have BT3 := hide (BT2.out.trans (hal3.mono BT2.out.size))
        clear hal3 hb3 HZ2 BT2
        obtain ⟨c0, c1, c2, c3, c4, c5, c6, c7, hB⟩ := hs3.out
        obtain ⟨x0, x1, x2⟩ := hx3.out
        go_wp2_with fail
        refine (KA.out _ _ hB x2).mono ?_
        rintro e v4 ⟨rfl, hb4⟩
        have hn4 := hide (hn3.out.over hb4)
        have hn4' := hide (hn3'.out.over hb4)
        have hj4' := hide (hj3'.out.over hb4)
        have hm4' := hide (hm3'.out.over hb4)
        have BT4 := hide (BT3.out.trans (hb4.mono BT3.out.size))
        clear c0 c1 c2 c3 c4 c5 c6 c7 hB x0 x1 x2 hn3 hn3' hj3' hm3' BT3
        have hs4 := hide (held8 hs3.out hb4)
        have hx4 := hide (hx3.out.over hb4)
        have hy4 := hide (hy3.out.over hb4)
        have hu4 := hide (hu3.out.over hb4)
        clear hs3 hx3 hy3 hu3
        clear hb4
        obtain ⟨c0, c1, c2, c3, c4, c5, c6, c7, hB⟩ := hs4.out
        obtain ⟨y0, y1, y2⟩ := hy4.out
        go_wp2_with fail
        refine (KB.out _ _ hB y2).mono ?_
        rintro e v5 ⟨rfl, hb5⟩
        have hn5 := hide (hn4.out.over hb5)
        have hn5' := hide (hn4'.out.over hb5)
        have hj5' := hide (hj4'.out.over hb5)
        have hm5' := hide (hm4'.out.over hb5)
        have BT5 := hide (BT4.out.trans (hb5.mono BT4.out.size))
        clear c0 c1 c2 c3 c4 c5 c6 c7 hB y0 y1 y2 hn4 hn4' hj4' hm4' BT4
        have hs5 := hide (held8 hs4.out hb5)
        have hx5 := hide (hx4.out.over hb5)
        have hy5 := hide (hy4.out.over hb5)
        have hu5 := hide (hu4.out.over hb5)
        clear hs4 hx4 hy4 hu4
        clear hb5
        obtain ⟨x0, x1, x2⟩ := hn5.out
        obtain ⟨y0, y1, y2⟩ := hu5.out
        go_wp2_with fail
        refine (KI.out _ _ _ x2 y2).mono ?_
        rintro e v6 ⟨rfl, hb6⟩
        have hn6' := hide (hn5'.out.over hb6)
        have hj6' := hide (hj5'.out.over hb6)
        have hm6' := hide (hm5'.out.over hb6)
        have BT6 := hide (BT5.out.trans (hb6.mono BT5.out.size))
        have e1 := HFIN.out
        clear x0 x1 x2 y0 y1 y2 hn5 hn5' hj5' hm5' BT5 hb6 hs5 hx5 hy5 hu5
        obtain ⟨j0, j1, j2, j3⟩ := hj6'.out
        go_wp2_with fail
        refine (spoil_any wr.heap.size _ _ _ _ _ BT6.out.size hj1 hj2 j2 j3).mono ?_
        rintro e v7 ⟨rfl, ht7⟩
        have hm7' := hide (hm6'.out.turned ht7)
        have hn7' := hide (hn6'.out.turned ht7)
        have BT7 := hide (BT6.out.trans ht7.1)
        clear j0 j1 j2 j3 hj6' hm6' hn6' BT6 ht7
        obtain ⟨j0, j1, j2, j3⟩ := hm7'.out
        go_wp2_with fail
        refine (spoil_any wr.heap.size _ _ _ _ _ BT7.out.size hm1 hm2 j2 j3).mono ?_
        rintro e v8 ⟨rfl, ht8⟩
        have hn8' := hide (hn7'.out.turned ht8)
        have BT8 := hide (BT7.out.trans ht8.1)
        clear j0 j1 j2 j3 hm7' hn7' BT7 ht8
        obtain ⟨j0, j1, j2, j3⟩ := hn8'.out
        go_wp2_with fail
        refine (spoil_any wr.heap.size _ _ _ _ _ BT8.out.size HSM.out.1 HSM.out.2 j2 j3).mono ?_
        rintro e v9 ⟨rfl, ht9⟩
        have BT9 := BT8.out.trans ht9.1
        clear j0 j1 j2 j3 hn8' BT8 ht9
        have hfin := And.intro (held8 hR.out.1 BT9) (And.intro (hR.out.2.1.over BT9) (And.intro (hR.out.2.2.1.over BT9) (hR.out.2.2.2.over BT9)))
        have HFN := hide hfin
        clear hfin BT9 hR
        go_wp2_with fail
        exact ⟨⟨t + 1, by omega, by go_num, HFN.out⟩, by simp [intOf]; omega⟩
      · have ti : ¬ (t : Int) < 2 := by omega
        have hB := hs.2.2.2.2.2.2.2.2
        clear hs hx hy hu
        go_wp2_with fail
        go_ret
        exact ⟨rfl, hB⟩
end Go.Proofs.Ytekgnjifopgboaa

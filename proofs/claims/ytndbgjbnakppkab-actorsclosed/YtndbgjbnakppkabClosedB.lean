/- veilworklaw.ActorsClosed answers true where Check is fine: the walk. -/
import Derived.Test.YtndbgjbnakppkabClosedP
namespace Go.Proofs.Ytndbgjbnakppkab
open Go.RowKit
set_option linter.unusedVariables false

set_option maxRecDepth 100000 in
set_option maxHeartbeats 8000000 in
theorem closed_ok (n : Nat) (g0 g1 : Int) (v : Value) (gn : List (Nat × Nat)) (w : World) (h1 : 1 ≤ n) (hn : n ≤ 6) (hv : IsGrants w v (gn.map toI)) (hlen : gn.length ≤ 20) (hb : ∀ g ∈ gn, g.1 < n ∧ g.2 < n) (hE : chkErr n (gn.map toI) = 0) (hsh : v = .slice none 0 0 ∨ ∃ ad l c, v = .slice (some ad) l c) :
    Calls Try.prog 4 #[.agg #[.int .i64 n, v], .agg #[.int .i64 g0, .int .i64 g1]] w fun e w' => e = .returned (.bool true) ∧ Below w.heap.size w w' := by
  have KF := hide fun (W : World) (hW : Below w.heap.size w W) => for_ok n h1 hn v gn W (isGrants_over hv hW) hlen hb hE
  have HY := hide fun (i : Nat) (hi : i < n) (k : Nat) => acts_yes (gn := gn) (k := k) hi hb
  obtain ⟨gs, hgs⟩ : ∃ gs, gs = gn.map toI := ⟨_, rfl⟩
  have hlg : gs.length ≤ 20 := by rw [hgs]; simpa using hlen
  rw [← hgs] at hv
  have HV := hide hv
  have HGS := hide hgs
  have HB := hide hb
  have HSH := hide hsh
  clear hE hv hb hsh hgs
  have hs0 := clSt_box w n v g0 g1
  have HS0 := hide hs0
  obtain ⟨c0, c1, c2, c3, hB⟩ := hs0
  go_enter Try.func4, Try.ntmps4
  go_wp2_with fail
  refine (KF.out _ hB).mono ?_
  rintro e w1 ⟨ob, rfl, hr1, hb1⟩
  have HS1 := hide (HS0.out.over hb1)
  have HR1 := hide hr1
  clear KF c0 c1 c2 c3 hB hr1 hb1 HS0
  go_wp2_with fail
  refine (begun_any _).mono ?_
  rintro e w2 ⟨rfl, hb2⟩
  have HS := hide (HS1.out.over hb2)
  have HR := hide (rows_over HR1.out hb2)
  clear HS1 HR1 hb2
  go_wp2_with fail
  go_loopw [7] (fun a wr => ∃ k : Nat, k ≤ n ∧ a = .int .i64 k ∧ wr = w2) (fun a _ => n - (intOf a).toNat)
  case atStart => exact ⟨0, Nat.zero_le _, rfl, rfl⟩
  case round =>
    obtain ⟨k, hk, rfl, rfl⟩ := hrel
    by_cases hkn : k < n
    · go_wp2_with fail
      go_loopw [8] (fun a wr' => ∃ j : Nat, j ≤ n ∧ a = .int .i64 j ∧ wr' = wr) (fun a _ => n - (intOf a).toNat)
      case atStart => exact ⟨0, Nat.zero_le _, rfl, rfl⟩
      case round =>
        obtain ⟨j, hj, rfl, rfl⟩ := hrel
        by_cases hjn : j < n
        · go_wp2_with fail
          go_loopw [9] (fun a wr' => ∃ i : Nat, i ≤ n ∧ a = .int .i64 i ∧ wr' = wr) (fun a _ => n - (intOf a).toNat)
          case atStart => exact ⟨0, Nat.zero_le _, rfl, rfl⟩
          case round =>
            obtain ⟨i, hi, rfl, rfl⟩ := hrel
            by_cases hin : i < n
            · skip
              have hki : (acts gn n k)[k]?.getD false = true := acts_self gn hkn
              obtain ⟨ka, A0, A1⟩ := row_cells HR.out hkn hkn
              obtain ⟨kb, B0, B1⟩ := row_cells HR.out hkn hjn
              obtain ⟨kc, C0, C1⟩ := row_cells HR.out hjn hin
              obtain ⟨kd, D0, D1⟩ := row_cells HR.out hkn hin
              have hab : kb = ka := by rw [A0] at B0; simpa using B0.symm
              have had : kd = ka := by rw [A0] at D0; simpa using D0.symm
              subst hab had
              rw [hki] at A1
              have htr : (acts gn n k)[j]?.getD false = true → (acts gn n j)[i]?.getD false = true → (acts gn n k)[i]?.getD false = true := fun x y => (HY.out k hkn i).2 (reach_trans ((HY.out k hkn j).1 x) ((HY.out j hjn i).1 y))
              obtain ⟨b, hb'⟩ : ∃ r, r = (acts gn n k)[j]?.getD false := ⟨_, rfl⟩
              obtain ⟨c, hc'⟩ : ∃ r, r = (acts gn n j)[i]?.getD false := ⟨_, rfl⟩
              obtain ⟨d, hd'⟩ : ∃ r, r = (acts gn n k)[i]?.getD false := ⟨_, rfl⟩
              rw [← hb'] at B1 htr
              rw [← hc'] at C1 htr
              rw [← hd'] at D1 htr
              clear hb' hc' hd' hki B0 D0
              have hnn : ((n : Int) != n) = false := by simp
              cases b with
              | false =>
                clear htr C0 C1 D1
                go_wp2_with fail
                exact ⟨⟨i + 1, by omega, by go_num, by first | trivial | rfl⟩, by simp [intOf]; omega⟩
              | true =>
                cases c with
                | false =>
                  clear htr D1
                  go_wp2_with fail
                  exact ⟨⟨i + 1, by omega, by go_num, by first | trivial | rfl⟩, by simp [intOf]; omega⟩
                | true =>
                  have hdt := htr rfl rfl
                  rw [hdt] at D1
                  clear htr hdt
                  go_wp2_with fail
                  exact ⟨⟨i + 1, by omega, by go_num, by first | trivial | rfl⟩, by simp [intOf]; omega⟩
            · go_wp2_with fail
              exact ⟨⟨j + 1, by omega, by go_num, by first | trivial | rfl⟩, by simp [intOf]; omega⟩
        · go_wp2_with fail
          exact ⟨⟨k + 1, by omega, by go_num, by first | trivial | rfl⟩, by simp [intOf]; omega⟩
    · have hs := HS.out
      obtain ⟨c0, c1, c2, c3, hB⟩ := hs
      go_wp2_with fail
      have hz : w.heap.size + 1 < wr.heap.size := World.block_lt_of_cell? wr _ c2
      have S0 : HoldC w wr n v g0 g1 wr.drew := ⟨c0, c1, c2, c3, below_drewN (Below.refl _ _) 1⟩
      go_cut [10] from 90 to 99 (fun s10 wc => RelC wr n (gs ++ [(g0, g1)]) s10 wc)
      case first =>
        refine wp_region_held_drew (S := fun W => HoldC w wr n v g0 g1 W) (by kernel_rfl) S0 (fun hHeld => ?_)
        clear S0 c0 c1 c2 c3 HY HR HS HB
        refine wpAnyH_take (i := 0) (v := ?_) rfl (by kernel_rfl) (by kernel_rfl) (by kernel_rfl) (fun _ _ _ h => h) (Or.inl ⟨by rfl, fun w hSw => ?_⟩) hHeld ?_
        rotate_left
        · obtain ⟨y0, y1, y2, y3, -⟩ := hSw; go_simp; first | done | with_reducible rfl
        simp only [List.getElem_toArray, List.getElem_cons_zero, Act.put, List.setIfInBounds_toArray, List.set_cons_zero, List.set_cons_succ]
        refine wpAnyH_take (i := 1) (v := ?_) rfl (by kernel_rfl) (by kernel_rfl) (by kernel_rfl) (fun _ _ _ h => h) (Or.inl ⟨by rfl, fun w hSw => ?_⟩) hHeld ?_
        rotate_left
        · obtain ⟨y0, y1, y2, y3, -⟩ := hSw; go_simp; first | done | with_reducible rfl
        simp only [List.getElem_toArray, List.getElem_cons_succ, List.getElem_cons_zero, Act.put, List.setIfInBounds_toArray, List.set_cons_zero, List.set_cons_succ]
        refine wpAnyH_take (i := 3) (v := ?_) rfl (by kernel_rfl) (by kernel_rfl) (by kernel_rfl) (fun _ _ _ h => h) (Or.inl ⟨by rfl, fun w hSw => ?_⟩) hHeld ?_
        rotate_left
        · obtain ⟨y0, y1, y2, y3, -⟩ := hSw; go_simp; first | done | with_reducible rfl
        simp only [List.getElem_toArray, List.getElem_cons_succ, List.getElem_cons_zero, Act.put, List.setIfInBounds_toArray, List.set_cons_zero, List.set_cons_succ]
        refine wpAnyH_take (i := 4) (v := ?_) rfl (by kernel_rfl) (by kernel_rfl) (by kernel_rfl) (fun _ _ _ h => h) (Or.inl ⟨by rfl, fun w hSw => ?_⟩) hHeld ?_
        rotate_left
        · obtain ⟨y0, y1, y2, y3, -⟩ := hSw; go_simp; first | done | with_reducible rfl
        simp only [List.getElem_toArray, List.getElem_cons_succ, List.getElem_cons_zero, Act.put, List.setIfInBounds_toArray, List.set_cons_zero, List.set_cons_succ]
        refine wpAnyH_take (i := 6) (v := ?_) rfl (by kernel_rfl) (by kernel_rfl) (by kernel_rfl) (fun _ _ _ h => h) (Or.inl ⟨by rfl, fun w hSw => ?_⟩) hHeld ?_
        rotate_left
        · obtain ⟨y0, y1, y2, y3, -⟩ := hSw; go_simp; first | done | with_reducible rfl
        simp only [List.getElem_toArray, List.getElem_cons_succ, List.getElem_cons_zero, Act.put, List.setIfInBounds_toArray, List.set_cons_zero, List.set_cons_succ]
        generalize wr.drew = W0 at hHeld ⊢
        have hHeld0 := hHeld.2.2.2.2.size
        refine wpAnyH_ready (rs := [2, 7, 10]) (by kernel_rfl) (by simp) ?_
        refine AllReadyH.cons rfl (fun K hK => ?_) (AllReadyH.cons rfl (fun K hK => ?_) (AllReadyH.cons rfl (fun K hK => ?_) AllReadyH.nil))
        · go_simp
          refine hK.out _ _ (hHeld.alloc hz _) (fun hHeld => ?_)
          clear hK K
          have F92 := own_empty W0 wr.heap.size hHeld0
          generalize W0.alloc (.cells #[] 37) = W1 at hHeld F92 ⊢
          have hHeld0 := hHeld.2.2.2.2.size
          refine wpAnyH_ready (rs := [5, 7, 10]) (by kernel_rfl) (by simp) ?_
          refine AllReadyH.cons rfl (fun K hK => ?_) (AllReadyH.cons rfl (fun K hK => ?_) (AllReadyH.cons rfl (fun K hK => ?_) AllReadyH.nil))
          · refine step_app1 rfl rfl wr.heap.size _ v gs rfl rfl F92 (isGrants_over HV.out (hB.trans (hHeld.2.2.2.2.mono hB.size))) HSH.out hlg hHeld0 ?_
            intro v5 W2 F95 hg5 hv5
            refine hK.out _ _ (hHeld.grown hz hg5 (own_block F92).1) (fun hHeld => ?_)
            clear hK K
            obtain ⟨g5, cap5, rfl⟩ := (own_some F95).resolve_left hv5
            clear F92 hg5 hv5
            simp only [List.getElem_toArray, List.getElem_cons_succ, List.getElem_cons_zero, Act.put, List.setIfInBounds_toArray, List.set_cons_zero, List.set_cons_succ]
            have hHeld0 := hHeld.2.2.2.2.size
            refine wpAnyH_ready (rs := [7, 10]) (by kernel_rfl) (by simp) ?_
            refine AllReadyH.cons rfl (fun K hK => ?_) (AllReadyH.cons rfl (fun K hK => ?_) AllReadyH.nil)
            · go_simp
              refine hK.out _ _ (hHeld.alloc hz _) (fun hHeld => ?_)
              clear hK K
              have F95 := own_alloc F95 (.cells #[.int .i64 g0, .int .i64 g1] 37)
              have F97 := blk_new W2 (.cells #[.int .i64 g0, .int .i64 g1] 37)
              generalize W2.alloc (.cells #[.int .i64 g0, .int .i64 g1] 37) = W3 at hHeld F95 F97 ⊢
              have hHeld0 := hHeld.2.2.2.2.size
              refine wpAnyH_ready (rs := [8, 10]) (by kernel_rfl) (by simp) ?_
              refine AllReadyH.cons rfl (fun K hK => ?_) (AllReadyH.cons rfl (fun K hK => ?_) AllReadyH.nil)
              · refine step_app2 rfl rfl wr.heap.size _ _ g0 g1 gs rfl rfl F95 F97 hlg hHeld0 ?_
                intro v8 W4 F98 hg8
                refine hK.out _ _ (hHeld.grown hz hg8 (own_block F95).1) (fun hHeld => ?_)
                clear hK K
                clear F95 F97 hg8
                obtain ⟨g8, cap8, rfl⟩ := own_pos F98
                simp only [List.getElem_toArray, List.getElem_cons_succ, List.getElem_cons_zero, Act.put, List.setIfInBounds_toArray, List.set_cons_zero, List.set_cons_succ]
                refine wpAnyH_take (i := 9) (v := ?_) rfl (by kernel_rfl) (by kernel_rfl) (by kernel_rfl) (fun _ _ _ h => h) (Or.inl ⟨by rfl, fun w hSw => ?_⟩) hHeld ?_
                rotate_left
                · go_simp; first | done | with_reducible rfl
                simp only [List.getElem_toArray, List.getElem_cons_succ, List.getElem_cons_zero, Act.put, List.setIfInBounds_toArray, List.set_cons_zero, List.set_cons_succ]
                have hHeld0 := hHeld.2.2.2.2.size
                refine wpAnyH_ready (rs := [10]) (by kernel_rfl) (by simp) ?_
                refine AllReadyH.cons rfl (fun K hK => ?_) AllReadyH.nil
                · go_simp
                  refine hK.out _ _ (hHeld.alloc hz _) (fun hHeld => ?_)
                  clear hK K
                  have F98 := own_alloc F98 (.cells #[.int .i64 0, .slice none 0 0] 24)
                  have F10 := blk_new W4 (.cells #[.int .i64 0, .slice none 0 0] 24)
                  have hb10 := hHeld0
                  generalize W4.alloc (.cells #[.int .i64 0, .slice none 0 0] 24) = W5 at hHeld F98 F10 ⊢
                  have hHeld0 := hHeld.2.2.2.2.size
                  refine wpAnyH_ready (rs := [11]) (by kernel_rfl) (by simp) ?_
                  refine AllReadyH.cons rfl (fun K hK => ?_) AllReadyH.nil
                  · obtain ⟨x0, x1, x2, x3⟩ := two_cells F10
                    have hrel := rel_old hHeld F98 F10 hb10
                    go_simp
                    refine hK.out _ _ ((hHeld.setCell hz hb10 _).setCell hz hb10 _) (fun hHeld => ?_)
                    clear hK K
                    refine wpAnyH_done (by kernel_rfl) ?_ _
                    go_wp2_with fail
                    go_meet
                    exact hrel
              · go_simp
                refine hK.out _ _ (hHeld.alloc hz _) (fun hHeld => ?_)
                clear hK K
                have F97 := blk_alloc (o' := (.cells #[.int .i64 0, .slice none 0 0] 24)) F97
                have F95 := own_alloc F95 (.cells #[.int .i64 0, .slice none 0 0] 24)
                have F10 := blk_new W3 (.cells #[.int .i64 0, .slice none 0 0] 24)
                have hb10 := hHeld0
                generalize W3.alloc (.cells #[.int .i64 0, .slice none 0 0] 24) = W4 at hHeld F97 F95 F10 ⊢
                have hHeld0 := hHeld.2.2.2.2.size
                refine wpAnyH_ready (rs := [8]) (by kernel_rfl) (by simp) ?_
                refine AllReadyH.cons rfl (fun K hK => ?_) AllReadyH.nil
                · refine step_app2 rfl rfl wr.heap.size _ _ g0 g1 gs rfl rfl F95 F97 hlg hHeld0 ?_
                  intro v8 W5 F98 hg8
                  refine hK.out _ _ (hHeld.grown hz hg8 (own_block F95).1) (fun hHeld => ?_)
                  clear hK K
                  have F10 := blk_keep F10 hg8 (ne_ten F95 F10)
                  clear F95 F97 hg8
                  obtain ⟨g8, cap8, rfl⟩ := own_pos F98
                  simp only [List.getElem_toArray, List.getElem_cons_succ, List.getElem_cons_zero, Act.put, List.setIfInBounds_toArray, List.set_cons_zero, List.set_cons_succ]
                  refine wpAnyH_take (i := 9) (v := ?_) rfl (by kernel_rfl) (by kernel_rfl) (by kernel_rfl) (fun _ _ _ h => h) (Or.inl ⟨by rfl, fun w hSw => ?_⟩) hHeld ?_
                  rotate_left
                  · go_simp; first | done | with_reducible rfl
                  simp only [List.getElem_toArray, List.getElem_cons_succ, List.getElem_cons_zero, Act.put, List.setIfInBounds_toArray, List.set_cons_zero, List.set_cons_succ]
                  have hHeld0 := hHeld.2.2.2.2.size
                  refine wpAnyH_ready (rs := [11]) (by kernel_rfl) (by simp) ?_
                  refine AllReadyH.cons rfl (fun K hK => ?_) AllReadyH.nil
                  · obtain ⟨x0, x1, x2, x3⟩ := two_cells F10
                    have hrel := rel_old hHeld F98 F10 hb10
                    go_simp
                    refine hK.out _ _ ((hHeld.setCell hz hb10 _).setCell hz hb10 _) (fun hHeld => ?_)
                    clear hK K
                    refine wpAnyH_done (by kernel_rfl) ?_ _
                    go_wp2_with fail
                    go_meet
                    exact hrel
            · go_simp
              refine hK.out _ _ (hHeld.alloc hz _) (fun hHeld => ?_)
              clear hK K
              have F95 := own_alloc F95 (.cells #[.int .i64 0, .slice none 0 0] 24)
              have F10 := blk_new W2 (.cells #[.int .i64 0, .slice none 0 0] 24)
              have hb10 := hHeld0
              generalize W2.alloc (.cells #[.int .i64 0, .slice none 0 0] 24) = W3 at hHeld F95 F10 ⊢
              have hHeld0 := hHeld.2.2.2.2.size
              refine wpAnyH_ready (rs := [7]) (by kernel_rfl) (by simp) ?_
              refine AllReadyH.cons rfl (fun K hK => ?_) AllReadyH.nil
              · go_simp
                refine hK.out _ _ (hHeld.alloc hz _) (fun hHeld => ?_)
                clear hK K
                have F10 := blk_alloc (o' := (.cells #[.int .i64 g0, .int .i64 g1] 37)) F10
                have F95 := own_alloc F95 (.cells #[.int .i64 g0, .int .i64 g1] 37)
                have F97 := blk_new W3 (.cells #[.int .i64 g0, .int .i64 g1] 37)
                generalize W3.alloc (.cells #[.int .i64 g0, .int .i64 g1] 37) = W4 at hHeld F10 F95 F97 ⊢
                have hHeld0 := hHeld.2.2.2.2.size
                refine wpAnyH_ready (rs := [8]) (by kernel_rfl) (by simp) ?_
                refine AllReadyH.cons rfl (fun K hK => ?_) AllReadyH.nil
                · refine step_app2 rfl rfl wr.heap.size _ _ g0 g1 gs rfl rfl F95 F97 hlg hHeld0 ?_
                  intro v8 W5 F98 hg8
                  refine hK.out _ _ (hHeld.grown hz hg8 (own_block F95).1) (fun hHeld => ?_)
                  clear hK K
                  have F10 := blk_keep F10 hg8 (ne_ten F95 F10)
                  clear F95 F97 hg8
                  obtain ⟨g8, cap8, rfl⟩ := own_pos F98
                  simp only [List.getElem_toArray, List.getElem_cons_succ, List.getElem_cons_zero, Act.put, List.setIfInBounds_toArray, List.set_cons_zero, List.set_cons_succ]
                  refine wpAnyH_take (i := 9) (v := ?_) rfl (by kernel_rfl) (by kernel_rfl) (by kernel_rfl) (fun _ _ _ h => h) (Or.inl ⟨by rfl, fun w hSw => ?_⟩) hHeld ?_
                  rotate_left
                  · go_simp; first | done | with_reducible rfl
                  simp only [List.getElem_toArray, List.getElem_cons_succ, List.getElem_cons_zero, Act.put, List.setIfInBounds_toArray, List.set_cons_zero, List.set_cons_succ]
                  have hHeld0 := hHeld.2.2.2.2.size
                  refine wpAnyH_ready (rs := [11]) (by kernel_rfl) (by simp) ?_
                  refine AllReadyH.cons rfl (fun K hK => ?_) AllReadyH.nil
                  · obtain ⟨x0, x1, x2, x3⟩ := two_cells F10
                    have hrel := rel_old hHeld F98 F10 hb10
                    go_simp
                    refine hK.out _ _ ((hHeld.setCell hz hb10 _).setCell hz hb10 _) (fun hHeld => ?_)
                    clear hK K
                    refine wpAnyH_done (by kernel_rfl) ?_ _
                    go_wp2_with fail
                    go_meet
                    exact hrel
          · go_simp
            refine hK.out _ _ (hHeld.alloc hz _) (fun hHeld => ?_)
            clear hK K
            have F92 := own_alloc F92 (.cells #[.int .i64 g0, .int .i64 g1] 37)
            have F97 := blk_new W1 (.cells #[.int .i64 g0, .int .i64 g1] 37)
            generalize W1.alloc (.cells #[.int .i64 g0, .int .i64 g1] 37) = W2 at hHeld F92 F97 ⊢
            have hHeld0 := hHeld.2.2.2.2.size
            refine wpAnyH_ready (rs := [5, 10]) (by kernel_rfl) (by simp) ?_
            refine AllReadyH.cons rfl (fun K hK => ?_) (AllReadyH.cons rfl (fun K hK => ?_) AllReadyH.nil)
            · refine step_app1 rfl rfl wr.heap.size _ v gs rfl rfl F92 (isGrants_over HV.out (hB.trans (hHeld.2.2.2.2.mono hB.size))) HSH.out hlg hHeld0 ?_
              intro v5 W3 F95 hg5 hv5
              refine hK.out _ _ (hHeld.grown hz hg5 (own_block F92).1) (fun hHeld => ?_)
              clear hK K
              have F97 := blk_keep F97 hg5 (ne_one F92 F97)
              obtain ⟨g5, cap5, rfl⟩ := (own_some F95).resolve_left hv5
              clear F92 hg5 hv5
              simp only [List.getElem_toArray, List.getElem_cons_succ, List.getElem_cons_zero, Act.put, List.setIfInBounds_toArray, List.set_cons_zero, List.set_cons_succ]
              have hHeld0 := hHeld.2.2.2.2.size
              refine wpAnyH_ready (rs := [8, 10]) (by kernel_rfl) (by simp) ?_
              refine AllReadyH.cons rfl (fun K hK => ?_) (AllReadyH.cons rfl (fun K hK => ?_) AllReadyH.nil)
              · refine step_app2 rfl rfl wr.heap.size _ _ g0 g1 gs rfl rfl F95 F97 hlg hHeld0 ?_
                intro v8 W4 F98 hg8
                refine hK.out _ _ (hHeld.grown hz hg8 (own_block F95).1) (fun hHeld => ?_)
                clear hK K
                clear F95 F97 hg8
                obtain ⟨g8, cap8, rfl⟩ := own_pos F98
                simp only [List.getElem_toArray, List.getElem_cons_succ, List.getElem_cons_zero, Act.put, List.setIfInBounds_toArray, List.set_cons_zero, List.set_cons_succ]
                refine wpAnyH_take (i := 9) (v := ?_) rfl (by kernel_rfl) (by kernel_rfl) (by kernel_rfl) (fun _ _ _ h => h) (Or.inl ⟨by rfl, fun w hSw => ?_⟩) hHeld ?_
                rotate_left
                · go_simp; first | done | with_reducible rfl
                simp only [List.getElem_toArray, List.getElem_cons_succ, List.getElem_cons_zero, Act.put, List.setIfInBounds_toArray, List.set_cons_zero, List.set_cons_succ]
                have hHeld0 := hHeld.2.2.2.2.size
                refine wpAnyH_ready (rs := [10]) (by kernel_rfl) (by simp) ?_
                refine AllReadyH.cons rfl (fun K hK => ?_) AllReadyH.nil
                · go_simp
                  refine hK.out _ _ (hHeld.alloc hz _) (fun hHeld => ?_)
                  clear hK K
                  have F98 := own_alloc F98 (.cells #[.int .i64 0, .slice none 0 0] 24)
                  have F10 := blk_new W4 (.cells #[.int .i64 0, .slice none 0 0] 24)
                  have hb10 := hHeld0
                  generalize W4.alloc (.cells #[.int .i64 0, .slice none 0 0] 24) = W5 at hHeld F98 F10 ⊢
                  have hHeld0 := hHeld.2.2.2.2.size
                  refine wpAnyH_ready (rs := [11]) (by kernel_rfl) (by simp) ?_
                  refine AllReadyH.cons rfl (fun K hK => ?_) AllReadyH.nil
                  · obtain ⟨x0, x1, x2, x3⟩ := two_cells F10
                    have hrel := rel_old hHeld F98 F10 hb10
                    go_simp
                    refine hK.out _ _ ((hHeld.setCell hz hb10 _).setCell hz hb10 _) (fun hHeld => ?_)
                    clear hK K
                    refine wpAnyH_done (by kernel_rfl) ?_ _
                    go_wp2_with fail
                    go_meet
                    exact hrel
              · go_simp
                refine hK.out _ _ (hHeld.alloc hz _) (fun hHeld => ?_)
                clear hK K
                have F97 := blk_alloc (o' := (.cells #[.int .i64 0, .slice none 0 0] 24)) F97
                have F95 := own_alloc F95 (.cells #[.int .i64 0, .slice none 0 0] 24)
                have F10 := blk_new W3 (.cells #[.int .i64 0, .slice none 0 0] 24)
                have hb10 := hHeld0
                generalize W3.alloc (.cells #[.int .i64 0, .slice none 0 0] 24) = W4 at hHeld F97 F95 F10 ⊢
                have hHeld0 := hHeld.2.2.2.2.size
                refine wpAnyH_ready (rs := [8]) (by kernel_rfl) (by simp) ?_
                refine AllReadyH.cons rfl (fun K hK => ?_) AllReadyH.nil
                · refine step_app2 rfl rfl wr.heap.size _ _ g0 g1 gs rfl rfl F95 F97 hlg hHeld0 ?_
                  intro v8 W5 F98 hg8
                  refine hK.out _ _ (hHeld.grown hz hg8 (own_block F95).1) (fun hHeld => ?_)
                  clear hK K
                  have F10 := blk_keep F10 hg8 (ne_ten F95 F10)
                  clear F95 F97 hg8
                  obtain ⟨g8, cap8, rfl⟩ := own_pos F98
                  simp only [List.getElem_toArray, List.getElem_cons_succ, List.getElem_cons_zero, Act.put, List.setIfInBounds_toArray, List.set_cons_zero, List.set_cons_succ]
                  refine wpAnyH_take (i := 9) (v := ?_) rfl (by kernel_rfl) (by kernel_rfl) (by kernel_rfl) (fun _ _ _ h => h) (Or.inl ⟨by rfl, fun w hSw => ?_⟩) hHeld ?_
                  rotate_left
                  · go_simp; first | done | with_reducible rfl
                  simp only [List.getElem_toArray, List.getElem_cons_succ, List.getElem_cons_zero, Act.put, List.setIfInBounds_toArray, List.set_cons_zero, List.set_cons_succ]
                  have hHeld0 := hHeld.2.2.2.2.size
                  refine wpAnyH_ready (rs := [11]) (by kernel_rfl) (by simp) ?_
                  refine AllReadyH.cons rfl (fun K hK => ?_) AllReadyH.nil
                  · obtain ⟨x0, x1, x2, x3⟩ := two_cells F10
                    have hrel := rel_old hHeld F98 F10 hb10
                    go_simp
                    refine hK.out _ _ ((hHeld.setCell hz hb10 _).setCell hz hb10 _) (fun hHeld => ?_)
                    clear hK K
                    refine wpAnyH_done (by kernel_rfl) ?_ _
                    go_wp2_with fail
                    go_meet
                    exact hrel
            · go_simp
              refine hK.out _ _ (hHeld.alloc hz _) (fun hHeld => ?_)
              clear hK K
              have F92 := own_alloc F92 (.cells #[.int .i64 0, .slice none 0 0] 24)
              have F97 := blk_alloc (o' := (.cells #[.int .i64 0, .slice none 0 0] 24)) F97
              have F10 := blk_new W2 (.cells #[.int .i64 0, .slice none 0 0] 24)
              have hb10 := hHeld0
              generalize W2.alloc (.cells #[.int .i64 0, .slice none 0 0] 24) = W3 at hHeld F92 F97 F10 ⊢
              have hHeld0 := hHeld.2.2.2.2.size
              refine wpAnyH_ready (rs := [5]) (by kernel_rfl) (by simp) ?_
              refine AllReadyH.cons rfl (fun K hK => ?_) AllReadyH.nil
              · refine step_app1 rfl rfl wr.heap.size _ v gs rfl rfl F92 (isGrants_over HV.out (hB.trans (hHeld.2.2.2.2.mono hB.size))) HSH.out hlg hHeld0 ?_
                intro v5 W4 F95 hg5 hv5
                refine hK.out _ _ (hHeld.grown hz hg5 (own_block F92).1) (fun hHeld => ?_)
                clear hK K
                have F97 := blk_keep F97 hg5 (ne_one F92 F97)
                have F10 := blk_keep F10 hg5 (ne_ten F92 F10)
                obtain ⟨g5, cap5, rfl⟩ := (own_some F95).resolve_left hv5
                clear F92 hg5 hv5
                simp only [List.getElem_toArray, List.getElem_cons_succ, List.getElem_cons_zero, Act.put, List.setIfInBounds_toArray, List.set_cons_zero, List.set_cons_succ]
                have hHeld0 := hHeld.2.2.2.2.size
                refine wpAnyH_ready (rs := [8]) (by kernel_rfl) (by simp) ?_
                refine AllReadyH.cons rfl (fun K hK => ?_) AllReadyH.nil
                · refine step_app2 rfl rfl wr.heap.size _ _ g0 g1 gs rfl rfl F95 F97 hlg hHeld0 ?_
                  intro v8 W5 F98 hg8
                  refine hK.out _ _ (hHeld.grown hz hg8 (own_block F95).1) (fun hHeld => ?_)
                  clear hK K
                  have F10 := blk_keep F10 hg8 (ne_ten F95 F10)
                  clear F95 F97 hg8
                  obtain ⟨g8, cap8, rfl⟩ := own_pos F98
                  simp only [List.getElem_toArray, List.getElem_cons_succ, List.getElem_cons_zero, Act.put, List.setIfInBounds_toArray, List.set_cons_zero, List.set_cons_succ]
                  refine wpAnyH_take (i := 9) (v := ?_) rfl (by kernel_rfl) (by kernel_rfl) (by kernel_rfl) (fun _ _ _ h => h) (Or.inl ⟨by rfl, fun w hSw => ?_⟩) hHeld ?_
                  rotate_left
                  · go_simp; first | done | with_reducible rfl
                  simp only [List.getElem_toArray, List.getElem_cons_succ, List.getElem_cons_zero, Act.put, List.setIfInBounds_toArray, List.set_cons_zero, List.set_cons_succ]
                  have hHeld0 := hHeld.2.2.2.2.size
                  refine wpAnyH_ready (rs := [11]) (by kernel_rfl) (by simp) ?_
                  refine AllReadyH.cons rfl (fun K hK => ?_) AllReadyH.nil
                  · obtain ⟨x0, x1, x2, x3⟩ := two_cells F10
                    have hrel := rel_old hHeld F98 F10 hb10
                    go_simp
                    refine hK.out _ _ ((hHeld.setCell hz hb10 _).setCell hz hb10 _) (fun hHeld => ?_)
                    clear hK K
                    refine wpAnyH_done (by kernel_rfl) ?_ _
                    go_wp2_with fail
                    go_meet
                    exact hrel
          · go_simp
            refine hK.out _ _ (hHeld.alloc hz _) (fun hHeld => ?_)
            clear hK K
            have F92 := own_alloc F92 (.cells #[.int .i64 0, .slice none 0 0] 24)
            have F10 := blk_new W1 (.cells #[.int .i64 0, .slice none 0 0] 24)
            have hb10 := hHeld0
            generalize W1.alloc (.cells #[.int .i64 0, .slice none 0 0] 24) = W2 at hHeld F92 F10 ⊢
            have hHeld0 := hHeld.2.2.2.2.size
            refine wpAnyH_ready (rs := [5, 7]) (by kernel_rfl) (by simp) ?_
            refine AllReadyH.cons rfl (fun K hK => ?_) (AllReadyH.cons rfl (fun K hK => ?_) AllReadyH.nil)
            · refine step_app1 rfl rfl wr.heap.size _ v gs rfl rfl F92 (isGrants_over HV.out (hB.trans (hHeld.2.2.2.2.mono hB.size))) HSH.out hlg hHeld0 ?_
              intro v5 W3 F95 hg5 hv5
              refine hK.out _ _ (hHeld.grown hz hg5 (own_block F92).1) (fun hHeld => ?_)
              clear hK K
              have F10 := blk_keep F10 hg5 (ne_ten F92 F10)
              obtain ⟨g5, cap5, rfl⟩ := (own_some F95).resolve_left hv5
              clear F92 hg5 hv5
              simp only [List.getElem_toArray, List.getElem_cons_succ, List.getElem_cons_zero, Act.put, List.setIfInBounds_toArray, List.set_cons_zero, List.set_cons_succ]
              have hHeld0 := hHeld.2.2.2.2.size
              refine wpAnyH_ready (rs := [7]) (by kernel_rfl) (by simp) ?_
              refine AllReadyH.cons rfl (fun K hK => ?_) AllReadyH.nil
              · go_simp
                refine hK.out _ _ (hHeld.alloc hz _) (fun hHeld => ?_)
                clear hK K
                have F10 := blk_alloc (o' := (.cells #[.int .i64 g0, .int .i64 g1] 37)) F10
                have F95 := own_alloc F95 (.cells #[.int .i64 g0, .int .i64 g1] 37)
                have F97 := blk_new W3 (.cells #[.int .i64 g0, .int .i64 g1] 37)
                generalize W3.alloc (.cells #[.int .i64 g0, .int .i64 g1] 37) = W4 at hHeld F10 F95 F97 ⊢
                have hHeld0 := hHeld.2.2.2.2.size
                refine wpAnyH_ready (rs := [8]) (by kernel_rfl) (by simp) ?_
                refine AllReadyH.cons rfl (fun K hK => ?_) AllReadyH.nil
                · refine step_app2 rfl rfl wr.heap.size _ _ g0 g1 gs rfl rfl F95 F97 hlg hHeld0 ?_
                  intro v8 W5 F98 hg8
                  refine hK.out _ _ (hHeld.grown hz hg8 (own_block F95).1) (fun hHeld => ?_)
                  clear hK K
                  have F10 := blk_keep F10 hg8 (ne_ten F95 F10)
                  clear F95 F97 hg8
                  obtain ⟨g8, cap8, rfl⟩ := own_pos F98
                  simp only [List.getElem_toArray, List.getElem_cons_succ, List.getElem_cons_zero, Act.put, List.setIfInBounds_toArray, List.set_cons_zero, List.set_cons_succ]
                  refine wpAnyH_take (i := 9) (v := ?_) rfl (by kernel_rfl) (by kernel_rfl) (by kernel_rfl) (fun _ _ _ h => h) (Or.inl ⟨by rfl, fun w hSw => ?_⟩) hHeld ?_
                  rotate_left
                  · go_simp; first | done | with_reducible rfl
                  simp only [List.getElem_toArray, List.getElem_cons_succ, List.getElem_cons_zero, Act.put, List.setIfInBounds_toArray, List.set_cons_zero, List.set_cons_succ]
                  have hHeld0 := hHeld.2.2.2.2.size
                  refine wpAnyH_ready (rs := [11]) (by kernel_rfl) (by simp) ?_
                  refine AllReadyH.cons rfl (fun K hK => ?_) AllReadyH.nil
                  · obtain ⟨x0, x1, x2, x3⟩ := two_cells F10
                    have hrel := rel_old hHeld F98 F10 hb10
                    go_simp
                    refine hK.out _ _ ((hHeld.setCell hz hb10 _).setCell hz hb10 _) (fun hHeld => ?_)
                    clear hK K
                    refine wpAnyH_done (by kernel_rfl) ?_ _
                    go_wp2_with fail
                    go_meet
                    exact hrel
            · go_simp
              refine hK.out _ _ (hHeld.alloc hz _) (fun hHeld => ?_)
              clear hK K
              have F92 := own_alloc F92 (.cells #[.int .i64 g0, .int .i64 g1] 37)
              have F10 := blk_alloc (o' := (.cells #[.int .i64 g0, .int .i64 g1] 37)) F10
              have F97 := blk_new W2 (.cells #[.int .i64 g0, .int .i64 g1] 37)
              generalize W2.alloc (.cells #[.int .i64 g0, .int .i64 g1] 37) = W3 at hHeld F92 F10 F97 ⊢
              have hHeld0 := hHeld.2.2.2.2.size
              refine wpAnyH_ready (rs := [5]) (by kernel_rfl) (by simp) ?_
              refine AllReadyH.cons rfl (fun K hK => ?_) AllReadyH.nil
              · refine step_app1 rfl rfl wr.heap.size _ v gs rfl rfl F92 (isGrants_over HV.out (hB.trans (hHeld.2.2.2.2.mono hB.size))) HSH.out hlg hHeld0 ?_
                intro v5 W4 F95 hg5 hv5
                refine hK.out _ _ (hHeld.grown hz hg5 (own_block F92).1) (fun hHeld => ?_)
                clear hK K
                have F97 := blk_keep F97 hg5 (ne_one F92 F97)
                have F10 := blk_keep F10 hg5 (ne_ten F92 F10)
                obtain ⟨g5, cap5, rfl⟩ := (own_some F95).resolve_left hv5
                clear F92 hg5 hv5
                simp only [List.getElem_toArray, List.getElem_cons_succ, List.getElem_cons_zero, Act.put, List.setIfInBounds_toArray, List.set_cons_zero, List.set_cons_succ]
                have hHeld0 := hHeld.2.2.2.2.size
                refine wpAnyH_ready (rs := [8]) (by kernel_rfl) (by simp) ?_
                refine AllReadyH.cons rfl (fun K hK => ?_) AllReadyH.nil
                · refine step_app2 rfl rfl wr.heap.size _ _ g0 g1 gs rfl rfl F95 F97 hlg hHeld0 ?_
                  intro v8 W5 F98 hg8
                  refine hK.out _ _ (hHeld.grown hz hg8 (own_block F95).1) (fun hHeld => ?_)
                  clear hK K
                  have F10 := blk_keep F10 hg8 (ne_ten F95 F10)
                  clear F95 F97 hg8
                  obtain ⟨g8, cap8, rfl⟩ := own_pos F98
                  simp only [List.getElem_toArray, List.getElem_cons_succ, List.getElem_cons_zero, Act.put, List.setIfInBounds_toArray, List.set_cons_zero, List.set_cons_succ]
                  refine wpAnyH_take (i := 9) (v := ?_) rfl (by kernel_rfl) (by kernel_rfl) (by kernel_rfl) (fun _ _ _ h => h) (Or.inl ⟨by rfl, fun w hSw => ?_⟩) hHeld ?_
                  rotate_left
                  · go_simp; first | done | with_reducible rfl
                  simp only [List.getElem_toArray, List.getElem_cons_succ, List.getElem_cons_zero, Act.put, List.setIfInBounds_toArray, List.set_cons_zero, List.set_cons_succ]
                  have hHeld0 := hHeld.2.2.2.2.size
                  refine wpAnyH_ready (rs := [11]) (by kernel_rfl) (by simp) ?_
                  refine AllReadyH.cons rfl (fun K hK => ?_) AllReadyH.nil
                  · obtain ⟨x0, x1, x2, x3⟩ := two_cells F10
                    have hrel := rel_old hHeld F98 F10 hb10
                    go_simp
                    refine hK.out _ _ ((hHeld.setCell hz hb10 _).setCell hz hb10 _) (fun hHeld => ?_)
                    clear hK K
                    refine wpAnyH_done (by kernel_rfl) ?_ _
                    go_wp2_with fail
                    go_meet
                    exact hrel
        · go_simp
          refine hK.out _ _ (hHeld.alloc hz _) (fun hHeld => ?_)
          clear hK K
          have F97 := blk_new W0 (.cells #[.int .i64 g0, .int .i64 g1] 37)
          generalize W0.alloc (.cells #[.int .i64 g0, .int .i64 g1] 37) = W1 at hHeld F97 ⊢
          have hHeld0 := hHeld.2.2.2.2.size
          refine wpAnyH_ready (rs := [2, 10]) (by kernel_rfl) (by simp) ?_
          refine AllReadyH.cons rfl (fun K hK => ?_) (AllReadyH.cons rfl (fun K hK => ?_) AllReadyH.nil)
          · go_simp
            refine hK.out _ _ (hHeld.alloc hz _) (fun hHeld => ?_)
            clear hK K
            have F97 := blk_alloc (o' := (.cells #[] 37)) F97
            have F92 := own_empty W1 wr.heap.size hHeld0
            generalize W1.alloc (.cells #[] 37) = W2 at hHeld F97 F92 ⊢
            have hHeld0 := hHeld.2.2.2.2.size
            refine wpAnyH_ready (rs := [5, 10]) (by kernel_rfl) (by simp) ?_
            refine AllReadyH.cons rfl (fun K hK => ?_) (AllReadyH.cons rfl (fun K hK => ?_) AllReadyH.nil)
            · refine step_app1 rfl rfl wr.heap.size _ v gs rfl rfl F92 (isGrants_over HV.out (hB.trans (hHeld.2.2.2.2.mono hB.size))) HSH.out hlg hHeld0 ?_
              intro v5 W3 F95 hg5 hv5
              refine hK.out _ _ (hHeld.grown hz hg5 (own_block F92).1) (fun hHeld => ?_)
              clear hK K
              have F97 := blk_keep F97 hg5 (ne_one F92 F97)
              obtain ⟨g5, cap5, rfl⟩ := (own_some F95).resolve_left hv5
              clear F92 hg5 hv5
              simp only [List.getElem_toArray, List.getElem_cons_succ, List.getElem_cons_zero, Act.put, List.setIfInBounds_toArray, List.set_cons_zero, List.set_cons_succ]
              have hHeld0 := hHeld.2.2.2.2.size
              refine wpAnyH_ready (rs := [8, 10]) (by kernel_rfl) (by simp) ?_
              refine AllReadyH.cons rfl (fun K hK => ?_) (AllReadyH.cons rfl (fun K hK => ?_) AllReadyH.nil)
              · refine step_app2 rfl rfl wr.heap.size _ _ g0 g1 gs rfl rfl F95 F97 hlg hHeld0 ?_
                intro v8 W4 F98 hg8
                refine hK.out _ _ (hHeld.grown hz hg8 (own_block F95).1) (fun hHeld => ?_)
                clear hK K
                clear F95 F97 hg8
                obtain ⟨g8, cap8, rfl⟩ := own_pos F98
                simp only [List.getElem_toArray, List.getElem_cons_succ, List.getElem_cons_zero, Act.put, List.setIfInBounds_toArray, List.set_cons_zero, List.set_cons_succ]
                refine wpAnyH_take (i := 9) (v := ?_) rfl (by kernel_rfl) (by kernel_rfl) (by kernel_rfl) (fun _ _ _ h => h) (Or.inl ⟨by rfl, fun w hSw => ?_⟩) hHeld ?_
                rotate_left
                · go_simp; first | done | with_reducible rfl
                simp only [List.getElem_toArray, List.getElem_cons_succ, List.getElem_cons_zero, Act.put, List.setIfInBounds_toArray, List.set_cons_zero, List.set_cons_succ]
                have hHeld0 := hHeld.2.2.2.2.size
                refine wpAnyH_ready (rs := [10]) (by kernel_rfl) (by simp) ?_
                refine AllReadyH.cons rfl (fun K hK => ?_) AllReadyH.nil
                · go_simp
                  refine hK.out _ _ (hHeld.alloc hz _) (fun hHeld => ?_)
                  clear hK K
                  have F98 := own_alloc F98 (.cells #[.int .i64 0, .slice none 0 0] 24)
                  have F10 := blk_new W4 (.cells #[.int .i64 0, .slice none 0 0] 24)
                  have hb10 := hHeld0
                  generalize W4.alloc (.cells #[.int .i64 0, .slice none 0 0] 24) = W5 at hHeld F98 F10 ⊢
                  have hHeld0 := hHeld.2.2.2.2.size
                  refine wpAnyH_ready (rs := [11]) (by kernel_rfl) (by simp) ?_
                  refine AllReadyH.cons rfl (fun K hK => ?_) AllReadyH.nil
                  · obtain ⟨x0, x1, x2, x3⟩ := two_cells F10
                    have hrel := rel_old hHeld F98 F10 hb10
                    go_simp
                    refine hK.out _ _ ((hHeld.setCell hz hb10 _).setCell hz hb10 _) (fun hHeld => ?_)
                    clear hK K
                    refine wpAnyH_done (by kernel_rfl) ?_ _
                    go_wp2_with fail
                    go_meet
                    exact hrel
              · go_simp
                refine hK.out _ _ (hHeld.alloc hz _) (fun hHeld => ?_)
                clear hK K
                have F97 := blk_alloc (o' := (.cells #[.int .i64 0, .slice none 0 0] 24)) F97
                have F95 := own_alloc F95 (.cells #[.int .i64 0, .slice none 0 0] 24)
                have F10 := blk_new W3 (.cells #[.int .i64 0, .slice none 0 0] 24)
                have hb10 := hHeld0
                generalize W3.alloc (.cells #[.int .i64 0, .slice none 0 0] 24) = W4 at hHeld F97 F95 F10 ⊢
                have hHeld0 := hHeld.2.2.2.2.size
                refine wpAnyH_ready (rs := [8]) (by kernel_rfl) (by simp) ?_
                refine AllReadyH.cons rfl (fun K hK => ?_) AllReadyH.nil
                · refine step_app2 rfl rfl wr.heap.size _ _ g0 g1 gs rfl rfl F95 F97 hlg hHeld0 ?_
                  intro v8 W5 F98 hg8
                  refine hK.out _ _ (hHeld.grown hz hg8 (own_block F95).1) (fun hHeld => ?_)
                  clear hK K
                  have F10 := blk_keep F10 hg8 (ne_ten F95 F10)
                  clear F95 F97 hg8
                  obtain ⟨g8, cap8, rfl⟩ := own_pos F98
                  simp only [List.getElem_toArray, List.getElem_cons_succ, List.getElem_cons_zero, Act.put, List.setIfInBounds_toArray, List.set_cons_zero, List.set_cons_succ]
                  refine wpAnyH_take (i := 9) (v := ?_) rfl (by kernel_rfl) (by kernel_rfl) (by kernel_rfl) (fun _ _ _ h => h) (Or.inl ⟨by rfl, fun w hSw => ?_⟩) hHeld ?_
                  rotate_left
                  · go_simp; first | done | with_reducible rfl
                  simp only [List.getElem_toArray, List.getElem_cons_succ, List.getElem_cons_zero, Act.put, List.setIfInBounds_toArray, List.set_cons_zero, List.set_cons_succ]
                  have hHeld0 := hHeld.2.2.2.2.size
                  refine wpAnyH_ready (rs := [11]) (by kernel_rfl) (by simp) ?_
                  refine AllReadyH.cons rfl (fun K hK => ?_) AllReadyH.nil
                  · obtain ⟨x0, x1, x2, x3⟩ := two_cells F10
                    have hrel := rel_old hHeld F98 F10 hb10
                    go_simp
                    refine hK.out _ _ ((hHeld.setCell hz hb10 _).setCell hz hb10 _) (fun hHeld => ?_)
                    clear hK K
                    refine wpAnyH_done (by kernel_rfl) ?_ _
                    go_wp2_with fail
                    go_meet
                    exact hrel
            · go_simp
              refine hK.out _ _ (hHeld.alloc hz _) (fun hHeld => ?_)
              clear hK K
              have F92 := own_alloc F92 (.cells #[.int .i64 0, .slice none 0 0] 24)
              have F97 := blk_alloc (o' := (.cells #[.int .i64 0, .slice none 0 0] 24)) F97
              have F10 := blk_new W2 (.cells #[.int .i64 0, .slice none 0 0] 24)
              have hb10 := hHeld0
              generalize W2.alloc (.cells #[.int .i64 0, .slice none 0 0] 24) = W3 at hHeld F92 F97 F10 ⊢
              have hHeld0 := hHeld.2.2.2.2.size
              refine wpAnyH_ready (rs := [5]) (by kernel_rfl) (by simp) ?_
              refine AllReadyH.cons rfl (fun K hK => ?_) AllReadyH.nil
              · refine step_app1 rfl rfl wr.heap.size _ v gs rfl rfl F92 (isGrants_over HV.out (hB.trans (hHeld.2.2.2.2.mono hB.size))) HSH.out hlg hHeld0 ?_
                intro v5 W4 F95 hg5 hv5
                refine hK.out _ _ (hHeld.grown hz hg5 (own_block F92).1) (fun hHeld => ?_)
                clear hK K
                have F97 := blk_keep F97 hg5 (ne_one F92 F97)
                have F10 := blk_keep F10 hg5 (ne_ten F92 F10)
                obtain ⟨g5, cap5, rfl⟩ := (own_some F95).resolve_left hv5
                clear F92 hg5 hv5
                simp only [List.getElem_toArray, List.getElem_cons_succ, List.getElem_cons_zero, Act.put, List.setIfInBounds_toArray, List.set_cons_zero, List.set_cons_succ]
                have hHeld0 := hHeld.2.2.2.2.size
                refine wpAnyH_ready (rs := [8]) (by kernel_rfl) (by simp) ?_
                refine AllReadyH.cons rfl (fun K hK => ?_) AllReadyH.nil
                · refine step_app2 rfl rfl wr.heap.size _ _ g0 g1 gs rfl rfl F95 F97 hlg hHeld0 ?_
                  intro v8 W5 F98 hg8
                  refine hK.out _ _ (hHeld.grown hz hg8 (own_block F95).1) (fun hHeld => ?_)
                  clear hK K
                  have F10 := blk_keep F10 hg8 (ne_ten F95 F10)
                  clear F95 F97 hg8
                  obtain ⟨g8, cap8, rfl⟩ := own_pos F98
                  simp only [List.getElem_toArray, List.getElem_cons_succ, List.getElem_cons_zero, Act.put, List.setIfInBounds_toArray, List.set_cons_zero, List.set_cons_succ]
                  refine wpAnyH_take (i := 9) (v := ?_) rfl (by kernel_rfl) (by kernel_rfl) (by kernel_rfl) (fun _ _ _ h => h) (Or.inl ⟨by rfl, fun w hSw => ?_⟩) hHeld ?_
                  rotate_left
                  · go_simp; first | done | with_reducible rfl
                  simp only [List.getElem_toArray, List.getElem_cons_succ, List.getElem_cons_zero, Act.put, List.setIfInBounds_toArray, List.set_cons_zero, List.set_cons_succ]
                  have hHeld0 := hHeld.2.2.2.2.size
                  refine wpAnyH_ready (rs := [11]) (by kernel_rfl) (by simp) ?_
                  refine AllReadyH.cons rfl (fun K hK => ?_) AllReadyH.nil
                  · obtain ⟨x0, x1, x2, x3⟩ := two_cells F10
                    have hrel := rel_old hHeld F98 F10 hb10
                    go_simp
                    refine hK.out _ _ ((hHeld.setCell hz hb10 _).setCell hz hb10 _) (fun hHeld => ?_)
                    clear hK K
                    refine wpAnyH_done (by kernel_rfl) ?_ _
                    go_wp2_with fail
                    go_meet
                    exact hrel
          · go_simp
            refine hK.out _ _ (hHeld.alloc hz _) (fun hHeld => ?_)
            clear hK K
            have F97 := blk_alloc (o' := (.cells #[.int .i64 0, .slice none 0 0] 24)) F97
            have F10 := blk_new W1 (.cells #[.int .i64 0, .slice none 0 0] 24)
            have hb10 := hHeld0
            generalize W1.alloc (.cells #[.int .i64 0, .slice none 0 0] 24) = W2 at hHeld F97 F10 ⊢
            have hHeld0 := hHeld.2.2.2.2.size
            refine wpAnyH_ready (rs := [2]) (by kernel_rfl) (by simp) ?_
            refine AllReadyH.cons rfl (fun K hK => ?_) AllReadyH.nil
            · go_simp
              refine hK.out _ _ (hHeld.alloc hz _) (fun hHeld => ?_)
              clear hK K
              have F97 := blk_alloc (o' := (.cells #[] 37)) F97
              have F10 := blk_alloc (o' := (.cells #[] 37)) F10
              have F92 := own_empty W2 wr.heap.size hHeld0
              generalize W2.alloc (.cells #[] 37) = W3 at hHeld F97 F10 F92 ⊢
              have hHeld0 := hHeld.2.2.2.2.size
              refine wpAnyH_ready (rs := [5]) (by kernel_rfl) (by simp) ?_
              refine AllReadyH.cons rfl (fun K hK => ?_) AllReadyH.nil
              · refine step_app1 rfl rfl wr.heap.size _ v gs rfl rfl F92 (isGrants_over HV.out (hB.trans (hHeld.2.2.2.2.mono hB.size))) HSH.out hlg hHeld0 ?_
                intro v5 W4 F95 hg5 hv5
                refine hK.out _ _ (hHeld.grown hz hg5 (own_block F92).1) (fun hHeld => ?_)
                clear hK K
                have F97 := blk_keep F97 hg5 (ne_one F92 F97)
                have F10 := blk_keep F10 hg5 (ne_ten F92 F10)
                obtain ⟨g5, cap5, rfl⟩ := (own_some F95).resolve_left hv5
                clear F92 hg5 hv5
                simp only [List.getElem_toArray, List.getElem_cons_succ, List.getElem_cons_zero, Act.put, List.setIfInBounds_toArray, List.set_cons_zero, List.set_cons_succ]
                have hHeld0 := hHeld.2.2.2.2.size
                refine wpAnyH_ready (rs := [8]) (by kernel_rfl) (by simp) ?_
                refine AllReadyH.cons rfl (fun K hK => ?_) AllReadyH.nil
                · refine step_app2 rfl rfl wr.heap.size _ _ g0 g1 gs rfl rfl F95 F97 hlg hHeld0 ?_
                  intro v8 W5 F98 hg8
                  refine hK.out _ _ (hHeld.grown hz hg8 (own_block F95).1) (fun hHeld => ?_)
                  clear hK K
                  have F10 := blk_keep F10 hg8 (ne_ten F95 F10)
                  clear F95 F97 hg8
                  obtain ⟨g8, cap8, rfl⟩ := own_pos F98
                  simp only [List.getElem_toArray, List.getElem_cons_succ, List.getElem_cons_zero, Act.put, List.setIfInBounds_toArray, List.set_cons_zero, List.set_cons_succ]
                  refine wpAnyH_take (i := 9) (v := ?_) rfl (by kernel_rfl) (by kernel_rfl) (by kernel_rfl) (fun _ _ _ h => h) (Or.inl ⟨by rfl, fun w hSw => ?_⟩) hHeld ?_
                  rotate_left
                  · go_simp; first | done | with_reducible rfl
                  simp only [List.getElem_toArray, List.getElem_cons_succ, List.getElem_cons_zero, Act.put, List.setIfInBounds_toArray, List.set_cons_zero, List.set_cons_succ]
                  have hHeld0 := hHeld.2.2.2.2.size
                  refine wpAnyH_ready (rs := [11]) (by kernel_rfl) (by simp) ?_
                  refine AllReadyH.cons rfl (fun K hK => ?_) AllReadyH.nil
                  · obtain ⟨x0, x1, x2, x3⟩ := two_cells F10
                    have hrel := rel_old hHeld F98 F10 hb10
                    go_simp
                    refine hK.out _ _ ((hHeld.setCell hz hb10 _).setCell hz hb10 _) (fun hHeld => ?_)
                    clear hK K
                    refine wpAnyH_done (by kernel_rfl) ?_ _
                    go_wp2_with fail
                    go_meet
                    exact hrel
        · go_simp
          refine hK.out _ _ (hHeld.alloc hz _) (fun hHeld => ?_)
          clear hK K
          have F10 := blk_new W0 (.cells #[.int .i64 0, .slice none 0 0] 24)
          have hb10 := hHeld0
          generalize W0.alloc (.cells #[.int .i64 0, .slice none 0 0] 24) = W1 at hHeld F10 ⊢
          have hHeld0 := hHeld.2.2.2.2.size
          refine wpAnyH_ready (rs := [2, 7]) (by kernel_rfl) (by simp) ?_
          refine AllReadyH.cons rfl (fun K hK => ?_) (AllReadyH.cons rfl (fun K hK => ?_) AllReadyH.nil)
          · go_simp
            refine hK.out _ _ (hHeld.alloc hz _) (fun hHeld => ?_)
            clear hK K
            have F10 := blk_alloc (o' := (.cells #[] 37)) F10
            have F92 := own_empty W1 wr.heap.size hHeld0
            generalize W1.alloc (.cells #[] 37) = W2 at hHeld F10 F92 ⊢
            have hHeld0 := hHeld.2.2.2.2.size
            refine wpAnyH_ready (rs := [5, 7]) (by kernel_rfl) (by simp) ?_
            refine AllReadyH.cons rfl (fun K hK => ?_) (AllReadyH.cons rfl (fun K hK => ?_) AllReadyH.nil)
            · refine step_app1 rfl rfl wr.heap.size _ v gs rfl rfl F92 (isGrants_over HV.out (hB.trans (hHeld.2.2.2.2.mono hB.size))) HSH.out hlg hHeld0 ?_
              intro v5 W3 F95 hg5 hv5
              refine hK.out _ _ (hHeld.grown hz hg5 (own_block F92).1) (fun hHeld => ?_)
              clear hK K
              have F10 := blk_keep F10 hg5 (ne_ten F92 F10)
              obtain ⟨g5, cap5, rfl⟩ := (own_some F95).resolve_left hv5
              clear F92 hg5 hv5
              simp only [List.getElem_toArray, List.getElem_cons_succ, List.getElem_cons_zero, Act.put, List.setIfInBounds_toArray, List.set_cons_zero, List.set_cons_succ]
              have hHeld0 := hHeld.2.2.2.2.size
              refine wpAnyH_ready (rs := [7]) (by kernel_rfl) (by simp) ?_
              refine AllReadyH.cons rfl (fun K hK => ?_) AllReadyH.nil
              · go_simp
                refine hK.out _ _ (hHeld.alloc hz _) (fun hHeld => ?_)
                clear hK K
                have F10 := blk_alloc (o' := (.cells #[.int .i64 g0, .int .i64 g1] 37)) F10
                have F95 := own_alloc F95 (.cells #[.int .i64 g0, .int .i64 g1] 37)
                have F97 := blk_new W3 (.cells #[.int .i64 g0, .int .i64 g1] 37)
                generalize W3.alloc (.cells #[.int .i64 g0, .int .i64 g1] 37) = W4 at hHeld F10 F95 F97 ⊢
                have hHeld0 := hHeld.2.2.2.2.size
                refine wpAnyH_ready (rs := [8]) (by kernel_rfl) (by simp) ?_
                refine AllReadyH.cons rfl (fun K hK => ?_) AllReadyH.nil
                · refine step_app2 rfl rfl wr.heap.size _ _ g0 g1 gs rfl rfl F95 F97 hlg hHeld0 ?_
                  intro v8 W5 F98 hg8
                  refine hK.out _ _ (hHeld.grown hz hg8 (own_block F95).1) (fun hHeld => ?_)
                  clear hK K
                  have F10 := blk_keep F10 hg8 (ne_ten F95 F10)
                  clear F95 F97 hg8
                  obtain ⟨g8, cap8, rfl⟩ := own_pos F98
                  simp only [List.getElem_toArray, List.getElem_cons_succ, List.getElem_cons_zero, Act.put, List.setIfInBounds_toArray, List.set_cons_zero, List.set_cons_succ]
                  refine wpAnyH_take (i := 9) (v := ?_) rfl (by kernel_rfl) (by kernel_rfl) (by kernel_rfl) (fun _ _ _ h => h) (Or.inl ⟨by rfl, fun w hSw => ?_⟩) hHeld ?_
                  rotate_left
                  · go_simp; first | done | with_reducible rfl
                  simp only [List.getElem_toArray, List.getElem_cons_succ, List.getElem_cons_zero, Act.put, List.setIfInBounds_toArray, List.set_cons_zero, List.set_cons_succ]
                  have hHeld0 := hHeld.2.2.2.2.size
                  refine wpAnyH_ready (rs := [11]) (by kernel_rfl) (by simp) ?_
                  refine AllReadyH.cons rfl (fun K hK => ?_) AllReadyH.nil
                  · obtain ⟨x0, x1, x2, x3⟩ := two_cells F10
                    have hrel := rel_old hHeld F98 F10 hb10
                    go_simp
                    refine hK.out _ _ ((hHeld.setCell hz hb10 _).setCell hz hb10 _) (fun hHeld => ?_)
                    clear hK K
                    refine wpAnyH_done (by kernel_rfl) ?_ _
                    go_wp2_with fail
                    go_meet
                    exact hrel
            · go_simp
              refine hK.out _ _ (hHeld.alloc hz _) (fun hHeld => ?_)
              clear hK K
              have F92 := own_alloc F92 (.cells #[.int .i64 g0, .int .i64 g1] 37)
              have F10 := blk_alloc (o' := (.cells #[.int .i64 g0, .int .i64 g1] 37)) F10
              have F97 := blk_new W2 (.cells #[.int .i64 g0, .int .i64 g1] 37)
              generalize W2.alloc (.cells #[.int .i64 g0, .int .i64 g1] 37) = W3 at hHeld F92 F10 F97 ⊢
              have hHeld0 := hHeld.2.2.2.2.size
              refine wpAnyH_ready (rs := [5]) (by kernel_rfl) (by simp) ?_
              refine AllReadyH.cons rfl (fun K hK => ?_) AllReadyH.nil
              · refine step_app1 rfl rfl wr.heap.size _ v gs rfl rfl F92 (isGrants_over HV.out (hB.trans (hHeld.2.2.2.2.mono hB.size))) HSH.out hlg hHeld0 ?_
                intro v5 W4 F95 hg5 hv5
                refine hK.out _ _ (hHeld.grown hz hg5 (own_block F92).1) (fun hHeld => ?_)
                clear hK K
                have F97 := blk_keep F97 hg5 (ne_one F92 F97)
                have F10 := blk_keep F10 hg5 (ne_ten F92 F10)
                obtain ⟨g5, cap5, rfl⟩ := (own_some F95).resolve_left hv5
                clear F92 hg5 hv5
                simp only [List.getElem_toArray, List.getElem_cons_succ, List.getElem_cons_zero, Act.put, List.setIfInBounds_toArray, List.set_cons_zero, List.set_cons_succ]
                have hHeld0 := hHeld.2.2.2.2.size
                refine wpAnyH_ready (rs := [8]) (by kernel_rfl) (by simp) ?_
                refine AllReadyH.cons rfl (fun K hK => ?_) AllReadyH.nil
                · refine step_app2 rfl rfl wr.heap.size _ _ g0 g1 gs rfl rfl F95 F97 hlg hHeld0 ?_
                  intro v8 W5 F98 hg8
                  refine hK.out _ _ (hHeld.grown hz hg8 (own_block F95).1) (fun hHeld => ?_)
                  clear hK K
                  have F10 := blk_keep F10 hg8 (ne_ten F95 F10)
                  clear F95 F97 hg8
                  obtain ⟨g8, cap8, rfl⟩ := own_pos F98
                  simp only [List.getElem_toArray, List.getElem_cons_succ, List.getElem_cons_zero, Act.put, List.setIfInBounds_toArray, List.set_cons_zero, List.set_cons_succ]
                  refine wpAnyH_take (i := 9) (v := ?_) rfl (by kernel_rfl) (by kernel_rfl) (by kernel_rfl) (fun _ _ _ h => h) (Or.inl ⟨by rfl, fun w hSw => ?_⟩) hHeld ?_
                  rotate_left
                  · go_simp; first | done | with_reducible rfl
                  simp only [List.getElem_toArray, List.getElem_cons_succ, List.getElem_cons_zero, Act.put, List.setIfInBounds_toArray, List.set_cons_zero, List.set_cons_succ]
                  have hHeld0 := hHeld.2.2.2.2.size
                  refine wpAnyH_ready (rs := [11]) (by kernel_rfl) (by simp) ?_
                  refine AllReadyH.cons rfl (fun K hK => ?_) AllReadyH.nil
                  · obtain ⟨x0, x1, x2, x3⟩ := two_cells F10
                    have hrel := rel_old hHeld F98 F10 hb10
                    go_simp
                    refine hK.out _ _ ((hHeld.setCell hz hb10 _).setCell hz hb10 _) (fun hHeld => ?_)
                    clear hK K
                    refine wpAnyH_done (by kernel_rfl) ?_ _
                    go_wp2_with fail
                    go_meet
                    exact hrel
          · go_simp
            refine hK.out _ _ (hHeld.alloc hz _) (fun hHeld => ?_)
            clear hK K
            have F10 := blk_alloc (o' := (.cells #[.int .i64 g0, .int .i64 g1] 37)) F10
            have F97 := blk_new W1 (.cells #[.int .i64 g0, .int .i64 g1] 37)
            generalize W1.alloc (.cells #[.int .i64 g0, .int .i64 g1] 37) = W2 at hHeld F10 F97 ⊢
            have hHeld0 := hHeld.2.2.2.2.size
            refine wpAnyH_ready (rs := [2]) (by kernel_rfl) (by simp) ?_
            refine AllReadyH.cons rfl (fun K hK => ?_) AllReadyH.nil
            · go_simp
              refine hK.out _ _ (hHeld.alloc hz _) (fun hHeld => ?_)
              clear hK K
              have F97 := blk_alloc (o' := (.cells #[] 37)) F97
              have F10 := blk_alloc (o' := (.cells #[] 37)) F10
              have F92 := own_empty W2 wr.heap.size hHeld0
              generalize W2.alloc (.cells #[] 37) = W3 at hHeld F97 F10 F92 ⊢
              have hHeld0 := hHeld.2.2.2.2.size
              refine wpAnyH_ready (rs := [5]) (by kernel_rfl) (by simp) ?_
              refine AllReadyH.cons rfl (fun K hK => ?_) AllReadyH.nil
              · refine step_app1 rfl rfl wr.heap.size _ v gs rfl rfl F92 (isGrants_over HV.out (hB.trans (hHeld.2.2.2.2.mono hB.size))) HSH.out hlg hHeld0 ?_
                intro v5 W4 F95 hg5 hv5
                refine hK.out _ _ (hHeld.grown hz hg5 (own_block F92).1) (fun hHeld => ?_)
                clear hK K
                have F97 := blk_keep F97 hg5 (ne_one F92 F97)
                have F10 := blk_keep F10 hg5 (ne_ten F92 F10)
                obtain ⟨g5, cap5, rfl⟩ := (own_some F95).resolve_left hv5
                clear F92 hg5 hv5
                simp only [List.getElem_toArray, List.getElem_cons_succ, List.getElem_cons_zero, Act.put, List.setIfInBounds_toArray, List.set_cons_zero, List.set_cons_succ]
                have hHeld0 := hHeld.2.2.2.2.size
                refine wpAnyH_ready (rs := [8]) (by kernel_rfl) (by simp) ?_
                refine AllReadyH.cons rfl (fun K hK => ?_) AllReadyH.nil
                · refine step_app2 rfl rfl wr.heap.size _ _ g0 g1 gs rfl rfl F95 F97 hlg hHeld0 ?_
                  intro v8 W5 F98 hg8
                  refine hK.out _ _ (hHeld.grown hz hg8 (own_block F95).1) (fun hHeld => ?_)
                  clear hK K
                  have F10 := blk_keep F10 hg8 (ne_ten F95 F10)
                  clear F95 F97 hg8
                  obtain ⟨g8, cap8, rfl⟩ := own_pos F98
                  simp only [List.getElem_toArray, List.getElem_cons_succ, List.getElem_cons_zero, Act.put, List.setIfInBounds_toArray, List.set_cons_zero, List.set_cons_succ]
                  refine wpAnyH_take (i := 9) (v := ?_) rfl (by kernel_rfl) (by kernel_rfl) (by kernel_rfl) (fun _ _ _ h => h) (Or.inl ⟨by rfl, fun w hSw => ?_⟩) hHeld ?_
                  rotate_left
                  · go_simp; first | done | with_reducible rfl
                  simp only [List.getElem_toArray, List.getElem_cons_succ, List.getElem_cons_zero, Act.put, List.setIfInBounds_toArray, List.set_cons_zero, List.set_cons_succ]
                  have hHeld0 := hHeld.2.2.2.2.size
                  refine wpAnyH_ready (rs := [11]) (by kernel_rfl) (by simp) ?_
                  refine AllReadyH.cons rfl (fun K hK => ?_) AllReadyH.nil
                  · obtain ⟨x0, x1, x2, x3⟩ := two_cells F10
                    have hrel := rel_old hHeld F98 F10 hb10
                    go_simp
                    refine hK.out _ _ ((hHeld.setCell hz hb10 _).setCell hz hb10 _) (fun hHeld => ?_)
                    clear hK K
                    refine wpAnyH_done (by kernel_rfl) ?_ _
                    go_wp2_with fail
                    go_meet
                    exact hrel
      case rest =>
        obtain ⟨nb, u, rfl, k0, k1, hG, hbw⟩ := hcut
        have hBw : Below w.heap.size w wc := hB.trans (hbw.mono hB.size)
        have hrw := rows_over HR.out hbw
        have HRW := hide hrw
        clear hrw HR HS c0 c1 c2 c3 hz S0 hbw
        by_cases hE2 : chkErr n (gs ++ [(g0, g1)]) = 0
        · obtain ⟨n2, hn2, h12, hn62, hgs2, hlen2, hb2⟩ := chk_ok hE2
          have en : n2 = n := by omega
          subst en
          have hG2 := hG
          rw [← hgs2] at hG2
          have hE3 := hE2
          rw [← hgs2] at hE3
          have hF := for_ok n2 h12 hn62 u (gnOf (gs ++ [(g0, g1)])) wc hG2 hlen2 hb2 hE3
          have hsub : ∀ g ∈ gn, g ∈ gnOf (gs ++ [(g0, g1)]) := fun g hg => by
            rw [HGS.out]
            unfold gnOf
            rw [List.map_append, List.map_map]
            apply List.mem_append_left
            exact List.mem_map.2 ⟨g, hg, by simp [toI]⟩
          have hmore : ∀ i j, i < n2 → (acts gn n2 i)[j]?.getD false = true → (acts (gnOf (gs ++ [(g0, g1)])) n2 i)[j]?.getD false = true := fun i j hi hx =>
            (acts_yes hi hb2).2 (reach_more hsub ((HY.out i hi j).1 hx))
          have HF := hide hF
          have HM := hide hmore
          clear hF hmore hsub hE3 hG2 hE2 hgs2 hlen2 hb2 hG HV HSH hn2 h12 hn62
          obtain ⟨gm, hgm⟩ : ∃ gm, gm = gnOf (gs ++ [(g0, g1)]) := ⟨_, rfl⟩
          rw [← hgm] at HF HM
          clear hgm
          go_wp2_with fail
          refine (HF.out).mono ?_
          rintro e w5 ⟨ob2, rfl, hr5, hb5⟩
          have HR1 := hide (rows_over HRW.out hb5)
          have HR2 := hide hr5
          have hB5 : Below w.heap.size w w5 := hBw.trans (hb5.mono hBw.size)
          clear HF hr5 hb5 HRW k0 k1 hBw
          go_wp2_with fail
          go_loopw [12] (fun a wr' => ∃ k : Nat, k ≤ n2 ∧ a = .int .i64 k ∧ wr' = w5) (fun a _ => n2 - (intOf a).toNat)
          case atStart => exact ⟨0, Nat.zero_le _, rfl, rfl⟩
          case round =>
            obtain ⟨i, hi, rfl, rfl⟩ := hrel
            by_cases hin : i < n2
            · go_wp2_with fail
              go_loopw [13] (fun a wr'' => ∃ j : Nat, j ≤ n2 ∧ a = .int .i64 j ∧ wr'' = wr) (fun a _ => n2 - (intOf a).toNat)
              case atStart => exact ⟨0, Nat.zero_le _, rfl, rfl⟩
              case round =>
                obtain ⟨j, hj, rfl, rfl⟩ := hrel
                by_cases hjn : j < n2
                · obtain ⟨ka, A0, A1⟩ := row_cells HR1.out hin hjn
                  obtain ⟨kb, B0, B1⟩ := row_cells HR2.out hin hjn
                  have hxy := HM.out i j hin
                  obtain ⟨x, hx⟩ : ∃ x, x = (acts gn n2 i)[j]?.getD false := ⟨_, rfl⟩
                  obtain ⟨y, hy⟩ : ∃ y, y = (acts gm n2 i)[j]?.getD false := ⟨_, rfl⟩
                  rw [← hx] at A1 hxy
                  rw [← hy] at B1 hxy
                  clear hx hy
                  cases x with
                  | false =>
                    clear hxy B0 B1
                    go_wp2_with fail
                    exact ⟨⟨j + 1, by omega, by go_num, by first | trivial | rfl⟩, by simp [intOf]; omega⟩
                  | true =>
                    have hyt := hxy rfl
                    rw [hyt] at B1
                    clear hxy hyt
                    go_wp2_with fail
                    exact ⟨⟨j + 1, by omega, by go_num, by first | trivial | rfl⟩, by simp [intOf]; omega⟩
                · go_wp2_with fail
                  exact ⟨⟨i + 1, by omega, by go_num, by first | trivial | rfl⟩, by simp [intOf]; omega⟩
            · go_wp2_with fail
              go_ret
              exact ⟨rfl, hB5⟩
        · have hF := for_bad n u (gs ++ [(g0, g1)]) wc hG hE2
          obtain ⟨r, hr⟩ : ∃ r, r = chkErr n (gs ++ [(g0, g1)]) := ⟨_, rfl⟩
          rw [← hr] at hF hE2
          have b1 : (r != 0) = true := by simpa using hE2
          have HF := hide hF
          clear hF hr hG HV HSH
          go_wp2_with fail
          refine (HF.out).mono ?_
          rintro e w5 ⟨rfl, hb5⟩
          have hB5 : Below w.heap.size w w5 := hBw.trans (hb5.mono hBw.size)
          clear HF k0 k1
          go_wp2_with fail
          go_ret
          exact ⟨rfl, hB5⟩
end Go.Proofs.Ytndbgjbnakppkab

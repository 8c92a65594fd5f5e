/- The document's own level of a label: LevelOf. -/
import Derived.Test.YtekgnjifopgboaaRefM
import Derived.Test.YtekgnjifopgboaaRefP
namespace Go.Proofs.Ytekgnjifopgboaa
open Go.RowKit
set_option linter.unusedVariables false

structure Lab where
  r : List Pol
  w : List Pol

def labIn (n : Nat) (b : Lab) : Prop := (b.r.length ≤ 4 ∧ ∀ p ∈ b.r, polIn n p) ∧ (b.w.length ≤ 4 ∧ ∀ p ∈ b.w, polIn n p)
def levOf (gn : List (Nat × Nat)) (n : Nat) (b : Lab) : Lev := ⟨rowOf (fun i => mayB gn n i b.r) n, rowOf (fun i => mayB gn n i b.w) n⟩

theorem lst_box (w : World) (m v pr pw : Value) : JSt w m v pr pw [] [] (.slice none 0 0) (.slice none 0 0)
    ((((w.alloc (.cells #[m, v] 24)).alloc (.cells #[pr, pw] 27)).alloc (.cells #[.slice none 0 0, .slice none 0 0] 30)).alloc (.cells #[.slice none 0 0, .slice none 0 0] 30)) := by
  refine ⟨⟨by simp [go_sem], by simp [go_sem], by simp [go_sem], by simp [go_sem]⟩, ?_, ?_, World.ownsRow_nil _ _ _ _, World.ownsRow_nil _ _ _ _, Or.inl rfl, ?_, by simp⟩
  · have h := heap_alloc_new ((w.alloc (.cells #[m, v] 24)).alloc (.cells #[pr, pw] 27)) (.cells #[.slice none 0 0, .slice none 0 0] 30)
    rw [((Below.refl _ (((w.alloc (.cells #[m, v] 24)).alloc (.cells #[pr, pw] 27)).alloc (.cells #[.slice none 0 0, .slice none 0 0] 30))).alloc (Nat.le_refl _) _).block _ (by simp)]
    simpa using h
  · have h := heap_alloc_new (((w.alloc (.cells #[m, v] 24)).alloc (.cells #[pr, pw] 27)).alloc (.cells #[.slice none 0 0, .slice none 0 0] 30)) (.cells #[.slice none 0 0, .slice none 0 0] 30)
    simpa using h
  · exact ((((Below.refl _ w).alloc (Nat.le_refl _) _).alloc (by simp) _).alloc (by simp; omega) _).alloc (by simp; omega) _

set_option maxRecDepth 100000 in
set_option maxHeartbeats 8000000 in
theorem levelOf_any (n : Nat) (h0 : 1 ≤ n) (hn : n ≤ 6) (v pr pw : Value) (gn : List (Nat × Nat)) (bl : Lab) (w : World) (hv : IsGrants w v (gn.map toI)) (hlen : gn.length ≤ 20) (hb : ∀ g ∈ gn, g.1 < n ∧ g.2 < n)
    (hp : IsPols w pr bl.r) (hq : IsPols w pw bl.w) (hin : labIn n bl) :
    Calls Try.prog 11 #[.agg #[.int .i64 n, v], .agg #[pr, pw]] w fun e w' => ∃ vr vw, e = .returned (.agg #[vr, vw]) ∧ w'.ownsRow w.heap.size 4 1 vr n (boolCells (levOf gn n bl).r) ∧ w'.ownsRow w.heap.size 4 1 vw n (boolCells (levOf gn n bl).w) ∧ Apart vr vw ∧ Below w.heap.size w w' := by
  have hk0 := fun (i : Nat) (hi : i < n) (W : World) (hW : Below w.heap.size w W) => may_any n i hn hi v pr gn bl.r W (isGrants_over hv hW) hlen hb (isPols_over hp hW) hin.1.1 hin.1.2
  have hk1 := fun (i : Nat) (hi : i < n) (W : World) (hW : Below w.heap.size w W) => may_any n i hn hi v pw gn bl.w W (isGrants_over hv hW) hlen hb (isPols_over hq hW) hin.2.1 hin.2.2
  have HK0 := hide hk0
  have HK1 := hide hk1
  have HJ0 := hide (lst_box w (.int .i64 n) v pr pw)
  obtain ⟨pra, prc, hpr, -⟩ := hp
  obtain ⟨pwa, pwc, hpw, -⟩ := hq
  clear hk0 hk1 hv hb hin
  have vo1 : pr.oneCell' = true := by rw [hpr]; rfl
  have vo2 : pw.oneCell' = true := by rw [hpw]; rfl
  clear hpr hpw
  go_enter Try.func11, Try.ntmps11
  go_wp2_with fail
  go_loopw [6] (fun i wr => ∃ (k : Nat) (ur uw : Value), k ≤ n ∧ i = .int .i64 k ∧ JSt w (.int .i64 n) v pr pw (rowOf (fun i => mayB gn n i bl.r) k) (rowOf (fun i => mayB gn n i bl.w) k) ur uw wr) (fun i _ => n - (intOf i).toNat)
  case atStart => exact ⟨0, _, _, Nat.zero_le _, rfl, HJ0.out⟩
  case round =>
    clear HJ0
    obtain ⟨k, ur, uw, hk, rfl, hJ⟩ := hrel
    have HJ := hide hJ
    obtain ⟨⟨y0, y1, y2, y3⟩, x2, x3, -, -, -, hbw, hsz⟩ := hJ
    obtain ⟨x0, x1, xf0, xf1⟩ := cells_of_pair x3
    by_cases hkn : k < n
    · obtain ⟨R, hR⟩ : ∃ R, R = rowOf (fun i => mayB gn n i bl.r) k := ⟨_, rfl⟩
      obtain ⟨V, hV⟩ : ∃ V, V = rowOf (fun i => mayB gn n i bl.w) k := ⟨_, rfl⟩
      have hRl : R.length = k := by rw [hR, rowOf_length]
      have hVl : V.length = k := by rw [hV, rowOf_length]
      have hRn : rowOf (fun i => mayB gn n i bl.r) (k + 1) = R ++ [mayB gn n k bl.r] := by rw [rowOf_succ, hR]
      have hVn : rowOf (fun i => mayB gn n i bl.w) (k + 1) = V ++ [mayB gn n k bl.w] := by rw [rowOf_succ, hV]
      rw [← hR, ← hV] at HJ
      have HRN := hide hRn
      have HVN := hide hVn
      clear hR hV hRn hVn
      go_wp2_with fail
      go_cut [] from 7 to 32 (fun wc => ∃ u, JSt w (.int .i64 n) v pr pw (R ++ [mayB gn n k bl.r]) V u uw wc)
      case first =>
        have hm := HK0.out k hkn
        obtain ⟨z, hz⟩ : ∃ z, z = mayB gn n k bl.r := ⟨_, rfl⟩
        rw [← hz] at hm
        have HZ := hide hz
        have KM0 := hide fun (i : Nat) (_ : i < n) => hm
        clear hm hz HK0 HK1 HRN HVN
        have hLow : Low4 (w.heap.size + 3) (w.heap.size, 0) (w.heap.size, 1) (w.heap.size + 1, 0) (w.heap.size + 1, 0) (.int .i64 n) v pr pr wr.drew := ⟨y0, y1, y2, y2, HJ.out.2.2.2.2.2.2.2, by simp, by simp, by simp, by simp⟩
        refine wp_region_held_drew (S := fun W => Low4 (w.heap.size + 3) (w.heap.size, 0) (w.heap.size, 1) (w.heap.size + 1, 0) (w.heap.size + 1, 0) (.int .i64 n) v pr pr W) (by kernel_rfl) hLow (fun hHeld => ?_)
        refine wpAnyH_take (i := 0) (v := ?_) rfl (by kernel_rfl) (by kernel_rfl) (by kernel_rfl) (fun _ _ _ h => h) (Or.inl ⟨by rfl, fun w hSw => ?_⟩) hHeld ?_
        rotate_left
        · obtain ⟨t1, t2, t3, t4, -⟩ := hSw; go_simp; first | done | with_reducible rfl
        simp only [List.getElem_toArray, List.getElem_cons_zero, Act.put, List.setIfInBounds_toArray, List.set_cons_zero, List.set_cons_succ]
        refine wpAnyH_take (i := 2) (v := ?_) rfl (by kernel_rfl) (by kernel_rfl) (by kernel_rfl) (fun _ _ _ h => h) (Or.inl ⟨by rfl, fun w hSw => ?_⟩) hHeld ?_
        rotate_left
        · obtain ⟨t1, t2, t3, t4, -⟩ := hSw; go_simp; first | done | with_reducible rfl
        simp only [List.getElem_toArray, List.getElem_cons_succ, List.getElem_cons_zero, Act.put, List.setIfInBounds_toArray, List.set_cons_zero, List.set_cons_succ]
        refine wpAnyH_take (i := 3) (v := ?_) rfl (by kernel_rfl) (by kernel_rfl) (by kernel_rfl) (fun _ _ _ h => h) (Or.inl ⟨by rfl, fun w hSw => ?_⟩) hHeld ?_
        rotate_left
        · obtain ⟨t1, t2, t3, t4, -⟩ := hSw; go_simp; first | done | with_reducible rfl
        simp only [List.getElem_toArray, List.getElem_cons_succ, List.getElem_cons_zero, Act.put, List.setIfInBounds_toArray, List.set_cons_zero, List.set_cons_succ]
        refine wpAnyH_take (i := 4) (v := ?_) rfl (by kernel_rfl) (by kernel_rfl) (by kernel_rfl) (fun _ _ _ h => h) (Or.inl ⟨by rfl, fun w hSw => ?_⟩) hHeld ?_
        rotate_left
        · obtain ⟨t1, t2, t3, t4, -⟩ := hSw; go_simp; first | done | with_reducible rfl
        simp only [List.getElem_toArray, List.getElem_cons_succ, List.getElem_cons_zero, Act.put, List.setIfInBounds_toArray, List.set_cons_zero, List.set_cons_succ]
        refine wpAnyH_take (i := 5) (v := ?_) rfl (by kernel_rfl) (by kernel_rfl) (by kernel_rfl) (fun _ _ _ h => h) (Or.inl ⟨by rfl, fun w hSw => ?_⟩) hHeld ?_
        rotate_left
        · obtain ⟨t1, t2, t3, t4, -⟩ := hSw; go_simp; first | done | with_reducible rfl
        simp only [List.getElem_toArray, List.getElem_cons_succ, List.getElem_cons_zero, Act.put, List.setIfInBounds_toArray, List.set_cons_zero, List.set_cons_succ]
        have hW0 : Below wr.heap.size wr wr.drew := below_drewN (Below.refl _ _) 1
        clear hLow
        generalize wr.drew = W0 at hHeld hW0 ⊢
        refine wpAnyH_ready (rs := [1, 6]) (by kernel_rfl) (by simp) ?_
        refine AllReadyH.cons rfl (fun K hK => ?_) (AllReadyH.cons rfl (fun K hK => ?_) AllReadyH.nil)
        · obtain ⟨t1, t2, t3, t4⟩ := cells_of_pair (pair_kept HJ.out (hW0.mono HJ.out.2.2.2.2.2.2.2))
          go_simp
          refine hK.out _ _ hHeld (fun hHeld => ?_)
          clear hK K t1 t2 t3 t4
          refine wpAnyH_ready (rs := [6]) (by kernel_rfl) (by simp) ?_
          refine AllReadyH.cons rfl (fun K hK => ?_) AllReadyH.nil
          go_simp
          go_at_call 36
          refine (KM0.out k hkn _ (hbw.trans (hW0.mono hbw.size))).mono ?_
          rintro e W1 ⟨rfl, hb1⟩
          have hW1 : Below wr.heap.size wr W1 := hW0.trans (hb1.mono hW0.size)
          refine hK.out _ _ (hHeld.keep (hb1.mono (by have := hHeld.2.2.2.2.1; omega))) (fun hHeld => ?_)
          clear hK K hb1
          refine wpAnyH_ready (rs := [7]) (by kernel_rfl) (by simp) ?_
          refine AllReadyH.cons rfl (fun K hK => ?_) AllReadyH.nil
          go_simp
          refine hK.out _ _ (hHeld.keep ((Below.refl _ W1).alloc (by have := hHeld.2.2.2.2.1; omega) _)) (fun hHeld => ?_)
          clear hK K
          have hW2 : Below wr.heap.size wr (W1.alloc (.cells #[.bool z] 4)) := hW1.trans ((Below.refl _ W1).alloc hW1.size _)
          have F := heap_of_alloc W1 (.cells #[.bool z] 4)
          generalize W1.alloc (.cells #[.bool z] 4) = W2 at hHeld hW2 F ⊢
          refine wpAnyH_ready (rs := [8]) (by kernel_rfl) (by simp) ?_
          refine AllReadyH.cons rfl (fun K hK => ?_) AllReadyH.nil
          have hs1 : w.heap.size + 4 ≤ W2.heap.size := hHeld.2.2.2.2.1
          have OW := ownB_over HJ.out.2.2.2.1 hW2
          refine step_appB rfl _ _ rfl (w.heap.size + 4) W1.heap.size ur R.length R z rfl rfl OW F (by omega) hs1 ?_
          rintro v' WZ G1 G2 G3 ⟨g, cap, rfl⟩
          have hB2 := below_grownB OW G2 hs1
          refine hK.out _ _ (hHeld.keep (hB2.mono (by omega))) (fun hHeld => ?_)
          clear hK K
          simp only [List.getElem_toArray, List.getElem_cons_succ, List.getElem_cons_zero, Act.put, List.setIfInBounds_toArray, List.set_cons_zero, List.set_cons_succ]
          have hJ2 := jst_step0 HJ.out hW2 G1 G2 G3
          obtain ⟨t1, t2, t3, t4⟩ := cells_of_pair (pair_kept HJ.out ((hW2.mono HJ.out.2.2.2.2.2.2.2).trans hB2))
          clear G1 G2 G3 F OW
          refine wpAnyH_take (i := 9) (v := ?_) rfl (by kernel_rfl) (by kernel_rfl) (by kernel_rfl) (fun _ _ _ h => h) (Or.inl ⟨by rfl, fun w hSw => ?_⟩) hHeld ?_
          rotate_left
          · obtain ⟨t1, t2, t3, t4, -⟩ := hSw; go_simp; first | done | with_reducible rfl
          simp only [List.getElem_toArray, List.getElem_cons_succ, List.getElem_cons_zero, Act.put, List.setIfInBounds_toArray, List.set_cons_zero, List.set_cons_succ]
          refine wpAnyH_ready (rs := [10]) (by kernel_rfl) (by simp) ?_
          refine AllReadyH.cons rfl (fun K hK => ?_) AllReadyH.nil
          go_simp
          refine hK.out _ _ (hHeld.keep ((Below.refl _ WZ).setCell (by simp) _)) (fun hHeld => ?_)
          clear hK K t1 t2 t3 t4
          refine wpAnyH_done (by kernel_rfl) ?_ _
          clear hHeld HJ hB2
          go_wp2_with fail
          go_meet
          rw [hRl] at hJ2
          exact ⟨_, by rw [← HZ.out]; exact hJ2⟩
        · go_simp
          go_at_call 36
          refine (KM0.out k hkn _ (hbw.trans (hW0.mono hbw.size))).mono ?_
          rintro e W1 ⟨rfl, hb1⟩
          have hW1 : Below wr.heap.size wr W1 := hW0.trans (hb1.mono hW0.size)
          refine hK.out _ _ (hHeld.keep (hb1.mono (by have := hHeld.2.2.2.2.1; omega))) (fun hHeld => ?_)
          clear hK K hb1
          refine wpAnyH_ready (rs := [1, 7]) (by kernel_rfl) (by simp) ?_
          refine AllReadyH.cons rfl (fun K hK => ?_) (AllReadyH.cons rfl (fun K hK => ?_) AllReadyH.nil)
          · obtain ⟨t1, t2, t3, t4⟩ := cells_of_pair (pair_kept HJ.out (hW1.mono HJ.out.2.2.2.2.2.2.2))
            go_simp
            refine hK.out _ _ hHeld (fun hHeld => ?_)
            clear hK K t1 t2 t3 t4
            refine wpAnyH_ready (rs := [7]) (by kernel_rfl) (by simp) ?_
            refine AllReadyH.cons rfl (fun K hK => ?_) AllReadyH.nil
            go_simp
            refine hK.out _ _ (hHeld.keep ((Below.refl _ W1).alloc (by have := hHeld.2.2.2.2.1; omega) _)) (fun hHeld => ?_)
            clear hK K
            have hW2 : Below wr.heap.size wr (W1.alloc (.cells #[.bool z] 4)) := hW1.trans ((Below.refl _ W1).alloc hW1.size _)
            have F := heap_of_alloc W1 (.cells #[.bool z] 4)
            generalize W1.alloc (.cells #[.bool z] 4) = W2 at hHeld hW2 F ⊢
            refine wpAnyH_ready (rs := [8]) (by kernel_rfl) (by simp) ?_
            refine AllReadyH.cons rfl (fun K hK => ?_) AllReadyH.nil
            have hs1 : w.heap.size + 4 ≤ W2.heap.size := hHeld.2.2.2.2.1
            have OW := ownB_over HJ.out.2.2.2.1 hW2
            refine step_appB rfl _ _ rfl (w.heap.size + 4) W1.heap.size ur R.length R z rfl rfl OW F (by omega) hs1 ?_
            rintro v' WZ G1 G2 G3 ⟨g, cap, rfl⟩
            have hB2 := below_grownB OW G2 hs1
            refine hK.out _ _ (hHeld.keep (hB2.mono (by omega))) (fun hHeld => ?_)
            clear hK K
            simp only [List.getElem_toArray, List.getElem_cons_succ, List.getElem_cons_zero, Act.put, List.setIfInBounds_toArray, List.set_cons_zero, List.set_cons_succ]
            have hJ2 := jst_step0 HJ.out hW2 G1 G2 G3
            obtain ⟨t1, t2, t3, t4⟩ := cells_of_pair (pair_kept HJ.out ((hW2.mono HJ.out.2.2.2.2.2.2.2).trans hB2))
            clear G1 G2 G3 F OW
            refine wpAnyH_take (i := 9) (v := ?_) rfl (by kernel_rfl) (by kernel_rfl) (by kernel_rfl) (fun _ _ _ h => h) (Or.inl ⟨by rfl, fun w hSw => ?_⟩) hHeld ?_
            rotate_left
            · obtain ⟨t1, t2, t3, t4, -⟩ := hSw; go_simp; first | done | with_reducible rfl
            simp only [List.getElem_toArray, List.getElem_cons_succ, List.getElem_cons_zero, Act.put, List.setIfInBounds_toArray, List.set_cons_zero, List.set_cons_succ]
            refine wpAnyH_ready (rs := [10]) (by kernel_rfl) (by simp) ?_
            refine AllReadyH.cons rfl (fun K hK => ?_) AllReadyH.nil
            go_simp
            refine hK.out _ _ (hHeld.keep ((Below.refl _ WZ).setCell (by simp) _)) (fun hHeld => ?_)
            clear hK K t1 t2 t3 t4
            refine wpAnyH_done (by kernel_rfl) ?_ _
            clear hHeld HJ hB2
            go_wp2_with fail
            go_meet
            rw [hRl] at hJ2
            exact ⟨_, by rw [← HZ.out]; exact hJ2⟩
          · go_simp
            refine hK.out _ _ (hHeld.keep ((Below.refl _ W1).alloc (by have := hHeld.2.2.2.2.1; omega) _)) (fun hHeld => ?_)
            clear hK K
            have hW2 : Below wr.heap.size wr (W1.alloc (.cells #[.bool z] 4)) := hW1.trans ((Below.refl _ W1).alloc hW1.size _)
            have F := heap_of_alloc W1 (.cells #[.bool z] 4)
            generalize W1.alloc (.cells #[.bool z] 4) = W2 at hHeld hW2 F ⊢
            refine wpAnyH_ready (rs := [1]) (by kernel_rfl) (by simp) ?_
            refine AllReadyH.cons rfl (fun K hK => ?_) AllReadyH.nil
            obtain ⟨t1, t2, t3, t4⟩ := cells_of_pair (pair_kept HJ.out (hW2.mono HJ.out.2.2.2.2.2.2.2))
            go_simp
            refine hK.out _ _ hHeld (fun hHeld => ?_)
            clear hK K t1 t2 t3 t4
            refine wpAnyH_ready (rs := [8]) (by kernel_rfl) (by simp) ?_
            refine AllReadyH.cons rfl (fun K hK => ?_) AllReadyH.nil
            have hs1 : w.heap.size + 4 ≤ W2.heap.size := hHeld.2.2.2.2.1
            have OW := ownB_over HJ.out.2.2.2.1 hW2
            refine step_appB rfl _ _ rfl (w.heap.size + 4) W1.heap.size ur R.length R z rfl rfl OW F (by omega) hs1 ?_
            rintro v' WZ G1 G2 G3 ⟨g, cap, rfl⟩
            have hB2 := below_grownB OW G2 hs1
            refine hK.out _ _ (hHeld.keep (hB2.mono (by omega))) (fun hHeld => ?_)
            clear hK K
            simp only [List.getElem_toArray, List.getElem_cons_succ, List.getElem_cons_zero, Act.put, List.setIfInBounds_toArray, List.set_cons_zero, List.set_cons_succ]
            have hJ2 := jst_step0 HJ.out hW2 G1 G2 G3
            obtain ⟨t1, t2, t3, t4⟩ := cells_of_pair (pair_kept HJ.out ((hW2.mono HJ.out.2.2.2.2.2.2.2).trans hB2))
            clear G1 G2 G3 F OW
            refine wpAnyH_take (i := 9) (v := ?_) rfl (by kernel_rfl) (by kernel_rfl) (by kernel_rfl) (fun _ _ _ h => h) (Or.inl ⟨by rfl, fun w hSw => ?_⟩) hHeld ?_
            rotate_left
            · obtain ⟨t1, t2, t3, t4, -⟩ := hSw; go_simp; first | done | with_reducible rfl
            simp only [List.getElem_toArray, List.getElem_cons_succ, List.getElem_cons_zero, Act.put, List.setIfInBounds_toArray, List.set_cons_zero, List.set_cons_succ]
            refine wpAnyH_ready (rs := [10]) (by kernel_rfl) (by simp) ?_
            refine AllReadyH.cons rfl (fun K hK => ?_) AllReadyH.nil
            go_simp
            refine hK.out _ _ (hHeld.keep ((Below.refl _ WZ).setCell (by simp) _)) (fun hHeld => ?_)
            clear hK K t1 t2 t3 t4
            refine wpAnyH_done (by kernel_rfl) ?_ _
            clear hHeld HJ hB2
            go_wp2_with fail
            go_meet
            rw [hRl] at hJ2
            exact ⟨_, by rw [← HZ.out]; exact hJ2⟩
      case rest =>
        clear y0 y1 y2 y3 x2 x3 x0 x1 xf0 xf1 hbw hsz HJ
        obtain ⟨u2, hJ⟩ := hcut
        have HJ := hide hJ
        obtain ⟨⟨y0, y1, y2, y3⟩, x2, x3, -, -, -, hbw, hsz⟩ := hJ
        obtain ⟨x0, x1, xf0, xf1⟩ := cells_of_pair x3
        rw [← HRN.out] at HJ
        obtain ⟨R2, hR2⟩ : ∃ R2, R2 = rowOf (fun i => mayB gn n i bl.r) (k + 1) := ⟨_, rfl⟩
        rw [← hR2] at HJ
        have HR2 := hide hR2
        clear hR2 HRN hRl
        go_wp2_with fail
        have hm := HK1.out k hkn
        obtain ⟨z, hz⟩ : ∃ z, z = mayB gn n k bl.w := ⟨_, rfl⟩
        rw [← hz] at hm
        have HZ := hide hz
        have KM1 := hide fun (i : Nat) (_ : i < n) => hm
        clear hm hz HK0 HK1
        generalize wc = wr at *
        have hLow : Low4 (w.heap.size + 3) (w.heap.size, 0) (w.heap.size, 1) (w.heap.size + 1, 1) (w.heap.size + 1, 1) (.int .i64 n) v pw pw wr.drew := ⟨y0, y1, y3, y3, HJ.out.2.2.2.2.2.2.2, by simp, by simp, by simp, by simp⟩
        refine wp_region_held_drew (S := fun W => Low4 (w.heap.size + 3) (w.heap.size, 0) (w.heap.size, 1) (w.heap.size + 1, 1) (w.heap.size + 1, 1) (.int .i64 n) v pw pw W) (by kernel_rfl) hLow (fun hHeld => ?_)
        refine wpAnyH_take (i := 0) (v := ?_) rfl (by kernel_rfl) (by kernel_rfl) (by kernel_rfl) (fun _ _ _ h => h) (Or.inl ⟨by rfl, fun w hSw => ?_⟩) hHeld ?_
        rotate_left
        · obtain ⟨t1, t2, t3, t4, -⟩ := hSw; go_simp; first | done | with_reducible rfl
        simp only [List.getElem_toArray, List.getElem_cons_zero, Act.put, List.setIfInBounds_toArray, List.set_cons_zero, List.set_cons_succ]
        refine wpAnyH_take (i := 2) (v := ?_) rfl (by kernel_rfl) (by kernel_rfl) (by kernel_rfl) (fun _ _ _ h => h) (Or.inl ⟨by rfl, fun w hSw => ?_⟩) hHeld ?_
        rotate_left
        · obtain ⟨t1, t2, t3, t4, -⟩ := hSw; go_simp; first | done | with_reducible rfl
        simp only [List.getElem_toArray, List.getElem_cons_succ, List.getElem_cons_zero, Act.put, List.setIfInBounds_toArray, List.set_cons_zero, List.set_cons_succ]
        refine wpAnyH_take (i := 3) (v := ?_) rfl (by kernel_rfl) (by kernel_rfl) (by kernel_rfl) (fun _ _ _ h => h) (Or.inl ⟨by rfl, fun w hSw => ?_⟩) hHeld ?_
        rotate_left
        · obtain ⟨t1, t2, t3, t4, -⟩ := hSw; go_simp; first | done | with_reducible rfl
        simp only [List.getElem_toArray, List.getElem_cons_succ, List.getElem_cons_zero, Act.put, List.setIfInBounds_toArray, List.set_cons_zero, List.set_cons_succ]
        refine wpAnyH_take (i := 4) (v := ?_) rfl (by kernel_rfl) (by kernel_rfl) (by kernel_rfl) (fun _ _ _ h => h) (Or.inl ⟨by rfl, fun w hSw => ?_⟩) hHeld ?_
        rotate_left
        · obtain ⟨t1, t2, t3, t4, -⟩ := hSw; go_simp; first | done | with_reducible rfl
        simp only [List.getElem_toArray, List.getElem_cons_succ, List.getElem_cons_zero, Act.put, List.setIfInBounds_toArray, List.set_cons_zero, List.set_cons_succ]
        refine wpAnyH_take (i := 5) (v := ?_) rfl (by kernel_rfl) (by kernel_rfl) (by kernel_rfl) (fun _ _ _ h => h) (Or.inl ⟨by rfl, fun w hSw => ?_⟩) hHeld ?_
        rotate_left
        · obtain ⟨t1, t2, t3, t4, -⟩ := hSw; go_simp; first | done | with_reducible rfl
        simp only [List.getElem_toArray, List.getElem_cons_succ, List.getElem_cons_zero, Act.put, List.setIfInBounds_toArray, List.set_cons_zero, List.set_cons_succ]
        have hW0 : Below wr.heap.size wr wr.drew := below_drewN (Below.refl _ _) 1
        clear hLow
        generalize wr.drew = W0 at hHeld hW0 ⊢
        refine wpAnyH_ready (rs := [1, 6]) (by kernel_rfl) (by simp) ?_
        refine AllReadyH.cons rfl (fun K hK => ?_) (AllReadyH.cons rfl (fun K hK => ?_) AllReadyH.nil)
        · obtain ⟨t1, t2, t3, t4⟩ := cells_of_pair (pair_kept HJ.out (hW0.mono HJ.out.2.2.2.2.2.2.2))
          go_simp
          refine hK.out _ _ hHeld (fun hHeld => ?_)
          clear hK K t1 t2 t3 t4
          refine wpAnyH_ready (rs := [6]) (by kernel_rfl) (by simp) ?_
          refine AllReadyH.cons rfl (fun K hK => ?_) AllReadyH.nil
          go_simp
          go_at_call 36
          refine (KM1.out k hkn _ (hbw.trans (hW0.mono hbw.size))).mono ?_
          rintro e W1 ⟨rfl, hb1⟩
          have hW1 : Below wr.heap.size wr W1 := hW0.trans (hb1.mono hW0.size)
          refine hK.out _ _ (hHeld.keep (hb1.mono (by have := hHeld.2.2.2.2.1; omega))) (fun hHeld => ?_)
          clear hK K hb1
          refine wpAnyH_ready (rs := [7]) (by kernel_rfl) (by simp) ?_
          refine AllReadyH.cons rfl (fun K hK => ?_) AllReadyH.nil
          go_simp
          refine hK.out _ _ (hHeld.keep ((Below.refl _ W1).alloc (by have := hHeld.2.2.2.2.1; omega) _)) (fun hHeld => ?_)
          clear hK K
          have hW2 : Below wr.heap.size wr (W1.alloc (.cells #[.bool z] 4)) := hW1.trans ((Below.refl _ W1).alloc hW1.size _)
          have F := heap_of_alloc W1 (.cells #[.bool z] 4)
          generalize W1.alloc (.cells #[.bool z] 4) = W2 at hHeld hW2 F ⊢
          refine wpAnyH_ready (rs := [8]) (by kernel_rfl) (by simp) ?_
          refine AllReadyH.cons rfl (fun K hK => ?_) AllReadyH.nil
          have hs1 : w.heap.size + 4 ≤ W2.heap.size := hHeld.2.2.2.2.1
          have OW := ownB_over HJ.out.2.2.2.2.1 hW2
          refine step_appB rfl _ _ rfl (w.heap.size + 4) W1.heap.size uw V.length V z rfl rfl OW F (by omega) hs1 ?_
          rintro v' WZ G1 G2 G3 ⟨g, cap, rfl⟩
          have hB2 := below_grownB OW G2 hs1
          refine hK.out _ _ (hHeld.keep (hB2.mono (by omega))) (fun hHeld => ?_)
          clear hK K
          simp only [List.getElem_toArray, List.getElem_cons_succ, List.getElem_cons_zero, Act.put, List.setIfInBounds_toArray, List.set_cons_zero, List.set_cons_succ]
          have hJ2 := jst_step1 HJ.out hW2 G1 G2 G3
          obtain ⟨t1, t2, t3, t4⟩ := cells_of_pair (pair_kept HJ.out ((hW2.mono HJ.out.2.2.2.2.2.2.2).trans hB2))
          clear G1 G2 G3 F OW
          refine wpAnyH_take (i := 9) (v := ?_) rfl (by kernel_rfl) (by kernel_rfl) (by kernel_rfl) (fun _ _ _ h => h) (Or.inl ⟨by rfl, fun w hSw => ?_⟩) hHeld ?_
          rotate_left
          · obtain ⟨t1, t2, t3, t4, -⟩ := hSw; go_simp; first | done | with_reducible rfl
          simp only [List.getElem_toArray, List.getElem_cons_succ, List.getElem_cons_zero, Act.put, List.setIfInBounds_toArray, List.set_cons_zero, List.set_cons_succ]
          refine wpAnyH_ready (rs := [10]) (by kernel_rfl) (by simp) ?_
          refine AllReadyH.cons rfl (fun K hK => ?_) AllReadyH.nil
          go_simp
          refine hK.out _ _ (hHeld.keep ((Below.refl _ WZ).setCell (by simp) _)) (fun hHeld => ?_)
          clear hK K t1 t2 t3 t4
          refine wpAnyH_done (by kernel_rfl) ?_ _
          clear hHeld HJ hB2
          go_wp2_with fail
          rw [hVl] at hJ2
          refine ⟨⟨k + 1, u2, .slice (some ⟨g, 0, none⟩) (k + 1) cap, by omega, by go_num, ?_⟩, by simp [intOf]; omega⟩
          rw [HVN.out, ← HZ.out, ← HR2.out]
          exact hJ2
        · go_simp
          go_at_call 36
          refine (KM1.out k hkn _ (hbw.trans (hW0.mono hbw.size))).mono ?_
          rintro e W1 ⟨rfl, hb1⟩
          have hW1 : Below wr.heap.size wr W1 := hW0.trans (hb1.mono hW0.size)
          refine hK.out _ _ (hHeld.keep (hb1.mono (by have := hHeld.2.2.2.2.1; omega))) (fun hHeld => ?_)
          clear hK K hb1
          refine wpAnyH_ready (rs := [1, 7]) (by kernel_rfl) (by simp) ?_
          refine AllReadyH.cons rfl (fun K hK => ?_) (AllReadyH.cons rfl (fun K hK => ?_) AllReadyH.nil)
          · obtain ⟨t1, t2, t3, t4⟩ := cells_of_pair (pair_kept HJ.out (hW1.mono HJ.out.2.2.2.2.2.2.2))
            go_simp
            refine hK.out _ _ hHeld (fun hHeld => ?_)
            clear hK K t1 t2 t3 t4
            refine wpAnyH_ready (rs := [7]) (by kernel_rfl) (by simp) ?_
            refine AllReadyH.cons rfl (fun K hK => ?_) AllReadyH.nil
            go_simp
            refine hK.out _ _ (hHeld.keep ((Below.refl _ W1).alloc (by have := hHeld.2.2.2.2.1; omega) _)) (fun hHeld => ?_)
            clear hK K
            have hW2 : Below wr.heap.size wr (W1.alloc (.cells #[.bool z] 4)) := hW1.trans ((Below.refl _ W1).alloc hW1.size _)
            have F := heap_of_alloc W1 (.cells #[.bool z] 4)
            generalize W1.alloc (.cells #[.bool z] 4) = W2 at hHeld hW2 F ⊢
            refine wpAnyH_ready (rs := [8]) (by kernel_rfl) (by simp) ?_
            refine AllReadyH.cons rfl (fun K hK => ?_) AllReadyH.nil
            have hs1 : w.heap.size + 4 ≤ W2.heap.size := hHeld.2.2.2.2.1
            have OW := ownB_over HJ.out.2.2.2.2.1 hW2
            refine step_appB rfl _ _ rfl (w.heap.size + 4) W1.heap.size uw V.length V z rfl rfl OW F (by omega) hs1 ?_
            rintro v' WZ G1 G2 G3 ⟨g, cap, rfl⟩
            have hB2 := below_grownB OW G2 hs1
            refine hK.out _ _ (hHeld.keep (hB2.mono (by omega))) (fun hHeld => ?_)
            clear hK K
            simp only [List.getElem_toArray, List.getElem_cons_succ, List.getElem_cons_zero, Act.put, List.setIfInBounds_toArray, List.set_cons_zero, List.set_cons_succ]
            have hJ2 := jst_step1 HJ.out hW2 G1 G2 G3
            obtain ⟨t1, t2, t3, t4⟩ := cells_of_pair (pair_kept HJ.out ((hW2.mono HJ.out.2.2.2.2.2.2.2).trans hB2))
            clear G1 G2 G3 F OW
            refine wpAnyH_take (i := 9) (v := ?_) rfl (by kernel_rfl) (by kernel_rfl) (by kernel_rfl) (fun _ _ _ h => h) (Or.inl ⟨by rfl, fun w hSw => ?_⟩) hHeld ?_
            rotate_left
            · obtain ⟨t1, t2, t3, t4, -⟩ := hSw; go_simp; first | done | with_reducible rfl
            simp only [List.getElem_toArray, List.getElem_cons_succ, List.getElem_cons_zero, Act.put, List.setIfInBounds_toArray, List.set_cons_zero, List.set_cons_succ]
            refine wpAnyH_ready (rs := [10]) (by kernel_rfl) (by simp) ?_
            refine AllReadyH.cons rfl (fun K hK => ?_) AllReadyH.nil
            go_simp
            refine hK.out _ _ (hHeld.keep ((Below.refl _ WZ).setCell (by simp) _)) (fun hHeld => ?_)
            clear hK K t1 t2 t3 t4
            refine wpAnyH_done (by kernel_rfl) ?_ _
            clear hHeld HJ hB2
            go_wp2_with fail
            rw [hVl] at hJ2
            refine ⟨⟨k + 1, u2, .slice (some ⟨g, 0, none⟩) (k + 1) cap, by omega, by go_num, ?_⟩, by simp [intOf]; omega⟩
            rw [HVN.out, ← HZ.out, ← HR2.out]
            exact hJ2
          · go_simp
            refine hK.out _ _ (hHeld.keep ((Below.refl _ W1).alloc (by have := hHeld.2.2.2.2.1; omega) _)) (fun hHeld => ?_)
            clear hK K
            have hW2 : Below wr.heap.size wr (W1.alloc (.cells #[.bool z] 4)) := hW1.trans ((Below.refl _ W1).alloc hW1.size _)
            have F := heap_of_alloc W1 (.cells #[.bool z] 4)
            generalize W1.alloc (.cells #[.bool z] 4) = W2 at hHeld hW2 F ⊢
            refine wpAnyH_ready (rs := [1]) (by kernel_rfl) (by simp) ?_
            refine AllReadyH.cons rfl (fun K hK => ?_) AllReadyH.nil
            obtain ⟨t1, t2, t3, t4⟩ := cells_of_pair (pair_kept HJ.out (hW2.mono HJ.out.2.2.2.2.2.2.2))
            go_simp
            refine hK.out _ _ hHeld (fun hHeld => ?_)
            clear hK K t1 t2 t3 t4
            refine wpAnyH_ready (rs := [8]) (by kernel_rfl) (by simp) ?_
            refine AllReadyH.cons rfl (fun K hK => ?_) AllReadyH.nil
            have hs1 : w.heap.size + 4 ≤ W2.heap.size := hHeld.2.2.2.2.1
            have OW := ownB_over HJ.out.2.2.2.2.1 hW2
            refine step_appB rfl _ _ rfl (w.heap.size + 4) W1.heap.size uw V.length V z rfl rfl OW F (by omega) hs1 ?_
            rintro v' WZ G1 G2 G3 ⟨g, cap, rfl⟩
            have hB2 := below_grownB OW G2 hs1
            refine hK.out _ _ (hHeld.keep (hB2.mono (by omega))) (fun hHeld => ?_)
            clear hK K
            simp only [List.getElem_toArray, List.getElem_cons_succ, List.getElem_cons_zero, Act.put, List.setIfInBounds_toArray, List.set_cons_zero, List.set_cons_succ]
            have hJ2 := jst_step1 HJ.out hW2 G1 G2 G3
            obtain ⟨t1, t2, t3, t4⟩ := cells_of_pair (pair_kept HJ.out ((hW2.mono HJ.out.2.2.2.2.2.2.2).trans hB2))
            clear G1 G2 G3 F OW
            refine wpAnyH_take (i := 9) (v := ?_) rfl (by kernel_rfl) (by kernel_rfl) (by kernel_rfl) (fun _ _ _ h => h) (Or.inl ⟨by rfl, fun w hSw => ?_⟩) hHeld ?_
            rotate_left
            · obtain ⟨t1, t2, t3, t4, -⟩ := hSw; go_simp; first | done | with_reducible rfl
            simp only [List.getElem_toArray, List.getElem_cons_succ, List.getElem_cons_zero, Act.put, List.setIfInBounds_toArray, List.set_cons_zero, List.set_cons_succ]
            refine wpAnyH_ready (rs := [10]) (by kernel_rfl) (by simp) ?_
            refine AllReadyH.cons rfl (fun K hK => ?_) AllReadyH.nil
            go_simp
            refine hK.out _ _ (hHeld.keep ((Below.refl _ WZ).setCell (by simp) _)) (fun hHeld => ?_)
            clear hK K t1 t2 t3 t4
            refine wpAnyH_done (by kernel_rfl) ?_ _
            clear hHeld HJ hB2
            go_wp2_with fail
            rw [hVl] at hJ2
            refine ⟨⟨k + 1, u2, .slice (some ⟨g, 0, none⟩) (k + 1) cap, by omega, by go_num, ?_⟩, by simp [intOf]; omega⟩
            rw [HVN.out, ← HZ.out, ← HR2.out]
            exact hJ2
    · have hke : k = n := by omega
      subst hke
      have hJ := HJ.out
      obtain ⟨-, -, -, o1', o2', ap, -, -⟩ := hJ
      rw [rowOf_length] at o1' o2'
      obtain ⟨t0, t1, tf0, tf1⟩ := cells_of_pair x2
      obtain ⟨ga, ca, rfl⟩ := ownB_some o1' h0
      obtain ⟨gb, cb, rfl⟩ := ownB_some o2' h0
      have OB1 := hide o1'
      have OB2 := hide o2'
      have AP := hide ap
      clear o1' o2' ap
      go_wp2_with fail
      refine bodyPost_ret (v := .agg #[.slice (some ⟨ga, 0, none⟩) k ca, .slice (some ⟨gb, 0, none⟩) k cb]) ?_ rfl ⟨_, _, rfl, ?_, ?_, AP.out, ?_⟩
      · simp [results, Try.results11, go_sem, t0, t1]
      · exact ownB_base (ownB_set (ownB_set OB1.out (by simp) _) (by simp) _) (by omega)
      · exact ownB_base (ownB_set (ownB_set OB2.out (by simp) _) (by simp) _) (by omega)
      · exact (hbw.setCell (by simp; omega) _).setCell (by simp; omega) _
end Go.Proofs.Ytekgnjifopgboaa

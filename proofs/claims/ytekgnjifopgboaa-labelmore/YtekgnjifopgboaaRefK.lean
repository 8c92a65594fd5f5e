/- The document's own least level above two, and greatest below: the walks. -/
import Derived.Test.YtekgnjifopgboaaRefJ
import Derived.Deep.CutRange
namespace Go.Proofs.Ytekgnjifopgboaa
open Go.RowKit
set_option linter.unusedVariables false

theorem ownB_base {W : World} {B B' : Nat} {v : Value} {k : Nat} {xs : List Value} (h : W.ownsRow B 4 1 v k xs) (hb : B' ≤ B) : W.ownsRow B' 4 1 v k xs := by
  obtain ⟨h1, h2⟩ := h
  refine ⟨h1, ?_⟩
  rcases h2 with h2 | ⟨g, cap, cur, hv, hg, hh, r⟩
  · exact Or.inl h2
  · exact Or.inr ⟨g, cap, cur, hv, Nat.le_trans hb hg, hh, r⟩

theorem ownB_some {W : World} {B : Nat} {v : Value} {k : Nat} {xs : List Value} (h : W.ownsRow B 4 1 v k xs) (hk : 1 ≤ k) : ∃ g cap, v = .slice (some ⟨g, 0, none⟩) k cap := by
  rcases h.2 with ⟨_, h⟩ | ⟨g', cap', cur, hv, _⟩
  · omega
  · exact ⟨g', cap', hv⟩

def andAt (a b : List Bool) (i : Nat) : Bool := a[i]?.getD false && b[i]?.getD false
def orAt (a b : List Bool) (i : Nat) : Bool := a[i]?.getD false || b[i]?.getD false
def rowOf (f : Nat → Bool) (n : Nat) : List Bool := (List.range n).map f
theorem rowOf_succ (f : Nat → Bool) (n : Nat) : rowOf f (n + 1) = rowOf f n ++ [f n] := by simp [rowOf, List.range_succ]
theorem rowOf_length (f : Nat → Bool) (n : Nat) : (rowOf f n).length = n := by simp [rowOf]
def joinL (l m : Lev) (n : Nat) : Lev := ⟨rowOf (andAt l.r m.r) n, rowOf (orAt l.w m.w) n⟩
def meetL (l m : Lev) (n : Nat) : Lev := ⟨rowOf (orAt l.r m.r) n, rowOf (andAt l.w m.w) n⟩

set_option maxRecDepth 100000 in
set_option maxHeartbeats 8000000 in
theorem join_any (vl vm : Value) (l m : Lev) (n : Nat) (w : World) (hl : LevAt w vl l) (hm : LevAt w vm m) (h0 : 1 ≤ n) (hn : n ≤ 6) (h1 : l.len n) (h2 : m.len n) :
    Calls Try.prog 20 #[vl, vm] w fun e w' => ∃ vr vw, e = .returned (.agg #[vr, vw]) ∧ w'.ownsRow w.heap.size 4 1 vr n (boolCells (joinL l m n).r) ∧ w'.ownsRow w.heap.size 4 1 vw n (boolCells (joinL l m n).w) ∧ Apart vr vw ∧ Below w.heap.size w w' := by
  obtain ⟨r1, w1, rfl, hr1, hw1⟩ := hl
  obtain ⟨r2, w2, rfl, hr2, hw2⟩ := hm
  obtain ⟨b1, o1, c1, rfl, q1⟩ := isBools_pos hr1 h1.1 h0
  obtain ⟨b2, o2, c2, rfl, q2⟩ := isBools_pos hr2 h2.1 h0
  obtain ⟨b3, o3, c3, rfl, q3⟩ := isBools_pos hw1 h1.2 h0
  obtain ⟨b4, o4, c4, rfl, q4⟩ := isBools_pos hw2 h2.2 h0
  have Q1 := hide q1
  have Q2 := hide q2
  have Q3 := hide q3
  have Q4 := hide q4
  have HJ0 := hide (jst_box w (.slice (some ⟨b1, o1, none⟩) n c1) (.slice (some ⟨b3, o3, none⟩) n c3) (.slice (some ⟨b2, o2, none⟩) n c2) (.slice (some ⟨b4, o4, none⟩) n c4))
  clear hr1 hw1 hr2 hw2 q1 q2 q3 q4 h1 h2
  go_enter Try.func20, Try.ntmps20
  go_wp2_with fail
  go_loopw [6] (fun i wr => ∃ (k : Nat) (ur uw : Value), k ≤ n ∧ i = .int .i64 k ∧ JSt w (.slice (some ⟨b1, o1, none⟩) n c1) (.slice (some ⟨b3, o3, none⟩) n c3) (.slice (some ⟨b2, o2, none⟩) n c2) (.slice (some ⟨b4, o4, none⟩) n c4) (rowOf (andAt l.r m.r) k) (rowOf (orAt l.w m.w) k) ur uw wr) (fun i _ => n - (intOf i).toNat)
  case atStart => exact ⟨0, _, _, Nat.zero_le _, rfl, HJ0.out⟩
  case round =>
    clear HJ0
    obtain ⟨k, ur, uw, hk, rfl, hJ⟩ := hrel
    have HJ := hide hJ
    obtain ⟨⟨y0, y1, y2, y3⟩, x2, x3, -, -, -, hbw, hsz⟩ := hJ
    obtain ⟨x0, x1, xf0, xf1⟩ := cells_of_pair x3
    by_cases hkn : k < n
    · obtain ⟨R, hR⟩ : ∃ R, R = rowOf (andAt l.r m.r) k := ⟨_, rfl⟩
      obtain ⟨V, hV⟩ : ∃ V, V = rowOf (orAt l.w m.w) k := ⟨_, rfl⟩
      have hRl : R.length = k := by rw [hR, rowOf_length]
      have hVl : V.length = k := by rw [hV, rowOf_length]
      have hRn : rowOf (andAt l.r m.r) (k + 1) = R ++ [(andAt l.r m.r) k] := by rw [rowOf_succ, hR]
      have hVn : rowOf (orAt l.w m.w) (k + 1) = V ++ [(orAt l.w m.w) k] := by rw [rowOf_succ, hV]
      rw [← hR, ← hV] at HJ
      have HRN := hide hRn
      have HVN := hide hVn
      clear hR hV hRn hVn
      go_wp2_with fail
      go_cut [] from 7 to 47 (fun wc => ∃ u, JSt w (.slice (some ⟨b1, o1, none⟩) n c1) (.slice (some ⟨b3, o3, none⟩) n c3) (.slice (some ⟨b2, o2, none⟩) n c2) (.slice (some ⟨b4, o4, none⟩) n c4) (R ++ [(andAt l.r m.r) k]) V u uw wc)
      case first =>
        have q1 := Q1.out k hkn
        have q2 := Q2.out k hkn
        have l1 : b1 < w.heap.size := World.block_lt_of_cell? w _ q1
        have l2 : b2 < w.heap.size := World.block_lt_of_cell? w _ q2
        rw [← (hbw.cell (p := ⟨b1, o1 + k, none⟩) l1)] at q1
        rw [← (hbw.cell (p := ⟨b2, o2 + k, none⟩) l2)] at q2
        have hz : (andAt l.r m.r) k = (l.r[k]?.getD false && m.r[k]?.getD false) := rfl
        generalize l.r[k]?.getD false = x at hz q1
        generalize m.r[k]?.getD false = y at hz q2
        have HZ := hide hz
        clear hz Q1 Q2 Q3 Q4 HRN HVN
        cases x with
        | false =>
          have hLow : Low4 (w.heap.size + 3) (w.heap.size, 0) (w.heap.size + 1, 0) (b1, o1 + k) (b2, o2 + k) (.slice (some ⟨b1, o1, none⟩) n c1) (.slice (some ⟨b2, o2, none⟩) n c2) (.bool false) (.bool y) wr.drew := ⟨y0, y2, q1, q2, HJ.out.2.2.2.2.2.2.2, by simp, by simp, by simp; omega, by simp; omega⟩
          refine wp_region_held_drew (S := fun W => Low4 (w.heap.size + 3) (w.heap.size, 0) (w.heap.size + 1, 0) (b1, o1 + k) (b2, o2 + k) (.slice (some ⟨b1, o1, none⟩) n c1) (.slice (some ⟨b2, o2, none⟩) n c2) (.bool false) (.bool y) W) (by kernel_rfl) hLow (fun hHeld => ?_)
          refine wpAnyH_take (i := 0) (v := ?_) rfl (by kernel_rfl) (by kernel_rfl) (by kernel_rfl) (fun _ _ _ h => h) (Or.inl ⟨by rfl, fun w hSw => ?_⟩) hHeld ?_
          rotate_left
          · obtain ⟨t1, t2, t3, t4, -⟩ := hSw; go_simp; first | done | with_reducible rfl
          simp only [List.getElem_toArray, List.getElem_cons_zero, Act.put, List.setIfInBounds_toArray, List.set_cons_zero, List.set_cons_succ]
          refine wpAnyH_take (i := 2) (v := ?_) rfl (by kernel_rfl) (by kernel_rfl) (by kernel_rfl) (fun _ _ _ h => h) (Or.inl ⟨by rfl, fun w hSw => ?_⟩) hHeld ?_
          rotate_left
          · obtain ⟨t1, t2, t3, t4, -⟩ := hSw; go_simp; first | done | with_reducible rfl
          simp only [List.getElem_toArray, List.getElem_cons_succ, List.getElem_cons_zero, Act.put, List.setIfInBounds_toArray, List.set_cons_zero, List.set_cons_succ]
          refine wpAnyH_take (i := 3) (v := ?_) rfl (by kernel_rfl) (by kernel_rfl) (by kernel_rfl) (fun _ _ _ h => h) (Or.inl ⟨by rfl, fun w hSw => ?_⟩) hHeld ?_
          rotate_left
          · obtain ⟨t1, t2, t3, t4, -⟩ := hSw; go_simp; first | done | with_reducible rfl
          simp only [List.getElem_toArray, List.getElem_cons_succ, List.getElem_cons_zero, Act.put, List.setIfInBounds_toArray, List.set_cons_zero, List.set_cons_succ]
          refine wpAnyH_take (i := 4) (v := ?_) rfl (by kernel_rfl) (by kernel_rfl) (by kernel_rfl) (fun _ _ _ h => h) (Or.inl ⟨by rfl, fun w hSw => ?_⟩) hHeld ?_
          rotate_left
          · obtain ⟨t1, t2, t3, t4, -⟩ := hSw; go_simp; first | done | with_reducible rfl
          simp only [List.getElem_toArray, List.getElem_cons_succ, List.getElem_cons_zero, Act.put, List.setIfInBounds_toArray, List.set_cons_zero, List.set_cons_succ]
          refine wpAnyH_take (i := 5) (v := ?_) rfl (by kernel_rfl) (by kernel_rfl) (by kernel_rfl) (fun _ _ _ h => h) (Or.inl ⟨by rfl, fun w hSw => ?_⟩) hHeld ?_
          rotate_left
          · obtain ⟨t1, t2, t3, t4, -⟩ := hSw; go_simp; first | done | with_reducible rfl
          simp only [List.getElem_toArray, List.getElem_cons_succ, List.getElem_cons_zero, Act.put, List.setIfInBounds_toArray, List.set_cons_zero, List.set_cons_succ]
          refine wpAnyH_take (i := 6) (v := ?_) rfl (by kernel_rfl) (by kernel_rfl) (by kernel_rfl) (fun _ _ _ h => h) (Or.inl ⟨by rfl, fun w hSw => ?_⟩) hHeld ?_
          rotate_left
          · obtain ⟨t1, t2, t3, t4, -⟩ := hSw; go_simp; first | done | with_reducible rfl
          simp only [List.getElem_toArray, List.getElem_cons_succ, List.getElem_cons_zero, Act.put, List.setIfInBounds_toArray, List.set_cons_zero, List.set_cons_succ]
          refine wpAnyH_take (i := 7) (v := ?_) rfl (by kernel_rfl) (by kernel_rfl) (by kernel_rfl) (fun _ _ _ h => h) (Or.inl ⟨by rfl, fun w hSw => ?_⟩) hHeld ?_
          rotate_left
          · obtain ⟨t1, t2, t3, t4, -⟩ := hSw; go_simp; first | done | with_reducible rfl
          simp only [List.getElem_toArray, List.getElem_cons_succ, List.getElem_cons_zero, Act.put, List.setIfInBounds_toArray, List.set_cons_zero, List.set_cons_succ]
          refine wpAnyH_take (i := 8) (v := undef) rfl (by kernel_rfl) (by kernel_rfl) (by kernel_rfl) (fun _ _ _ h => h) (Or.inr ⟨by rfl, rfl⟩) hHeld ?_
          simp only [List.getElem_toArray, List.getElem_cons_succ, List.getElem_cons_zero, Act.put, List.setIfInBounds_toArray, List.set_cons_zero, List.set_cons_succ]
          refine wpAnyH_take (i := 9) (v := undef) rfl (by kernel_rfl) (by kernel_rfl) (by kernel_rfl) (fun _ _ _ h => h) (Or.inr ⟨by rfl, rfl⟩) hHeld ?_
          simp only [List.getElem_toArray, List.getElem_cons_succ, List.getElem_cons_zero, Act.put, List.setIfInBounds_toArray, List.set_cons_zero, List.set_cons_succ]
          refine wpAnyH_take (i := 10) (v := undef) rfl (by kernel_rfl) (by kernel_rfl) (by kernel_rfl) (fun _ _ _ h => h) (Or.inr ⟨by rfl, rfl⟩) hHeld ?_
          simp only [List.getElem_toArray, List.getElem_cons_succ, List.getElem_cons_zero, Act.put, List.setIfInBounds_toArray, List.set_cons_zero, List.set_cons_succ]
          refine wpAnyH_take (i := 11) (v := undef) rfl (by kernel_rfl) (by kernel_rfl) (by kernel_rfl) (fun _ _ _ h => h) (Or.inr ⟨by rfl, rfl⟩) hHeld ?_
          simp only [List.getElem_toArray, List.getElem_cons_succ, List.getElem_cons_zero, Act.put, List.setIfInBounds_toArray, List.set_cons_zero, List.set_cons_succ]
          refine wpAnyH_take (i := 12) (v := undef) rfl (by kernel_rfl) (by kernel_rfl) (by kernel_rfl) (fun _ _ _ h => h) (Or.inr ⟨by rfl, rfl⟩) hHeld ?_
          simp only [List.getElem_toArray, List.getElem_cons_succ, List.getElem_cons_zero, Act.put, List.setIfInBounds_toArray, List.set_cons_zero, List.set_cons_succ]
          refine wpAnyH_take (i := 13) (v := ?_) rfl (by kernel_rfl) (by kernel_rfl) (by kernel_rfl) (fun _ _ _ h => h) (Or.inl ⟨by rfl, fun w hSw => ?_⟩) hHeld ?_
          rotate_left
          · obtain ⟨t1, t2, t3, t4, -⟩ := hSw; go_simp; first | done | with_reducible rfl
          simp only [List.getElem_toArray, List.getElem_cons_succ, List.getElem_cons_zero, Act.put, List.setIfInBounds_toArray, List.set_cons_zero, List.set_cons_succ]
          have hW0 : Below wr.heap.size wr wr.drew := below_drewN (Below.refl _ _) 1
          clear hLow
          generalize wr.drew = W0 at hHeld hW0 ⊢
          refine wpAnyH_ready (rs := [1, 14]) (by kernel_rfl) (by simp) ?_
          refine AllReadyH.cons rfl (fun K hK => ?_) (AllReadyH.cons rfl (fun K hK => ?_) AllReadyH.nil)
          · obtain ⟨t1, t2, t3, t4⟩ := cells_of_pair (pair_kept HJ.out (hW0.mono HJ.out.2.2.2.2.2.2.2))
            go_simp
            refine hK.out _ _ hHeld (fun hHeld => ?_)
            clear hK K t1 t2 t3 t4
            refine wpAnyH_ready (rs := [14]) (by kernel_rfl) (by simp) ?_
            refine AllReadyH.cons rfl (fun K hK => ?_) AllReadyH.nil
            go_simp
            refine hK.out _ _ (hHeld.keep ((Below.refl _ W0).alloc (by have := hHeld.2.2.2.2.1; omega) _)) (fun hHeld => ?_)
            clear hK K
            have hW1 : Below wr.heap.size wr (W0.alloc (.cells #[.bool false] 4)) := hW0.trans ((Below.refl _ W0).alloc hW0.size _)
            have F := heap_of_alloc W0 (.cells #[.bool false] 4)
            generalize W0.alloc (.cells #[.bool false] 4) = W1 at hHeld hW1 F ⊢
            refine wpAnyH_ready (rs := [15]) (by kernel_rfl) (by simp) ?_
            refine AllReadyH.cons rfl (fun K hK => ?_) AllReadyH.nil
            have hs1 : w.heap.size + 4 ≤ W1.heap.size := hHeld.2.2.2.2.1
            have OW := ownB_over HJ.out.2.2.2.1 hW1
            refine step_appB rfl _ _ rfl (w.heap.size + 4) W0.heap.size ur R.length R false rfl rfl OW F (by omega) hs1 ?_
            rintro v' W2 G1 G2 G3 ⟨g, cap, rfl⟩
            have hB2 := below_grownB OW G2 hs1
            refine hK.out _ _ (hHeld.keep (hB2.mono (by omega))) (fun hHeld => ?_)
            clear hK K
            simp only [List.getElem_toArray, List.getElem_cons_succ, List.getElem_cons_zero, Act.put, List.setIfInBounds_toArray, List.set_cons_zero, List.set_cons_succ]
            have hJ2 := jst_step0 HJ.out hW1 G1 G2 G3
            obtain ⟨t1, t2, t3, t4⟩ := cells_of_pair (pair_kept HJ.out ((hW1.mono HJ.out.2.2.2.2.2.2.2).trans hB2))
            clear G1 G2 G3 F OW
            refine wpAnyH_take (i := 16) (v := ?_) rfl (by kernel_rfl) (by kernel_rfl) (by kernel_rfl) (fun _ _ _ h => h) (Or.inl ⟨by rfl, fun w hSw => ?_⟩) hHeld ?_
            rotate_left
            · obtain ⟨t1, t2, t3, t4, -⟩ := hSw; go_simp; first | done | with_reducible rfl
            simp only [List.getElem_toArray, List.getElem_cons_succ, List.getElem_cons_zero, Act.put, List.setIfInBounds_toArray, List.set_cons_zero, List.set_cons_succ]
            refine wpAnyH_ready (rs := [17]) (by kernel_rfl) (by simp) ?_
            refine AllReadyH.cons rfl (fun K hK => ?_) AllReadyH.nil
            go_simp
            refine hK.out _ _ (hHeld.keep ((Below.refl _ W2).setCell (by simp) _)) (fun hHeld => ?_)
            clear hK K t1 t2 t3 t4
            refine wpAnyH_done (by kernel_rfl) ?_ _
            clear hHeld HJ hB2 hW0 hW1
            go_wp2_with fail
            go_meet
            rw [hRl] at hJ2
            exact ⟨_, by rw [HZ.out]; exact hJ2⟩
          · go_simp
            refine hK.out _ _ (hHeld.keep ((Below.refl _ W0).alloc (by have := hHeld.2.2.2.2.1; omega) _)) (fun hHeld => ?_)
            clear hK K
            have hW1 : Below wr.heap.size wr (W0.alloc (.cells #[.bool false] 4)) := hW0.trans ((Below.refl _ W0).alloc hW0.size _)
            have F := heap_of_alloc W0 (.cells #[.bool false] 4)
            generalize W0.alloc (.cells #[.bool false] 4) = W1 at hHeld hW1 F ⊢
            refine wpAnyH_ready (rs := [1]) (by kernel_rfl) (by simp) ?_
            refine AllReadyH.cons rfl (fun K hK => ?_) AllReadyH.nil
            obtain ⟨t1, t2, t3, t4⟩ := cells_of_pair (pair_kept HJ.out (hW1.mono HJ.out.2.2.2.2.2.2.2))
            go_simp
            refine hK.out _ _ hHeld (fun hHeld => ?_)
            clear hK K t1 t2 t3 t4
            refine wpAnyH_ready (rs := [15]) (by kernel_rfl) (by simp) ?_
            refine AllReadyH.cons rfl (fun K hK => ?_) AllReadyH.nil
            have hs1 : w.heap.size + 4 ≤ W1.heap.size := hHeld.2.2.2.2.1
            have OW := ownB_over HJ.out.2.2.2.1 hW1
            refine step_appB rfl _ _ rfl (w.heap.size + 4) W0.heap.size ur R.length R false rfl rfl OW F (by omega) hs1 ?_
            rintro v' W2 G1 G2 G3 ⟨g, cap, rfl⟩
            have hB2 := below_grownB OW G2 hs1
            refine hK.out _ _ (hHeld.keep (hB2.mono (by omega))) (fun hHeld => ?_)
            clear hK K
            simp only [List.getElem_toArray, List.getElem_cons_succ, List.getElem_cons_zero, Act.put, List.setIfInBounds_toArray, List.set_cons_zero, List.set_cons_succ]
            have hJ2 := jst_step0 HJ.out hW1 G1 G2 G3
            obtain ⟨t1, t2, t3, t4⟩ := cells_of_pair (pair_kept HJ.out ((hW1.mono HJ.out.2.2.2.2.2.2.2).trans hB2))
            clear G1 G2 G3 F OW
            refine wpAnyH_take (i := 16) (v := ?_) rfl (by kernel_rfl) (by kernel_rfl) (by kernel_rfl) (fun _ _ _ h => h) (Or.inl ⟨by rfl, fun w hSw => ?_⟩) hHeld ?_
            rotate_left
            · obtain ⟨t1, t2, t3, t4, -⟩ := hSw; go_simp; first | done | with_reducible rfl
            simp only [List.getElem_toArray, List.getElem_cons_succ, List.getElem_cons_zero, Act.put, List.setIfInBounds_toArray, List.set_cons_zero, List.set_cons_succ]
            refine wpAnyH_ready (rs := [17]) (by kernel_rfl) (by simp) ?_
            refine AllReadyH.cons rfl (fun K hK => ?_) AllReadyH.nil
            go_simp
            refine hK.out _ _ (hHeld.keep ((Below.refl _ W2).setCell (by simp) _)) (fun hHeld => ?_)
            clear hK K t1 t2 t3 t4
            refine wpAnyH_done (by kernel_rfl) ?_ _
            clear hHeld HJ hB2 hW0 hW1
            go_wp2_with fail
            go_meet
            rw [hRl] at hJ2
            exact ⟨_, by rw [HZ.out]; exact hJ2⟩
        | true =>
          have hLow : Low4 (w.heap.size + 3) (w.heap.size, 0) (w.heap.size + 1, 0) (b1, o1 + k) (b2, o2 + k) (.slice (some ⟨b1, o1, none⟩) n c1) (.slice (some ⟨b2, o2, none⟩) n c2) (.bool true) (.bool y) wr.drew := ⟨y0, y2, q1, q2, HJ.out.2.2.2.2.2.2.2, by simp, by simp, by simp; omega, by simp; omega⟩
          refine wp_region_held_drew (S := fun W => Low4 (w.heap.size + 3) (w.heap.size, 0) (w.heap.size + 1, 0) (b1, o1 + k) (b2, o2 + k) (.slice (some ⟨b1, o1, none⟩) n c1) (.slice (some ⟨b2, o2, none⟩) n c2) (.bool true) (.bool y) W) (by kernel_rfl) hLow (fun hHeld => ?_)
          refine wpAnyH_take (i := 0) (v := ?_) rfl (by kernel_rfl) (by kernel_rfl) (by kernel_rfl) (fun _ _ _ h => h) (Or.inl ⟨by rfl, fun w hSw => ?_⟩) hHeld ?_
          rotate_left
          · obtain ⟨t1, t2, t3, t4, -⟩ := hSw; go_simp; first | done | with_reducible rfl
          simp only [List.getElem_toArray, List.getElem_cons_zero, Act.put, List.setIfInBounds_toArray, List.set_cons_zero, List.set_cons_succ]
          refine wpAnyH_take (i := 2) (v := ?_) rfl (by kernel_rfl) (by kernel_rfl) (by kernel_rfl) (fun _ _ _ h => h) (Or.inl ⟨by rfl, fun w hSw => ?_⟩) hHeld ?_
          rotate_left
          · obtain ⟨t1, t2, t3, t4, -⟩ := hSw; go_simp; first | done | with_reducible rfl
          simp only [List.getElem_toArray, List.getElem_cons_succ, List.getElem_cons_zero, Act.put, List.setIfInBounds_toArray, List.set_cons_zero, List.set_cons_succ]
          refine wpAnyH_take (i := 3) (v := ?_) rfl (by kernel_rfl) (by kernel_rfl) (by kernel_rfl) (fun _ _ _ h => h) (Or.inl ⟨by rfl, fun w hSw => ?_⟩) hHeld ?_
          rotate_left
          · obtain ⟨t1, t2, t3, t4, -⟩ := hSw; go_simp; first | done | with_reducible rfl
          simp only [List.getElem_toArray, List.getElem_cons_succ, List.getElem_cons_zero, Act.put, List.setIfInBounds_toArray, List.set_cons_zero, List.set_cons_succ]
          refine wpAnyH_take (i := 4) (v := ?_) rfl (by kernel_rfl) (by kernel_rfl) (by kernel_rfl) (fun _ _ _ h => h) (Or.inl ⟨by rfl, fun w hSw => ?_⟩) hHeld ?_
          rotate_left
          · obtain ⟨t1, t2, t3, t4, -⟩ := hSw; go_simp; first | done | with_reducible rfl
          simp only [List.getElem_toArray, List.getElem_cons_succ, List.getElem_cons_zero, Act.put, List.setIfInBounds_toArray, List.set_cons_zero, List.set_cons_succ]
          refine wpAnyH_take (i := 5) (v := ?_) rfl (by kernel_rfl) (by kernel_rfl) (by kernel_rfl) (fun _ _ _ h => h) (Or.inl ⟨by rfl, fun w hSw => ?_⟩) hHeld ?_
          rotate_left
          · obtain ⟨t1, t2, t3, t4, -⟩ := hSw; go_simp; first | done | with_reducible rfl
          simp only [List.getElem_toArray, List.getElem_cons_succ, List.getElem_cons_zero, Act.put, List.setIfInBounds_toArray, List.set_cons_zero, List.set_cons_succ]
          refine wpAnyH_take (i := 6) (v := ?_) rfl (by kernel_rfl) (by kernel_rfl) (by kernel_rfl) (fun _ _ _ h => h) (Or.inl ⟨by rfl, fun w hSw => ?_⟩) hHeld ?_
          rotate_left
          · obtain ⟨t1, t2, t3, t4, -⟩ := hSw; go_simp; first | done | with_reducible rfl
          simp only [List.getElem_toArray, List.getElem_cons_succ, List.getElem_cons_zero, Act.put, List.setIfInBounds_toArray, List.set_cons_zero, List.set_cons_succ]
          refine wpAnyH_take (i := 7) (v := ?_) rfl (by kernel_rfl) (by kernel_rfl) (by kernel_rfl) (fun _ _ _ h => h) (Or.inl ⟨by rfl, fun w hSw => ?_⟩) hHeld ?_
          rotate_left
          · obtain ⟨t1, t2, t3, t4, -⟩ := hSw; go_simp; first | done | with_reducible rfl
          simp only [List.getElem_toArray, List.getElem_cons_succ, List.getElem_cons_zero, Act.put, List.setIfInBounds_toArray, List.set_cons_zero, List.set_cons_succ]
          refine wpAnyH_take (i := 8) (v := ?_) rfl (by kernel_rfl) (by kernel_rfl) (by kernel_rfl) (fun _ _ _ h => h) (Or.inl ⟨by rfl, fun w hSw => ?_⟩) hHeld ?_
          rotate_left
          · obtain ⟨t1, t2, t3, t4, -⟩ := hSw; go_simp; first | done | with_reducible rfl
          simp only [List.getElem_toArray, List.getElem_cons_succ, List.getElem_cons_zero, Act.put, List.setIfInBounds_toArray, List.set_cons_zero, List.set_cons_succ]
          refine wpAnyH_take (i := 9) (v := ?_) rfl (by kernel_rfl) (by kernel_rfl) (by kernel_rfl) (fun _ _ _ h => h) (Or.inl ⟨by rfl, fun w hSw => ?_⟩) hHeld ?_
          rotate_left
          · obtain ⟨t1, t2, t3, t4, -⟩ := hSw; go_simp; first | done | with_reducible rfl
          simp only [List.getElem_toArray, List.getElem_cons_succ, List.getElem_cons_zero, Act.put, List.setIfInBounds_toArray, List.set_cons_zero, List.set_cons_succ]
          refine wpAnyH_take (i := 10) (v := ?_) rfl (by kernel_rfl) (by kernel_rfl) (by kernel_rfl) (fun _ _ _ h => h) (Or.inl ⟨by rfl, fun w hSw => ?_⟩) hHeld ?_
          rotate_left
          · obtain ⟨t1, t2, t3, t4, -⟩ := hSw; go_simp; first | done | with_reducible rfl
          simp only [List.getElem_toArray, List.getElem_cons_succ, List.getElem_cons_zero, Act.put, List.setIfInBounds_toArray, List.set_cons_zero, List.set_cons_succ]
          refine wpAnyH_take (i := 11) (v := ?_) rfl (by kernel_rfl) (by kernel_rfl) (by kernel_rfl) (fun _ _ _ h => h) (Or.inl ⟨by rfl, fun w hSw => ?_⟩) hHeld ?_
          rotate_left
          · obtain ⟨t1, t2, t3, t4, -⟩ := hSw; go_simp; first | done | with_reducible rfl
          simp only [List.getElem_toArray, List.getElem_cons_succ, List.getElem_cons_zero, Act.put, List.setIfInBounds_toArray, List.set_cons_zero, List.set_cons_succ]
          refine wpAnyH_take (i := 12) (v := ?_) rfl (by kernel_rfl) (by kernel_rfl) (by kernel_rfl) (fun _ _ _ h => h) (Or.inl ⟨by rfl, fun w hSw => ?_⟩) hHeld ?_
          rotate_left
          · obtain ⟨t1, t2, t3, t4, -⟩ := hSw; go_simp; first | done | with_reducible rfl
          simp only [List.getElem_toArray, List.getElem_cons_succ, List.getElem_cons_zero, Act.put, List.setIfInBounds_toArray, List.set_cons_zero, List.set_cons_succ]
          refine wpAnyH_take (i := 13) (v := ?_) rfl (by kernel_rfl) (by kernel_rfl) (by kernel_rfl) (fun _ _ _ h => h) (Or.inl ⟨by rfl, fun w hSw => ?_⟩) hHeld ?_
          rotate_left
          · obtain ⟨t1, t2, t3, t4, -⟩ := hSw; go_simp; first | done | with_reducible rfl
          simp only [List.getElem_toArray, List.getElem_cons_succ, List.getElem_cons_zero, Act.put, List.setIfInBounds_toArray, List.set_cons_zero, List.set_cons_succ]
          have hW0 : Below wr.heap.size wr wr.drew := below_drewN (Below.refl _ _) 1
          clear hLow
          generalize wr.drew = W0 at hHeld hW0 ⊢
          refine wpAnyH_ready (rs := [1, 14]) (by kernel_rfl) (by simp) ?_
          refine AllReadyH.cons rfl (fun K hK => ?_) (AllReadyH.cons rfl (fun K hK => ?_) AllReadyH.nil)
          · obtain ⟨t1, t2, t3, t4⟩ := cells_of_pair (pair_kept HJ.out (hW0.mono HJ.out.2.2.2.2.2.2.2))
            go_simp
            refine hK.out _ _ hHeld (fun hHeld => ?_)
            clear hK K t1 t2 t3 t4
            refine wpAnyH_ready (rs := [14]) (by kernel_rfl) (by simp) ?_
            refine AllReadyH.cons rfl (fun K hK => ?_) AllReadyH.nil
            go_simp
            refine hK.out _ _ (hHeld.keep ((Below.refl _ W0).alloc (by have := hHeld.2.2.2.2.1; omega) _)) (fun hHeld => ?_)
            clear hK K
            have hW1 : Below wr.heap.size wr (W0.alloc (.cells #[.bool y] 4)) := hW0.trans ((Below.refl _ W0).alloc hW0.size _)
            have F := heap_of_alloc W0 (.cells #[.bool y] 4)
            generalize W0.alloc (.cells #[.bool y] 4) = W1 at hHeld hW1 F ⊢
            refine wpAnyH_ready (rs := [15]) (by kernel_rfl) (by simp) ?_
            refine AllReadyH.cons rfl (fun K hK => ?_) AllReadyH.nil
            have hs1 : w.heap.size + 4 ≤ W1.heap.size := hHeld.2.2.2.2.1
            have OW := ownB_over HJ.out.2.2.2.1 hW1
            refine step_appB rfl _ _ rfl (w.heap.size + 4) W0.heap.size ur R.length R y rfl rfl OW F (by omega) hs1 ?_
            rintro v' W2 G1 G2 G3 ⟨g, cap, rfl⟩
            have hB2 := below_grownB OW G2 hs1
            refine hK.out _ _ (hHeld.keep (hB2.mono (by omega))) (fun hHeld => ?_)
            clear hK K
            simp only [List.getElem_toArray, List.getElem_cons_succ, List.getElem_cons_zero, Act.put, List.setIfInBounds_toArray, List.set_cons_zero, List.set_cons_succ]
            have hJ2 := jst_step0 HJ.out hW1 G1 G2 G3
            obtain ⟨t1, t2, t3, t4⟩ := cells_of_pair (pair_kept HJ.out ((hW1.mono HJ.out.2.2.2.2.2.2.2).trans hB2))
            clear G1 G2 G3 F OW
            refine wpAnyH_take (i := 16) (v := ?_) rfl (by kernel_rfl) (by kernel_rfl) (by kernel_rfl) (fun _ _ _ h => h) (Or.inl ⟨by rfl, fun w hSw => ?_⟩) hHeld ?_
            rotate_left
            · obtain ⟨t1, t2, t3, t4, -⟩ := hSw; go_simp; first | done | with_reducible rfl
            simp only [List.getElem_toArray, List.getElem_cons_succ, List.getElem_cons_zero, Act.put, List.setIfInBounds_toArray, List.set_cons_zero, List.set_cons_succ]
            refine wpAnyH_ready (rs := [17]) (by kernel_rfl) (by simp) ?_
            refine AllReadyH.cons rfl (fun K hK => ?_) AllReadyH.nil
            go_simp
            refine hK.out _ _ (hHeld.keep ((Below.refl _ W2).setCell (by simp) _)) (fun hHeld => ?_)
            clear hK K t1 t2 t3 t4
            refine wpAnyH_done (by kernel_rfl) ?_ _
            clear hHeld HJ hB2 hW0 hW1
            go_wp2_with fail
            go_meet
            rw [hRl] at hJ2
            exact ⟨_, by rw [HZ.out]; exact hJ2⟩
          · go_simp
            refine hK.out _ _ (hHeld.keep ((Below.refl _ W0).alloc (by have := hHeld.2.2.2.2.1; omega) _)) (fun hHeld => ?_)
            clear hK K
            have hW1 : Below wr.heap.size wr (W0.alloc (.cells #[.bool y] 4)) := hW0.trans ((Below.refl _ W0).alloc hW0.size _)
            have F := heap_of_alloc W0 (.cells #[.bool y] 4)
            generalize W0.alloc (.cells #[.bool y] 4) = W1 at hHeld hW1 F ⊢
            refine wpAnyH_ready (rs := [1]) (by kernel_rfl) (by simp) ?_
            refine AllReadyH.cons rfl (fun K hK => ?_) AllReadyH.nil
            obtain ⟨t1, t2, t3, t4⟩ := cells_of_pair (pair_kept HJ.out (hW1.mono HJ.out.2.2.2.2.2.2.2))
            go_simp
            refine hK.out _ _ hHeld (fun hHeld => ?_)
            clear hK K t1 t2 t3 t4
            refine wpAnyH_ready (rs := [15]) (by kernel_rfl) (by simp) ?_
            refine AllReadyH.cons rfl (fun K hK => ?_) AllReadyH.nil
            have hs1 : w.heap.size + 4 ≤ W1.heap.size := hHeld.2.2.2.2.1
            have OW := ownB_over HJ.out.2.2.2.1 hW1
            refine step_appB rfl _ _ rfl (w.heap.size + 4) W0.heap.size ur R.length R y rfl rfl OW F (by omega) hs1 ?_
            rintro v' W2 G1 G2 G3 ⟨g, cap, rfl⟩
            have hB2 := below_grownB OW G2 hs1
            refine hK.out _ _ (hHeld.keep (hB2.mono (by omega))) (fun hHeld => ?_)
            clear hK K
            simp only [List.getElem_toArray, List.getElem_cons_succ, List.getElem_cons_zero, Act.put, List.setIfInBounds_toArray, List.set_cons_zero, List.set_cons_succ]
            have hJ2 := jst_step0 HJ.out hW1 G1 G2 G3
            obtain ⟨t1, t2, t3, t4⟩ := cells_of_pair (pair_kept HJ.out ((hW1.mono HJ.out.2.2.2.2.2.2.2).trans hB2))
            clear G1 G2 G3 F OW
            refine wpAnyH_take (i := 16) (v := ?_) rfl (by kernel_rfl) (by kernel_rfl) (by kernel_rfl) (fun _ _ _ h => h) (Or.inl ⟨by rfl, fun w hSw => ?_⟩) hHeld ?_
            rotate_left
            · obtain ⟨t1, t2, t3, t4, -⟩ := hSw; go_simp; first | done | with_reducible rfl
            simp only [List.getElem_toArray, List.getElem_cons_succ, List.getElem_cons_zero, Act.put, List.setIfInBounds_toArray, List.set_cons_zero, List.set_cons_succ]
            refine wpAnyH_ready (rs := [17]) (by kernel_rfl) (by simp) ?_
            refine AllReadyH.cons rfl (fun K hK => ?_) AllReadyH.nil
            go_simp
            refine hK.out _ _ (hHeld.keep ((Below.refl _ W2).setCell (by simp) _)) (fun hHeld => ?_)
            clear hK K t1 t2 t3 t4
            refine wpAnyH_done (by kernel_rfl) ?_ _
            clear hHeld HJ hB2 hW0 hW1
            go_wp2_with fail
            go_meet
            rw [hRl] at hJ2
            exact ⟨_, by rw [HZ.out]; exact hJ2⟩
      case rest =>
        clear y0 y1 y2 y3 x2 x3 x0 x1 xf0 xf1 hbw hsz HJ
        obtain ⟨u2, hJ⟩ := hcut
        have HJ := hide hJ
        obtain ⟨⟨y0, y1, y2, y3⟩, x2, x3, -, -, -, hbw, hsz⟩ := hJ
        obtain ⟨x0, x1, xf0, xf1⟩ := cells_of_pair x3
        rw [← HRN.out] at HJ
        obtain ⟨R2, hR2⟩ : ∃ R2, R2 = rowOf (andAt l.r m.r) (k + 1) := ⟨_, rfl⟩
        rw [← hR2] at HJ
        have HR2 := hide hR2
        clear hR2 HRN hRl
        go_wp2_with fail
        have q1 := Q3.out k hkn
        have q2 := Q4.out k hkn
        have l1 : b3 < w.heap.size := World.block_lt_of_cell? w _ q1
        have l2 : b4 < w.heap.size := World.block_lt_of_cell? w _ q2
        rw [← (hbw.cell (p := ⟨b3, o3 + k, none⟩) l1)] at q1
        rw [← (hbw.cell (p := ⟨b4, o4 + k, none⟩) l2)] at q2
        have hz : (orAt l.w m.w) k = (l.w[k]?.getD false || m.w[k]?.getD false) := rfl
        generalize l.w[k]?.getD false = x at hz q1
        generalize m.w[k]?.getD false = y at hz q2
        have HZ := hide hz
        clear hz Q1 Q2 Q3 Q4
        generalize wc = wr at *
        cases x with
        | false =>
          have hLow : Low4 (w.heap.size + 3) (w.heap.size, 1) (w.heap.size + 1, 1) (b3, o3 + k) (b4, o4 + k) (.slice (some ⟨b3, o3, none⟩) n c3) (.slice (some ⟨b4, o4, none⟩) n c4) (.bool false) (.bool y) wr.drew := ⟨y1, y3, q1, q2, HJ.out.2.2.2.2.2.2.2, by simp, by simp, by simp; omega, by simp; omega⟩
          refine wp_region_held_drew (S := fun W => Low4 (w.heap.size + 3) (w.heap.size, 1) (w.heap.size + 1, 1) (b3, o3 + k) (b4, o4 + k) (.slice (some ⟨b3, o3, none⟩) n c3) (.slice (some ⟨b4, o4, none⟩) n c4) (.bool false) (.bool y) W) (by kernel_rfl) hLow (fun hHeld => ?_)
          refine wpAnyH_take (i := 0) (v := ?_) rfl (by kernel_rfl) (by kernel_rfl) (by kernel_rfl) (fun _ _ _ h => h) (Or.inl ⟨by rfl, fun w hSw => ?_⟩) hHeld ?_
          rotate_left
          · obtain ⟨t1, t2, t3, t4, -⟩ := hSw; go_simp; first | done | with_reducible rfl
          simp only [List.getElem_toArray, List.getElem_cons_zero, Act.put, List.setIfInBounds_toArray, List.set_cons_zero, List.set_cons_succ]
          refine wpAnyH_take (i := 2) (v := ?_) rfl (by kernel_rfl) (by kernel_rfl) (by kernel_rfl) (fun _ _ _ h => h) (Or.inl ⟨by rfl, fun w hSw => ?_⟩) hHeld ?_
          rotate_left
          · obtain ⟨t1, t2, t3, t4, -⟩ := hSw; go_simp; first | done | with_reducible rfl
          simp only [List.getElem_toArray, List.getElem_cons_succ, List.getElem_cons_zero, Act.put, List.setIfInBounds_toArray, List.set_cons_zero, List.set_cons_succ]
          refine wpAnyH_take (i := 3) (v := ?_) rfl (by kernel_rfl) (by kernel_rfl) (by kernel_rfl) (fun _ _ _ h => h) (Or.inl ⟨by rfl, fun w hSw => ?_⟩) hHeld ?_
          rotate_left
          · obtain ⟨t1, t2, t3, t4, -⟩ := hSw; go_simp; first | done | with_reducible rfl
          simp only [List.getElem_toArray, List.getElem_cons_succ, List.getElem_cons_zero, Act.put, List.setIfInBounds_toArray, List.set_cons_zero, List.set_cons_succ]
          refine wpAnyH_take (i := 4) (v := ?_) rfl (by kernel_rfl) (by kernel_rfl) (by kernel_rfl) (fun _ _ _ h => h) (Or.inl ⟨by rfl, fun w hSw => ?_⟩) hHeld ?_
          rotate_left
          · obtain ⟨t1, t2, t3, t4, -⟩ := hSw; go_simp; first | done | with_reducible rfl
          simp only [List.getElem_toArray, List.getElem_cons_succ, List.getElem_cons_zero, Act.put, List.setIfInBounds_toArray, List.set_cons_zero, List.set_cons_succ]
          refine wpAnyH_take (i := 5) (v := ?_) rfl (by kernel_rfl) (by kernel_rfl) (by kernel_rfl) (fun _ _ _ h => h) (Or.inl ⟨by rfl, fun w hSw => ?_⟩) hHeld ?_
          rotate_left
          · obtain ⟨t1, t2, t3, t4, -⟩ := hSw; go_simp; first | done | with_reducible rfl
          simp only [List.getElem_toArray, List.getElem_cons_succ, List.getElem_cons_zero, Act.put, List.setIfInBounds_toArray, List.set_cons_zero, List.set_cons_succ]
          refine wpAnyH_take (i := 6) (v := ?_) rfl (by kernel_rfl) (by kernel_rfl) (by kernel_rfl) (fun _ _ _ h => h) (Or.inl ⟨by rfl, fun w hSw => ?_⟩) hHeld ?_
          rotate_left
          · obtain ⟨t1, t2, t3, t4, -⟩ := hSw; go_simp; first | done | with_reducible rfl
          simp only [List.getElem_toArray, List.getElem_cons_succ, List.getElem_cons_zero, Act.put, List.setIfInBounds_toArray, List.set_cons_zero, List.set_cons_succ]
          refine wpAnyH_take (i := 7) (v := ?_) rfl (by kernel_rfl) (by kernel_rfl) (by kernel_rfl) (fun _ _ _ h => h) (Or.inl ⟨by rfl, fun w hSw => ?_⟩) hHeld ?_
          rotate_left
          · obtain ⟨t1, t2, t3, t4, -⟩ := hSw; go_simp; first | done | with_reducible rfl
          simp only [List.getElem_toArray, List.getElem_cons_succ, List.getElem_cons_zero, Act.put, List.setIfInBounds_toArray, List.set_cons_zero, List.set_cons_succ]
          refine wpAnyH_take (i := 8) (v := ?_) rfl (by kernel_rfl) (by kernel_rfl) (by kernel_rfl) (fun _ _ _ h => h) (Or.inl ⟨by rfl, fun w hSw => ?_⟩) hHeld ?_
          rotate_left
          · obtain ⟨t1, t2, t3, t4, -⟩ := hSw; go_simp; first | done | with_reducible rfl
          simp only [List.getElem_toArray, List.getElem_cons_succ, List.getElem_cons_zero, Act.put, List.setIfInBounds_toArray, List.set_cons_zero, List.set_cons_succ]
          refine wpAnyH_take (i := 9) (v := ?_) rfl (by kernel_rfl) (by kernel_rfl) (by kernel_rfl) (fun _ _ _ h => h) (Or.inl ⟨by rfl, fun w hSw => ?_⟩) hHeld ?_
          rotate_left
          · obtain ⟨t1, t2, t3, t4, -⟩ := hSw; go_simp; first | done | with_reducible rfl
          simp only [List.getElem_toArray, List.getElem_cons_succ, List.getElem_cons_zero, Act.put, List.setIfInBounds_toArray, List.set_cons_zero, List.set_cons_succ]
          refine wpAnyH_take (i := 10) (v := ?_) rfl (by kernel_rfl) (by kernel_rfl) (by kernel_rfl) (fun _ _ _ h => h) (Or.inl ⟨by rfl, fun w hSw => ?_⟩) hHeld ?_
          rotate_left
          · obtain ⟨t1, t2, t3, t4, -⟩ := hSw; go_simp; first | done | with_reducible rfl
          simp only [List.getElem_toArray, List.getElem_cons_succ, List.getElem_cons_zero, Act.put, List.setIfInBounds_toArray, List.set_cons_zero, List.set_cons_succ]
          refine wpAnyH_take (i := 11) (v := ?_) rfl (by kernel_rfl) (by kernel_rfl) (by kernel_rfl) (fun _ _ _ h => h) (Or.inl ⟨by rfl, fun w hSw => ?_⟩) hHeld ?_
          rotate_left
          · obtain ⟨t1, t2, t3, t4, -⟩ := hSw; go_simp; first | done | with_reducible rfl
          simp only [List.getElem_toArray, List.getElem_cons_succ, List.getElem_cons_zero, Act.put, List.setIfInBounds_toArray, List.set_cons_zero, List.set_cons_succ]
          refine wpAnyH_take (i := 12) (v := ?_) rfl (by kernel_rfl) (by kernel_rfl) (by kernel_rfl) (fun _ _ _ h => h) (Or.inl ⟨by rfl, fun w hSw => ?_⟩) hHeld ?_
          rotate_left
          · obtain ⟨t1, t2, t3, t4, -⟩ := hSw; go_simp; first | done | with_reducible rfl
          simp only [List.getElem_toArray, List.getElem_cons_succ, List.getElem_cons_zero, Act.put, List.setIfInBounds_toArray, List.set_cons_zero, List.set_cons_succ]
          refine wpAnyH_take (i := 13) (v := ?_) rfl (by kernel_rfl) (by kernel_rfl) (by kernel_rfl) (fun _ _ _ h => h) (Or.inl ⟨by rfl, fun w hSw => ?_⟩) hHeld ?_
          rotate_left
          · obtain ⟨t1, t2, t3, t4, -⟩ := hSw; go_simp; first | done | with_reducible rfl
          simp only [List.getElem_toArray, List.getElem_cons_succ, List.getElem_cons_zero, Act.put, List.setIfInBounds_toArray, List.set_cons_zero, List.set_cons_succ]
          have hW0 : Below wr.heap.size wr wr.drew := below_drewN (Below.refl _ _) 1
          clear hLow
          generalize wr.drew = W0 at hHeld hW0 ⊢
          refine wpAnyH_ready (rs := [1, 14]) (by kernel_rfl) (by simp) ?_
          refine AllReadyH.cons rfl (fun K hK => ?_) (AllReadyH.cons rfl (fun K hK => ?_) AllReadyH.nil)
          · obtain ⟨t1, t2, t3, t4⟩ := cells_of_pair (pair_kept HJ.out (hW0.mono HJ.out.2.2.2.2.2.2.2))
            go_simp
            refine hK.out _ _ hHeld (fun hHeld => ?_)
            clear hK K t1 t2 t3 t4
            refine wpAnyH_ready (rs := [14]) (by kernel_rfl) (by simp) ?_
            refine AllReadyH.cons rfl (fun K hK => ?_) AllReadyH.nil
            go_simp
            refine hK.out _ _ (hHeld.keep ((Below.refl _ W0).alloc (by have := hHeld.2.2.2.2.1; omega) _)) (fun hHeld => ?_)
            clear hK K
            have hW1 : Below wr.heap.size wr (W0.alloc (.cells #[.bool y] 4)) := hW0.trans ((Below.refl _ W0).alloc hW0.size _)
            have F := heap_of_alloc W0 (.cells #[.bool y] 4)
            generalize W0.alloc (.cells #[.bool y] 4) = W1 at hHeld hW1 F ⊢
            refine wpAnyH_ready (rs := [15]) (by kernel_rfl) (by simp) ?_
            refine AllReadyH.cons rfl (fun K hK => ?_) AllReadyH.nil
            have hs1 : w.heap.size + 4 ≤ W1.heap.size := hHeld.2.2.2.2.1
            have OW := ownB_over HJ.out.2.2.2.2.1 hW1
            refine step_appB rfl _ _ rfl (w.heap.size + 4) W0.heap.size uw V.length V y rfl rfl OW F (by omega) hs1 ?_
            rintro v' W2 G1 G2 G3 ⟨g, cap, rfl⟩
            have hB2 := below_grownB OW G2 hs1
            refine hK.out _ _ (hHeld.keep (hB2.mono (by omega))) (fun hHeld => ?_)
            clear hK K
            simp only [List.getElem_toArray, List.getElem_cons_succ, List.getElem_cons_zero, Act.put, List.setIfInBounds_toArray, List.set_cons_zero, List.set_cons_succ]
            have hJ2 := jst_step1 HJ.out hW1 G1 G2 G3
            obtain ⟨t1, t2, t3, t4⟩ := cells_of_pair (pair_kept HJ.out ((hW1.mono HJ.out.2.2.2.2.2.2.2).trans hB2))
            clear G1 G2 G3 F OW
            refine wpAnyH_take (i := 16) (v := ?_) rfl (by kernel_rfl) (by kernel_rfl) (by kernel_rfl) (fun _ _ _ h => h) (Or.inl ⟨by rfl, fun w hSw => ?_⟩) hHeld ?_
            rotate_left
            · obtain ⟨t1, t2, t3, t4, -⟩ := hSw; go_simp; first | done | with_reducible rfl
            simp only [List.getElem_toArray, List.getElem_cons_succ, List.getElem_cons_zero, Act.put, List.setIfInBounds_toArray, List.set_cons_zero, List.set_cons_succ]
            refine wpAnyH_ready (rs := [17]) (by kernel_rfl) (by simp) ?_
            refine AllReadyH.cons rfl (fun K hK => ?_) AllReadyH.nil
            go_simp
            refine hK.out _ _ (hHeld.keep ((Below.refl _ W2).setCell (by simp) _)) (fun hHeld => ?_)
            clear hK K t1 t2 t3 t4
            refine wpAnyH_done (by kernel_rfl) ?_ _
            clear hHeld HJ hB2 hW0 hW1
            go_wp2_with fail
            rw [hVl] at hJ2
            refine ⟨⟨k + 1, u2, .slice (some ⟨g, 0, none⟩) (k + 1) cap, by omega, by go_num, ?_⟩, by simp [intOf]; omega⟩
            rw [HVN.out, HZ.out, ← HR2.out]
            exact hJ2
          · go_simp
            refine hK.out _ _ (hHeld.keep ((Below.refl _ W0).alloc (by have := hHeld.2.2.2.2.1; omega) _)) (fun hHeld => ?_)
            clear hK K
            have hW1 : Below wr.heap.size wr (W0.alloc (.cells #[.bool y] 4)) := hW0.trans ((Below.refl _ W0).alloc hW0.size _)
            have F := heap_of_alloc W0 (.cells #[.bool y] 4)
            generalize W0.alloc (.cells #[.bool y] 4) = W1 at hHeld hW1 F ⊢
            refine wpAnyH_ready (rs := [1]) (by kernel_rfl) (by simp) ?_
            refine AllReadyH.cons rfl (fun K hK => ?_) AllReadyH.nil
            obtain ⟨t1, t2, t3, t4⟩ := cells_of_pair (pair_kept HJ.out (hW1.mono HJ.out.2.2.2.2.2.2.2))
            go_simp
            refine hK.out _ _ hHeld (fun hHeld => ?_)
            clear hK K t1 t2 t3 t4
            refine wpAnyH_ready (rs := [15]) (by kernel_rfl) (by simp) ?_
            refine AllReadyH.cons rfl (fun K hK => ?_) AllReadyH.nil
            have hs1 : w.heap.size + 4 ≤ W1.heap.size := hHeld.2.2.2.2.1
            have OW := ownB_over HJ.out.2.2.2.2.1 hW1
            refine step_appB rfl _ _ rfl (w.heap.size + 4) W0.heap.size uw V.length V y rfl rfl OW F (by omega) hs1 ?_
            rintro v' W2 G1 G2 G3 ⟨g, cap, rfl⟩
            have hB2 := below_grownB OW G2 hs1
            refine hK.out _ _ (hHeld.keep (hB2.mono (by omega))) (fun hHeld => ?_)
            clear hK K
            simp only [List.getElem_toArray, List.getElem_cons_succ, List.getElem_cons_zero, Act.put, List.setIfInBounds_toArray, List.set_cons_zero, List.set_cons_succ]
            have hJ2 := jst_step1 HJ.out hW1 G1 G2 G3
            obtain ⟨t1, t2, t3, t4⟩ := cells_of_pair (pair_kept HJ.out ((hW1.mono HJ.out.2.2.2.2.2.2.2).trans hB2))
            clear G1 G2 G3 F OW
            refine wpAnyH_take (i := 16) (v := ?_) rfl (by kernel_rfl) (by kernel_rfl) (by kernel_rfl) (fun _ _ _ h => h) (Or.inl ⟨by rfl, fun w hSw => ?_⟩) hHeld ?_
            rotate_left
            · obtain ⟨t1, t2, t3, t4, -⟩ := hSw; go_simp; first | done | with_reducible rfl
            simp only [List.getElem_toArray, List.getElem_cons_succ, List.getElem_cons_zero, Act.put, List.setIfInBounds_toArray, List.set_cons_zero, List.set_cons_succ]
            refine wpAnyH_ready (rs := [17]) (by kernel_rfl) (by simp) ?_
            refine AllReadyH.cons rfl (fun K hK => ?_) AllReadyH.nil
            go_simp
            refine hK.out _ _ (hHeld.keep ((Below.refl _ W2).setCell (by simp) _)) (fun hHeld => ?_)
            clear hK K t1 t2 t3 t4
            refine wpAnyH_done (by kernel_rfl) ?_ _
            clear hHeld HJ hB2 hW0 hW1
            go_wp2_with fail
            rw [hVl] at hJ2
            refine ⟨⟨k + 1, u2, .slice (some ⟨g, 0, none⟩) (k + 1) cap, by omega, by go_num, ?_⟩, by simp [intOf]; omega⟩
            rw [HVN.out, HZ.out, ← HR2.out]
            exact hJ2
        | true =>
          have hLow : Low4 (w.heap.size + 3) (w.heap.size, 1) (w.heap.size + 1, 1) (b3, o3 + k) (b4, o4 + k) (.slice (some ⟨b3, o3, none⟩) n c3) (.slice (some ⟨b4, o4, none⟩) n c4) (.bool true) (.bool y) wr.drew := ⟨y1, y3, q1, q2, HJ.out.2.2.2.2.2.2.2, by simp, by simp, by simp; omega, by simp; omega⟩
          refine wp_region_held_drew (S := fun W => Low4 (w.heap.size + 3) (w.heap.size, 1) (w.heap.size + 1, 1) (b3, o3 + k) (b4, o4 + k) (.slice (some ⟨b3, o3, none⟩) n c3) (.slice (some ⟨b4, o4, none⟩) n c4) (.bool true) (.bool y) W) (by kernel_rfl) hLow (fun hHeld => ?_)
          refine wpAnyH_take (i := 0) (v := ?_) rfl (by kernel_rfl) (by kernel_rfl) (by kernel_rfl) (fun _ _ _ h => h) (Or.inl ⟨by rfl, fun w hSw => ?_⟩) hHeld ?_
          rotate_left
          · obtain ⟨t1, t2, t3, t4, -⟩ := hSw; go_simp; first | done | with_reducible rfl
          simp only [List.getElem_toArray, List.getElem_cons_zero, Act.put, List.setIfInBounds_toArray, List.set_cons_zero, List.set_cons_succ]
          refine wpAnyH_take (i := 2) (v := ?_) rfl (by kernel_rfl) (by kernel_rfl) (by kernel_rfl) (fun _ _ _ h => h) (Or.inl ⟨by rfl, fun w hSw => ?_⟩) hHeld ?_
          rotate_left
          · obtain ⟨t1, t2, t3, t4, -⟩ := hSw; go_simp; first | done | with_reducible rfl
          simp only [List.getElem_toArray, List.getElem_cons_succ, List.getElem_cons_zero, Act.put, List.setIfInBounds_toArray, List.set_cons_zero, List.set_cons_succ]
          refine wpAnyH_take (i := 3) (v := ?_) rfl (by kernel_rfl) (by kernel_rfl) (by kernel_rfl) (fun _ _ _ h => h) (Or.inl ⟨by rfl, fun w hSw => ?_⟩) hHeld ?_
          rotate_left
          · obtain ⟨t1, t2, t3, t4, -⟩ := hSw; go_simp; first | done | with_reducible rfl
          simp only [List.getElem_toArray, List.getElem_cons_succ, List.getElem_cons_zero, Act.put, List.setIfInBounds_toArray, List.set_cons_zero, List.set_cons_succ]
          refine wpAnyH_take (i := 4) (v := ?_) rfl (by kernel_rfl) (by kernel_rfl) (by kernel_rfl) (fun _ _ _ h => h) (Or.inl ⟨by rfl, fun w hSw => ?_⟩) hHeld ?_
          rotate_left
          · obtain ⟨t1, t2, t3, t4, -⟩ := hSw; go_simp; first | done | with_reducible rfl
          simp only [List.getElem_toArray, List.getElem_cons_succ, List.getElem_cons_zero, Act.put, List.setIfInBounds_toArray, List.set_cons_zero, List.set_cons_succ]
          refine wpAnyH_take (i := 5) (v := ?_) rfl (by kernel_rfl) (by kernel_rfl) (by kernel_rfl) (fun _ _ _ h => h) (Or.inl ⟨by rfl, fun w hSw => ?_⟩) hHeld ?_
          rotate_left
          · obtain ⟨t1, t2, t3, t4, -⟩ := hSw; go_simp; first | done | with_reducible rfl
          simp only [List.getElem_toArray, List.getElem_cons_succ, List.getElem_cons_zero, Act.put, List.setIfInBounds_toArray, List.set_cons_zero, List.set_cons_succ]
          refine wpAnyH_take (i := 6) (v := ?_) rfl (by kernel_rfl) (by kernel_rfl) (by kernel_rfl) (fun _ _ _ h => h) (Or.inl ⟨by rfl, fun w hSw => ?_⟩) hHeld ?_
          rotate_left
          · obtain ⟨t1, t2, t3, t4, -⟩ := hSw; go_simp; first | done | with_reducible rfl
          simp only [List.getElem_toArray, List.getElem_cons_succ, List.getElem_cons_zero, Act.put, List.setIfInBounds_toArray, List.set_cons_zero, List.set_cons_succ]
          refine wpAnyH_take (i := 7) (v := ?_) rfl (by kernel_rfl) (by kernel_rfl) (by kernel_rfl) (fun _ _ _ h => h) (Or.inl ⟨by rfl, fun w hSw => ?_⟩) hHeld ?_
          rotate_left
          · obtain ⟨t1, t2, t3, t4, -⟩ := hSw; go_simp; first | done | with_reducible rfl
          simp only [List.getElem_toArray, List.getElem_cons_succ, List.getElem_cons_zero, Act.put, List.setIfInBounds_toArray, List.set_cons_zero, List.set_cons_succ]
          refine wpAnyH_take (i := 8) (v := undef) rfl (by kernel_rfl) (by kernel_rfl) (by kernel_rfl) (fun _ _ _ h => h) (Or.inr ⟨by rfl, rfl⟩) hHeld ?_
          simp only [List.getElem_toArray, List.getElem_cons_succ, List.getElem_cons_zero, Act.put, List.setIfInBounds_toArray, List.set_cons_zero, List.set_cons_succ]
          refine wpAnyH_take (i := 9) (v := undef) rfl (by kernel_rfl) (by kernel_rfl) (by kernel_rfl) (fun _ _ _ h => h) (Or.inr ⟨by rfl, rfl⟩) hHeld ?_
          simp only [List.getElem_toArray, List.getElem_cons_succ, List.getElem_cons_zero, Act.put, List.setIfInBounds_toArray, List.set_cons_zero, List.set_cons_succ]
          refine wpAnyH_take (i := 10) (v := undef) rfl (by kernel_rfl) (by kernel_rfl) (by kernel_rfl) (fun _ _ _ h => h) (Or.inr ⟨by rfl, rfl⟩) hHeld ?_
          simp only [List.getElem_toArray, List.getElem_cons_succ, List.getElem_cons_zero, Act.put, List.setIfInBounds_toArray, List.set_cons_zero, List.set_cons_succ]
          refine wpAnyH_take (i := 11) (v := undef) rfl (by kernel_rfl) (by kernel_rfl) (by kernel_rfl) (fun _ _ _ h => h) (Or.inr ⟨by rfl, rfl⟩) hHeld ?_
          simp only [List.getElem_toArray, List.getElem_cons_succ, List.getElem_cons_zero, Act.put, List.setIfInBounds_toArray, List.set_cons_zero, List.set_cons_succ]
          refine wpAnyH_take (i := 12) (v := undef) rfl (by kernel_rfl) (by kernel_rfl) (by kernel_rfl) (fun _ _ _ h => h) (Or.inr ⟨by rfl, rfl⟩) hHeld ?_
          simp only [List.getElem_toArray, List.getElem_cons_succ, List.getElem_cons_zero, Act.put, List.setIfInBounds_toArray, List.set_cons_zero, List.set_cons_succ]
          refine wpAnyH_take (i := 13) (v := ?_) rfl (by kernel_rfl) (by kernel_rfl) (by kernel_rfl) (fun _ _ _ h => h) (Or.inl ⟨by rfl, fun w hSw => ?_⟩) hHeld ?_
          rotate_left
          · obtain ⟨t1, t2, t3, t4, -⟩ := hSw; go_simp; first | done | with_reducible rfl
          simp only [List.getElem_toArray, List.getElem_cons_succ, List.getElem_cons_zero, Act.put, List.setIfInBounds_toArray, List.set_cons_zero, List.set_cons_succ]
          have hW0 : Below wr.heap.size wr wr.drew := below_drewN (Below.refl _ _) 1
          clear hLow
          generalize wr.drew = W0 at hHeld hW0 ⊢
          refine wpAnyH_ready (rs := [1, 14]) (by kernel_rfl) (by simp) ?_
          refine AllReadyH.cons rfl (fun K hK => ?_) (AllReadyH.cons rfl (fun K hK => ?_) AllReadyH.nil)
          · obtain ⟨t1, t2, t3, t4⟩ := cells_of_pair (pair_kept HJ.out (hW0.mono HJ.out.2.2.2.2.2.2.2))
            go_simp
            refine hK.out _ _ hHeld (fun hHeld => ?_)
            clear hK K t1 t2 t3 t4
            refine wpAnyH_ready (rs := [14]) (by kernel_rfl) (by simp) ?_
            refine AllReadyH.cons rfl (fun K hK => ?_) AllReadyH.nil
            go_simp
            refine hK.out _ _ (hHeld.keep ((Below.refl _ W0).alloc (by have := hHeld.2.2.2.2.1; omega) _)) (fun hHeld => ?_)
            clear hK K
            have hW1 : Below wr.heap.size wr (W0.alloc (.cells #[.bool true] 4)) := hW0.trans ((Below.refl _ W0).alloc hW0.size _)
            have F := heap_of_alloc W0 (.cells #[.bool true] 4)
            generalize W0.alloc (.cells #[.bool true] 4) = W1 at hHeld hW1 F ⊢
            refine wpAnyH_ready (rs := [15]) (by kernel_rfl) (by simp) ?_
            refine AllReadyH.cons rfl (fun K hK => ?_) AllReadyH.nil
            have hs1 : w.heap.size + 4 ≤ W1.heap.size := hHeld.2.2.2.2.1
            have OW := ownB_over HJ.out.2.2.2.2.1 hW1
            refine step_appB rfl _ _ rfl (w.heap.size + 4) W0.heap.size uw V.length V true rfl rfl OW F (by omega) hs1 ?_
            rintro v' W2 G1 G2 G3 ⟨g, cap, rfl⟩
            have hB2 := below_grownB OW G2 hs1
            refine hK.out _ _ (hHeld.keep (hB2.mono (by omega))) (fun hHeld => ?_)
            clear hK K
            simp only [List.getElem_toArray, List.getElem_cons_succ, List.getElem_cons_zero, Act.put, List.setIfInBounds_toArray, List.set_cons_zero, List.set_cons_succ]
            have hJ2 := jst_step1 HJ.out hW1 G1 G2 G3
            obtain ⟨t1, t2, t3, t4⟩ := cells_of_pair (pair_kept HJ.out ((hW1.mono HJ.out.2.2.2.2.2.2.2).trans hB2))
            clear G1 G2 G3 F OW
            refine wpAnyH_take (i := 16) (v := ?_) rfl (by kernel_rfl) (by kernel_rfl) (by kernel_rfl) (fun _ _ _ h => h) (Or.inl ⟨by rfl, fun w hSw => ?_⟩) hHeld ?_
            rotate_left
            · obtain ⟨t1, t2, t3, t4, -⟩ := hSw; go_simp; first | done | with_reducible rfl
            simp only [List.getElem_toArray, List.getElem_cons_succ, List.getElem_cons_zero, Act.put, List.setIfInBounds_toArray, List.set_cons_zero, List.set_cons_succ]
            refine wpAnyH_ready (rs := [17]) (by kernel_rfl) (by simp) ?_
            refine AllReadyH.cons rfl (fun K hK => ?_) AllReadyH.nil
            go_simp
            refine hK.out _ _ (hHeld.keep ((Below.refl _ W2).setCell (by simp) _)) (fun hHeld => ?_)
            clear hK K t1 t2 t3 t4
            refine wpAnyH_done (by kernel_rfl) ?_ _
            clear hHeld HJ hB2 hW0 hW1
            go_wp2_with fail
            rw [hVl] at hJ2
            refine ⟨⟨k + 1, u2, .slice (some ⟨g, 0, none⟩) (k + 1) cap, by omega, by go_num, ?_⟩, by simp [intOf]; omega⟩
            rw [HVN.out, HZ.out, ← HR2.out]
            exact hJ2
          · go_simp
            refine hK.out _ _ (hHeld.keep ((Below.refl _ W0).alloc (by have := hHeld.2.2.2.2.1; omega) _)) (fun hHeld => ?_)
            clear hK K
            have hW1 : Below wr.heap.size wr (W0.alloc (.cells #[.bool true] 4)) := hW0.trans ((Below.refl _ W0).alloc hW0.size _)
            have F := heap_of_alloc W0 (.cells #[.bool true] 4)
            generalize W0.alloc (.cells #[.bool true] 4) = W1 at hHeld hW1 F ⊢
            refine wpAnyH_ready (rs := [1]) (by kernel_rfl) (by simp) ?_
            refine AllReadyH.cons rfl (fun K hK => ?_) AllReadyH.nil
            obtain ⟨t1, t2, t3, t4⟩ := cells_of_pair (pair_kept HJ.out (hW1.mono HJ.out.2.2.2.2.2.2.2))
            go_simp
            refine hK.out _ _ hHeld (fun hHeld => ?_)
            clear hK K t1 t2 t3 t4
            refine wpAnyH_ready (rs := [15]) (by kernel_rfl) (by simp) ?_
            refine AllReadyH.cons rfl (fun K hK => ?_) AllReadyH.nil
            have hs1 : w.heap.size + 4 ≤ W1.heap.size := hHeld.2.2.2.2.1
            have OW := ownB_over HJ.out.2.2.2.2.1 hW1
            refine step_appB rfl _ _ rfl (w.heap.size + 4) W0.heap.size uw V.length V true rfl rfl OW F (by omega) hs1 ?_
            rintro v' W2 G1 G2 G3 ⟨g, cap, rfl⟩
            have hB2 := below_grownB OW G2 hs1
            refine hK.out _ _ (hHeld.keep (hB2.mono (by omega))) (fun hHeld => ?_)
            clear hK K
            simp only [List.getElem_toArray, List.getElem_cons_succ, List.getElem_cons_zero, Act.put, List.setIfInBounds_toArray, List.set_cons_zero, List.set_cons_succ]
            have hJ2 := jst_step1 HJ.out hW1 G1 G2 G3
            obtain ⟨t1, t2, t3, t4⟩ := cells_of_pair (pair_kept HJ.out ((hW1.mono HJ.out.2.2.2.2.2.2.2).trans hB2))
            clear G1 G2 G3 F OW
            refine wpAnyH_take (i := 16) (v := ?_) rfl (by kernel_rfl) (by kernel_rfl) (by kernel_rfl) (fun _ _ _ h => h) (Or.inl ⟨by rfl, fun w hSw => ?_⟩) hHeld ?_
            rotate_left
            · obtain ⟨t1, t2, t3, t4, -⟩ := hSw; go_simp; first | done | with_reducible rfl
            simp only [List.getElem_toArray, List.getElem_cons_succ, List.getElem_cons_zero, Act.put, List.setIfInBounds_toArray, List.set_cons_zero, List.set_cons_succ]
            refine wpAnyH_ready (rs := [17]) (by kernel_rfl) (by simp) ?_
            refine AllReadyH.cons rfl (fun K hK => ?_) AllReadyH.nil
            go_simp
            refine hK.out _ _ (hHeld.keep ((Below.refl _ W2).setCell (by simp) _)) (fun hHeld => ?_)
            clear hK K t1 t2 t3 t4
            refine wpAnyH_done (by kernel_rfl) ?_ _
            clear hHeld HJ hB2 hW0 hW1
            go_wp2_with fail
            rw [hVl] at hJ2
            refine ⟨⟨k + 1, u2, .slice (some ⟨g, 0, none⟩) (k + 1) cap, by omega, by go_num, ?_⟩, by simp [intOf]; omega⟩
            rw [HVN.out, HZ.out, ← HR2.out]
            exact hJ2
    · have hke : k = n := by omega
      subst hke
      have hJ := HJ.out
      obtain ⟨-, -, -, o1', o2', ap, -, -⟩ := hJ
      rw [rowOf_length] at o1' o2'
      obtain ⟨t0, t1, tf0, tf1⟩ := cells_of_pair x2
      obtain ⟨ga, ca, rfl⟩ := ownB_some o1' h0
      obtain ⟨gb, cb, rfl⟩ := ownB_some o2' h0
      have OB1 := hide o1'
      have OB2 := hide o2'
      have AP := hide ap
      clear o1' o2' ap
      go_wp2_with fail
      refine bodyPost_ret (v := .agg #[.slice (some ⟨ga, 0, none⟩) k ca, .slice (some ⟨gb, 0, none⟩) k cb]) ?_ rfl ⟨_, _, rfl, ?_, ?_, AP.out, ?_⟩
      · simp [results, Try.results20, go_sem, t0, t1]
      · exact ownB_base (ownB_set (ownB_set OB1.out (by simp) _) (by simp) _) (by omega)
      · exact ownB_base (ownB_set (ownB_set OB2.out (by simp) _) (by simp) _) (by omega)
      · exact (hbw.setCell (by simp; omega) _).setCell (by simp; omega) _

end Go.Proofs.Ytekgnjifopgboaa

/- The document's own answers of actors: is one of so many, their check, whom one acts for. -/
import Derived.Test.YtekgnjifopgboaaRows
import Derived.Test.YtekgnjifopgboaaActorsFor
import Derived.WalkKit
import Derived.WalkSpells
import Derived.WalkLawsBesides
import Derived.WalkSmall
import Derived.Laws.MakeOwn
import Derived.Deep.RegionHeld3
namespace Go.Proofs.Ytekgnjifopgboaa
open Go.RowKit
set_option linter.unusedVariables false

/-- four cells that are kept where all below is kept. -/
theorem held4 {w w0 w1 : World} {b0 o0 b1 o1 b2 o2 b3 o3 : Nat} {v0 v1 v2 v3 : Value} (h : w0.cell? ⟨b0, o0, none⟩ = some v0 ∧ w0.cell? ⟨b1, o1, none⟩ = some v1 ∧ w0.cell? ⟨b2, o2, none⟩ = some v2 ∧ w0.cell? ⟨b3, o3, none⟩ = some v3 ∧ Below w.heap.size w w0)
    (hb : Below w0.heap.size w0 w1) : w1.cell? ⟨b0, o0, none⟩ = some v0 ∧ w1.cell? ⟨b1, o1, none⟩ = some v1 ∧ w1.cell? ⟨b2, o2, none⟩ = some v2 ∧ w1.cell? ⟨b3, o3, none⟩ = some v3 ∧ Below w.heap.size w w1 := by
  obtain ⟨h0, h1, h2, h3, hB⟩ := h
  obtain ⟨hc, hf⟩ := bcell hb
  refine ⟨?_, ?_, ?_, ?_, ?_⟩
  · rw [hc _ _ (World.block_lt_of_cell? w0 _ h0)]; exact h0
  · rw [hc _ _ (World.block_lt_of_cell? w0 _ h1)]; exact h1
  · rw [hc _ _ (World.block_lt_of_cell? w0 _ h2)]; exact h2
  · rw [hc _ _ (World.block_lt_of_cell? w0 _ h3)]; exact h3
  · exact hB.trans (hb.mono hB.size)

set_option maxHeartbeats 6000000 in
theorem refCheck_any (m : Int) (v : Value) (gs : List (Int × Int)) (w : World) (hv : IsGrants w v gs) :
    Calls Try.prog 9 #[.agg #[.int .i64 m, v]] w fun e w' => e = .returned (.int .i64 (chkErr m gs)) ∧ Below w.heap.size w w' := by
  have hbel : Below w.heap.size w (w.alloc (.cells #[.int .i64 m, v] 24)) := (Below.refl _ w).alloc (Nat.le_refl _) _
  have hB := between_any m 1 6
  by_cases hm : 1 ≤ m ∧ m ≤ 6
  · have hd : decide (1 ≤ m ∧ m ≤ 6) = true := decide_eq_true hm
    rw [hd] at hB
    have HB := hide hB
    clear hB hd
    have hvo := isGrants_over hv hbel
    obtain ⟨ao, cap, rfl, hcc⟩ := hv
    by_cases hn : gs.length ≤ 20
    · have hE : chkErr m gs = if gs.any (badG m) = true then 5 else 0 := by unfold chkErr; rw [if_pos hm, if_pos hn]
      have HE := hide hE
      clear hE
      go_enter Try.func9, Try.ntmps9
      go_wp2_with fail
      refine (HB.out _).mono ?_
      rintro e w1 ⟨rfl, rfl⟩
      go_wp2_with fail
      go_loopw [3] (fun i wr => ∃ k : Nat, k ≤ gs.length ∧ i = .int .i64 k ∧ (gs.take k).any (badG m) = false ∧ wr.cell? ⟨w.heap.size, 0, none⟩ = some (.int .i64 m) ∧ wr.cell? ⟨w.heap.size, 1, none⟩ = some (.slice ao gs.length cap) ∧ Below w.heap.size w wr) (fun i _ => gs.length - (intOf i).toNat)
      case atStart => exact ⟨0, Nat.zero_le _, rfl, rfl, by simp [go_sem], by simp [go_sem], hbel⟩
      case round =>
        obtain ⟨k, hk, rfl, hall, a0, a1, hbl⟩ := hrel
        have hz := World.block_lt_of_cell? wr _ a0
        by_cases hkl : k < gs.length
        · obtain ⟨b, off, rfl, hcl⟩ := hcc (by rintro rfl; simp at hkl)
          obtain ⟨q0, q1⟩ := hcl k hkl
          have hlt := World.block_lt_of_cell? w _ q0
          rw [← (bcell hbl).1 _ _ hlt] at q0 q1
          have K1 := fun w => isActor_any m gs[k].1 hm (.slice (some ⟨b, off, none⟩) gs.length cap) w
          have K2 := fun w => isActor_any m gs[k].2 hm (.slice (some ⟨b, off, none⟩) gs.length cap) w
          have htk : (gs.take (k + 1)).any (badG m) = (!isOne m gs[k].1 || !isOne m gs[k].2) := by
            rw [List.take_succ_eq_append_getElem hkl, List.any_append, hall]
            simp [badG]
          have hany : (!isOne m gs[k].1 || !isOne m gs[k].2) = true → gs.any (badG m) = true := fun h => List.any_eq_true.2 ⟨gs[k], List.getElem_mem hkl, h⟩
          obtain ⟨g0, hg0⟩ : ∃ r, r = gs[k].1 := ⟨_, rfl⟩
          obtain ⟨g1, hg1⟩ : ∃ r, r = gs[k].2 := ⟨_, rfl⟩
          rw [← hg0, ← hg1] at htk hany
          rw [← hg0] at q0 K1
          rw [← hg1] at q1 K2
          obtain ⟨r1, hr1⟩ : ∃ r, r = isOne m g0 := ⟨_, rfl⟩
          obtain ⟨r2, hr2⟩ : ∃ r, r = isOne m g1 := ⟨_, rfl⟩
          rw [← hr1, ← hr2] at htk hany
          rw [← hr1] at K1
          rw [← hr2] at K2
          have k1 := hide K1
          have k2 := hide K2
          have HA := hide hany
          have HT := hide htk
          clear K1 K2 hany htk hr1 hr2 hg0 hg1 hcl hcc hvo
          cases r1 with
          | false =>
            go_wp2_with fail
            refine wp_region_held_drew (S := (fun w' => w'.cell? ⟨w.heap.size, 0, none⟩ = some (.int .i64 m) ∧ w'.cell? ⟨w.heap.size, 1, none⟩ = some (.slice (some ⟨b, off, none⟩) gs.length cap) ∧ w'.cell? ⟨b, off + k * 2, none⟩ = some (.int .i64 g0) ∧ w'.cell? ⟨b, off + k * 2 + 1, none⟩ = some (.int .i64 g1) ∧ Below w.heap.size w w')) (by kernel_rfl) ⟨a0, a1, q0, q1, below_drewN hbl 1⟩ (fun hHeld => ?_)
            refine wpAnyH_take (i := 0) (v := ?_) rfl (by kernel_rfl) (by kernel_rfl) (by kernel_rfl) (fun _ _ _ h => h) (Or.inl ⟨by rfl, fun w hSw => ?_⟩) hHeld ?_
            rotate_left
            · go_simp; first | done | with_reducible rfl
            simp only [List.getElem_toArray, List.getElem_cons_zero, Act.put, List.setIfInBounds_toArray, List.set_cons_zero, List.set_cons_succ]
            refine wpAnyH_take (i := 1) (v := ?_) rfl (by kernel_rfl) (by kernel_rfl) (by kernel_rfl) (fun _ _ _ h => h) (Or.inl ⟨by rfl, fun w hSw => ?_⟩) hHeld ?_
            rotate_left
            · go_simp; first | done | with_reducible rfl
            simp only [List.getElem_toArray, List.getElem_cons_succ, List.getElem_cons_zero, Act.put, List.setIfInBounds_toArray, List.set_cons_zero, List.set_cons_succ]
            refine wpAnyH_take (i := 2) (v := ?_) rfl (by kernel_rfl) (by kernel_rfl) (by kernel_rfl) (fun _ _ _ h => h) (Or.inl ⟨by rfl, fun w hSw => ?_⟩) hHeld ?_
            rotate_left
            · go_simp; first | done | with_reducible rfl
            simp only [List.getElem_toArray, List.getElem_cons_succ, List.getElem_cons_zero, Act.put, List.setIfInBounds_toArray, List.set_cons_zero, List.set_cons_succ]
            refine wpAnyH_take (i := 3) (v := ?_) rfl (by kernel_rfl) (by kernel_rfl) (by kernel_rfl) (fun _ _ _ h => h) (Or.inl ⟨by rfl, fun w hSw => ?_⟩) hHeld ?_
            rotate_left
            · go_simp; first | done | with_reducible rfl
            simp only [List.getElem_toArray, List.getElem_cons_succ, List.getElem_cons_zero, Act.put, List.setIfInBounds_toArray, List.set_cons_zero, List.set_cons_succ]
            refine wpAnyH_take (i := 4) (v := ?_) rfl (by kernel_rfl) (by kernel_rfl) (by kernel_rfl) (fun _ _ _ h => h) (Or.inl ⟨by rfl, fun w hSw => ?_⟩) hHeld ?_
            rotate_left
            · go_simp; first | done | with_reducible rfl
            simp only [List.getElem_toArray, List.getElem_cons_succ, List.getElem_cons_zero, Act.put, List.setIfInBounds_toArray, List.set_cons_zero, List.set_cons_succ]
            refine wpAnyH_take (i := 5) (v := ?_) rfl (by kernel_rfl) (by kernel_rfl) (by kernel_rfl) (fun _ _ _ h => h) (Or.inl ⟨by rfl, fun w hSw => ?_⟩) hHeld ?_
            rotate_left
            · go_simp; first | done | with_reducible rfl
            simp only [List.getElem_toArray, List.getElem_cons_succ, List.getElem_cons_zero, Act.put, List.setIfInBounds_toArray, List.set_cons_zero, List.set_cons_succ]
            refine wpAnyH_take (i := 6) (v := ?_) rfl (by kernel_rfl) (by kernel_rfl) (by kernel_rfl) (fun _ _ _ h => h) (Or.inl ⟨by rfl, fun w hSw => ?_⟩) hHeld ?_
            rotate_left
            · go_simp; first | done | with_reducible rfl
            simp only [List.getElem_toArray, List.getElem_cons_succ, List.getElem_cons_zero, Act.put, List.setIfInBounds_toArray, List.set_cons_zero, List.set_cons_succ]
            refine wpAnyH_ready (rs := [7]) (by kernel_rfl) (by simp) ?_
            refine AllReadyH.cons rfl (fun K hK => ?_) AllReadyH.nil
            go_simp
            go_at_call 34
            refine (k1.out _).mono ?_
            rintro e w1 ⟨rfl, hb1⟩
            refine hK.out _ _ (held4 hHeld hb1) (fun hHeld => ?_)
            refine wpAnyH_take (i := 8) (v := ?_) rfl (by kernel_rfl) (by kernel_rfl) (by kernel_rfl) (fun _ _ _ h => h) (Or.inl ⟨by rfl, fun w hSw => ?_⟩) hHeld ?_
            rotate_left
            · go_simp; first | done | with_reducible rfl
            simp only [List.getElem_toArray, List.getElem_cons_succ, List.getElem_cons_zero, Act.put, List.setIfInBounds_toArray, List.set_cons_zero, List.set_cons_succ]
            refine wpAnyH_take (i := 9) (v := ?_) rfl (by kernel_rfl) (by kernel_rfl) (by kernel_rfl) (fun _ _ _ h => h) (Or.inl ⟨by rfl, fun w hSw => ?_⟩) hHeld ?_
            rotate_left
            · go_simp; first | done | with_reducible rfl
            simp only [List.getElem_toArray, List.getElem_cons_succ, List.getElem_cons_zero, Act.put, List.setIfInBounds_toArray, List.set_cons_zero, List.set_cons_succ]
            refine wpAnyH_take (i := 10) (v := undef) rfl (by kernel_rfl) (by kernel_rfl) (by kernel_rfl) (fun _ _ _ h => h) (Or.inr ⟨by rfl, rfl⟩) hHeld ?_
            simp only [List.getElem_toArray, List.getElem_cons_succ, List.getElem_cons_zero, Act.put, List.setIfInBounds_toArray, List.set_cons_zero, List.set_cons_succ]
            refine wpAnyH_take (i := 11) (v := undef) rfl (by kernel_rfl) (by kernel_rfl) (by kernel_rfl) (fun _ _ _ h => h) (Or.inr ⟨by rfl, rfl⟩) hHeld ?_
            simp only [List.getElem_toArray, List.getElem_cons_succ, List.getElem_cons_zero, Act.put, List.setIfInBounds_toArray, List.set_cons_zero, List.set_cons_succ]
            refine wpAnyH_take (i := 12) (v := undef) rfl (by kernel_rfl) (by kernel_rfl) (by kernel_rfl) (fun _ _ _ h => h) (Or.inr ⟨by rfl, rfl⟩) hHeld ?_
            simp only [List.getElem_toArray, List.getElem_cons_succ, List.getElem_cons_zero, Act.put, List.setIfInBounds_toArray, List.set_cons_zero, List.set_cons_succ]
            refine wpAnyH_take (i := 13) (v := undef) rfl (by kernel_rfl) (by kernel_rfl) (by kernel_rfl) (fun _ _ _ h => h) (Or.inr ⟨by rfl, rfl⟩) hHeld ?_
            simp only [List.getElem_toArray, List.getElem_cons_succ, List.getElem_cons_zero, Act.put, List.setIfInBounds_toArray, List.set_cons_zero, List.set_cons_succ]
            refine wpAnyH_take (i := 14) (v := undef) rfl (by kernel_rfl) (by kernel_rfl) (by kernel_rfl) (fun _ _ _ h => h) (Or.inr ⟨by rfl, rfl⟩) hHeld ?_
            simp only [List.getElem_toArray, List.getElem_cons_succ, List.getElem_cons_zero, Act.put, List.setIfInBounds_toArray, List.set_cons_zero, List.set_cons_succ]
            refine wpAnyH_take (i := 15) (v := undef) rfl (by kernel_rfl) (by kernel_rfl) (by kernel_rfl) (fun _ _ _ h => h) (Or.inr ⟨by rfl, rfl⟩) hHeld ?_
            simp only [List.getElem_toArray, List.getElem_cons_succ, List.getElem_cons_zero, Act.put, List.setIfInBounds_toArray, List.set_cons_zero, List.set_cons_succ]
            refine wpAnyH_take (i := 16) (v := undef) rfl (by kernel_rfl) (by kernel_rfl) (by kernel_rfl) (fun _ _ _ h => h) (Or.inr ⟨by rfl, rfl⟩) hHeld ?_
            simp only [List.getElem_toArray, List.getElem_cons_succ, List.getElem_cons_zero, Act.put, List.setIfInBounds_toArray, List.set_cons_zero, List.set_cons_succ]
            refine wpAnyH_take (i := 17) (v := undef) rfl (by kernel_rfl) (by kernel_rfl) (by kernel_rfl) (fun _ _ _ h => h) (Or.inr ⟨by rfl, rfl⟩) hHeld ?_
            simp only [List.getElem_toArray, List.getElem_cons_succ, List.getElem_cons_zero, Act.put, List.setIfInBounds_toArray, List.set_cons_zero, List.set_cons_succ]
            refine wpAnyH_take (i := 18) (v := undef) rfl (by kernel_rfl) (by kernel_rfl) (by kernel_rfl) (fun _ _ _ h => h) (Or.inr ⟨by rfl, rfl⟩) hHeld ?_
            simp only [List.getElem_toArray, List.getElem_cons_succ, List.getElem_cons_zero, Act.put, List.setIfInBounds_toArray, List.set_cons_zero, List.set_cons_succ]
            refine wpAnyH_take (i := 19) (v := ?_) rfl (by kernel_rfl) (by kernel_rfl) (by kernel_rfl) (fun _ _ _ h => h) (Or.inl ⟨by rfl, fun w hSw => ?_⟩) hHeld ?_
            rotate_left
            · go_simp; first | done | with_reducible rfl
            simp only [List.getElem_toArray, List.getElem_cons_succ, List.getElem_cons_zero, Act.put, List.setIfInBounds_toArray, List.set_cons_zero, List.set_cons_succ]
            refine wpAnyH_done (by kernel_rfl) ?_ _
            go_wp2_with fail
            go_ret
            exact ⟨by rw [HE.out, if_pos (HA.out (by simp))]; rfl, hHeld.2.2.2.2⟩
          | true =>
            cases r2 with
            | false =>
              go_wp2_with fail
              first | go_region_held3 (fun w' => w'.cell? ⟨w.heap.size, 0, none⟩ = some (.int .i64 m) ∧ w'.cell? ⟨w.heap.size, 1, none⟩ = some (.slice (some ⟨b, off, none⟩) gs.length cap) ∧ w'.cell? ⟨b, off + k * 2, none⟩ = some (.int .i64 g0) ∧ w'.cell? ⟨b, off + k * 2 + 1, none⟩ = some (.int .i64 g1) ∧ Below w.heap.size w w') (first | assumption | exact ⟨a0, a1, q0, q1, below_drewN hbl 1⟩ | exact held4 (by assumption) hb1) (first | (go_at_call 34; (first | refine (k1.out _).mono ?_ | refine (k2.out _).mono ?_); rintro e w1 ⟨rfl, hb1⟩)) | fail
              all_goals go_wp2_with fail
              all_goals go_ret
              all_goals exact ⟨by rw [HE.out, if_pos (HA.out (by simp))]; rfl, (by assumption : _ ∧ _ ∧ _ ∧ _ ∧ _).2.2.2.2⟩
            | true =>
              go_wp2_with fail
              first | go_region_held3 (fun w' => w'.cell? ⟨w.heap.size, 0, none⟩ = some (.int .i64 m) ∧ w'.cell? ⟨w.heap.size, 1, none⟩ = some (.slice (some ⟨b, off, none⟩) gs.length cap) ∧ w'.cell? ⟨b, off + k * 2, none⟩ = some (.int .i64 g0) ∧ w'.cell? ⟨b, off + k * 2 + 1, none⟩ = some (.int .i64 g1) ∧ Below w.heap.size w w') (first | assumption | exact ⟨a0, a1, q0, q1, below_drewN hbl 1⟩ | exact held4 (by assumption) hb1) (first | (go_at_call 34; (first | refine (k1.out _).mono ?_ | refine (k2.out _).mono ?_); rintro e w1 ⟨rfl, hb1⟩)) | fail
              all_goals go_wp2_with fail
              all_goals exact ⟨⟨k + 1, by omega, by go_num, HT.out, (by assumption : _ ∧ _ ∧ _ ∧ _ ∧ _).1, (by assumption : _ ∧ _ ∧ _ ∧ _ ∧ _).2.1, (by assumption : _ ∧ _ ∧ _ ∧ _ ∧ _).2.2.2.2⟩, by simp [intOf]; omega⟩
        · have hke : k = gs.length := by omega
          rw [hke, List.take_length] at hall
          have hx : chkErr m gs = 0 := by rw [HE.out, hall]; rfl
          clear hall hcc HE
          have HX := hide hx
          clear hx
          go_wp2_with fail
          go_ret
          exact ⟨by rw [HX.out]; rfl, hbl⟩
    · have hE : chkErr m gs = 2 := by unfold chkErr; rw [if_pos hm, if_neg hn]
      have HE := hide hE
      clear hE
      go_enter Try.func9, Try.ntmps9
      go_wp2_with fail
      refine (HB.out _).mono ?_
      rintro e w1 ⟨rfl, rfl⟩
      go_wp2_with fail
      go_ret
      exact ⟨by rw [HE.out]; rfl, hbel⟩
  · have hd : decide (1 ≤ m ∧ m ≤ 6) = false := decide_eq_false hm
    rw [hd] at hB
    have HB := hide hB
    have hE : chkErr m gs = 3 := by unfold chkErr; rw [if_neg hm]
    have HE := hide hE
    clear hB hd hE
    go_enter Try.func9, Try.ntmps9
    go_wp2_with fail
    refine (HB.out _).mono ?_
    rintro e w1 ⟨rfl, rfl⟩
    go_wp2_with fail
    go_ret
    exact ⟨by rw [HE.out]; rfl, hbel⟩
theorem pass_take {gn : List (Nat × Nat)} {j : Nat} (h : j < gn.length) (l : List Bool) : pass (gn.take (j + 1)) l = stepG (pass (gn.take j) l) gn[j] := by
  unfold pass
  rw [List.take_succ_eq_append_getElem h, List.foldl_append]
  rfl

/-- where it stands. -/
def RefSt (w : World) (n : Nat) (v : Value) (l : List Bool) (W : World) : Prop :=
  W.cell? ⟨w.heap.size, 0, none⟩ = some (.int .i64 n) ∧ W.cell? ⟨w.heap.size, 1, none⟩ = some v ∧ KnownAt W (w.heap.size + 1) l ∧ Below w.heap.size w W

set_option maxHeartbeats 1000000 in
theorem refActs_any (n who other : Nat) (hn : n ≤ 6) (hw : who < n) (ho : other < n) (v : Value) (gn : List (Nat × Nat)) (w : World) (hv : IsGrants w v (gn.map toI)) (hlen : gn.length ≤ 20) (hb : ∀ g ∈ gn, g.1 < n ∧ g.2 < n) :
    Calls Try.prog 25 #[.agg #[.int .i64 n, v], .int .i64 who, .int .i64 other] w fun e w' => e = .returned (.bool ((acts gn n who)[other]?.getD false)) ∧ Below w.heap.size w w' := by
  have hmk := fun w => make35 n hn w
  have hst : RefSt w n v (start n who) ((w.alloc (Obj.cells #[Value.int IntKind.i64 n, v] 24)).alloc (Obj.cells ((Array.replicate n (Value.bool false)).setIfInBounds who (Value.bool true)) 4)) := by
    refine ⟨by simp [go_sem], by simp [go_sem], fun i hi => ?_, ?_⟩
    · have hi' : i < n := by simpa [start] using hi
      refine ⟨?_, by simp [go_sem]⟩
      simp [go_sem, start, List.getElem_set, hi']
      by_cases e : who = i
      · simp [e]
      · simp [e, hi']
    · exact ((Below.refl _ w).alloc (Nat.le_refl _) _).alloc (by simp) _
  obtain ⟨ao, cap, hve, hcc⟩ := hv
  rw [List.length_map] at hve
  subst hve
  go_enter Try.func25, Try.ntmps25
  go_wp2_with fail
  go_loopw [8] (fun i wr => ∃ k : Nat, k ≤ n ∧ i = .int .i64 k ∧ RefSt w n (.slice ao gn.length cap) (passes gn k (start n who)) wr) (fun i _ => n - (intOf i).toNat)
  case atStart => exact ⟨0, Nat.zero_le _, rfl, hst⟩
  case round =>
    obtain ⟨k, hk, rfl, hs1⟩ := hrel
    clear hst hmk
    have HS := hide hs1
    obtain ⟨s0, s1, s2, s3⟩ := hs1
    by_cases hkn : k < n
    · clear s2
      go_wp2_with fail
      go_loopw [9] (fun i wr => ∃ j : Nat, j ≤ gn.length ∧ i = .int .i64 j ∧ RefSt w n (.slice ao gn.length cap) (pass (gn.take j) (passes gn k (start n who))) wr) (fun i _ => gn.length - (intOf i).toNat)
      case atStart => exact ⟨0, Nat.zero_le _, rfl, HS.out⟩
      case round =>
        clear HS s0 s1 s3
        obtain ⟨j, hj, rfl, hs2⟩ := hrel
        obtain ⟨l, hl⟩ : ∃ l, l = pass (gn.take j) (passes gn k (start n who)) := ⟨_, rfl⟩
        have hll : l.length = n := by rw [hl, pass_length, passes_length, start_length]
        have hnext : j < gn.length → ∀ W, RefSt w n (.slice ao gn.length cap) (stepG l (gn[j]?.getD (0, 0))) W → RefSt w n (.slice ao gn.length cap) (pass (gn.take (j + 1)) (passes gn k (start n who))) W := fun h W hW => by
          rw [pass_take h, ← hl]
          simpa [h] using hW
        have HN := hide hnext
        rw [← hl] at hs2
        have HS2 := hide hs2
        obtain ⟨s0, s1, s2, s3⟩ := hs2
        by_cases hjl : j < gn.length
        · obtain ⟨b, off, rfl, hcl⟩ := hcc (by intro h; rw [List.map_eq_nil_iff] at h; rw [h] at hjl; simp at hjl)
          obtain ⟨q0, q1⟩ := hcl j (by simpa using hjl)
          have hlt := World.block_lt_of_cell? w _ q0
          rw [← (bcell s3).1 _ _ hlt] at q0 q1
          simp only [List.getElem_map, toI] at q0 q1
          obtain ⟨hg1, hg2⟩ := hb _ (List.getElem_mem hjl)
          obtain ⟨d0, d0f⟩ := s2 gn[j].1 (by omega)
          obtain ⟨d1, d1f⟩ := s2 gn[j].2 (by omega)
          have hx : gn[j]?.getD (0, 0) = (gn[j].1, gn[j].2) := by simp [hjl]
          obtain ⟨gw, hgw⟩ : ∃ r, r = gn[j].1 := ⟨_, rfl⟩
          obtain ⟨gf, hgf⟩ : ∃ r, r = gn[j].2 := ⟨_, rfl⟩
          simp only [← hgw, ← hgf] at q0 q1 d0 d0f d1 d1f hg1 hg2 hx
          have hgw' : gw < l.length := by omega
          have hgf' : gf < l.length := by omega
          obtain ⟨bw, hbw⟩ : ∃ r, r = l[gw] := ⟨_, rfl⟩
          obtain ⟨bf, hbf⟩ : ∃ r, r = l[gf] := ⟨_, rfl⟩
          rw [← hbw] at d0
          rw [← hbf] at d1
          have HX := hide hx
          have HNN := hide (HN.out hjl)
          have HBW := hide hbw
          cases bw with
          | true =>
            have hset : RefSt w n (.slice (some ⟨b, off, none⟩) gn.length cap) (l.set gf true) (wr.setCell ⟨w.heap.size + 1, gf, none⟩ (.bool true)) := by
              refine ⟨?_, ?_, known_set s2 hgf' true, s3.setCell (by simp) _⟩
              · rw [World.cell?_setCell_other _ _ _ _ (by simp)]; exact s0
              · rw [World.cell?_setCell_other _ _ _ _ (by simp)]; exact s1
            have HSET := hide hset
            clear hset hx hbw hbf hgw hgf hcl hcc hnext s2 hl HS2 hb
            go_wp2_with fail
            refine ⟨⟨j + 1, by omega, by go_num, HNN.out _ ?_⟩, by simp [intOf]; omega⟩
            rw [HX.out]
            unfold stepG
            rw [if_pos (by simp [hgw', ← HBW.out])]
            exact HSET.out
          | false =>
            clear hx hbw hbf hgw hgf hcl hcc hnext s2 hl hb
            go_wp2_with fail
            refine ⟨⟨j + 1, by omega, by go_num, HNN.out _ ?_⟩, by simp [intOf]; omega⟩
            rw [HX.out]
            unfold stepG
            rw [if_neg (by simp [hgw', ← HBW.out])]
            exact HS2.out
        · have hje : j = gn.length := by omega
          subst hje
          rw [List.take_length] at hl
          have hs3 : RefSt w n (.slice ao gn.length cap) (passes gn (k + 1) (start n who)) wr := by rw [passes, ← hl]; exact HS2.out
          have HS3 := hide hs3
          clear hs3 hnext HN HS2 hl s2 hcc hb
          go_wp2_with fail
          exact ⟨⟨k + 1, by omega, by go_num, HS3.out⟩, by simp [intOf]; omega⟩
    · have hke : k = n := by omega
      subst hke
      have hin : other < (acts gn k who).length := by rw [acts_length]; exact ho
      obtain ⟨d0, -⟩ := s2 other hin
      have he : (acts gn k who)[other]?.getD false = (acts gn k who)[other] := by simp [hin]
      have HE := hide he
      have d1 : wr.cell? ⟨w.heap.size + 1, other, none⟩ = some (.bool (acts gn k who)[other]) := d0
      obtain ⟨r, hr⟩ : ∃ r, r = (acts gn k who)[other] := ⟨_, rfl⟩
      rw [← hr] at d1
      have HR := hide hr
      clear d0 hr he s2 hcc HS hb
      go_wp2_with fail
      go_ret
      exact ⟨by rw [HE.out, ← HR.out]; rfl, s3⟩
end Go.Proofs.Ytekgnjifopgboaa

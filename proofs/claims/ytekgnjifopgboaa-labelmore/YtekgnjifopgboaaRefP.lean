/- The document's own answer who may, by policies. -/
import Derived.Test.YtekgnjifopgboaaRefL
import Derived.Deep.CutRange
namespace Go.Proofs.Ytekgnjifopgboaa
open Go.RowKit
set_option linter.unusedVariables false

/-- a slice that holds numbers. -/
def IsInts (w : World) (v : Value) (l : List Int) : Prop :=
  ∃ ao cap, v = .slice ao l.length cap ∧ (l ≠ [] → ∃ b off, ao = some ⟨b, off, none⟩ ∧ ∀ i (h : i < l.length), w.cell? ⟨b, off + i, none⟩ = some (.int .i64 l[i]))

theorem isInts_over {w w' : World} {v : Value} {l : List Int} (h : IsInts w v l) (hb : Below w.heap.size w w') : IsInts w' v l := by
  obtain ⟨ao, cap, rfl, hc⟩ := h
  refine ⟨ao, cap, rfl, fun hne => ?_⟩
  obtain ⟨b, off, rfl, hcl⟩ := hc hne
  refine ⟨b, off, rfl, fun i hi => ?_⟩
  have h1 := hcl i hi
  rw [(bcell hb).1 _ _ (World.block_lt_of_cell? w _ h1)]
  exact h1

structure Pol where
  owner : Int
  names : List Int

/-- a slice that holds policies. -/
def IsPols (w : World) (v : Value) (ps : List Pol) : Prop :=
  ∃ ao cap, v = .slice ao ps.length cap ∧ (ps ≠ [] → ∃ b off, ao = some ⟨b, off, none⟩ ∧ ∀ i (h : i < ps.length), w.cell? ⟨b, off + i * 2, none⟩ = some (.int .i64 ps[i].owner) ∧ ∃ nv, w.cell? ⟨b, off + i * 2 + 1, none⟩ = some nv ∧ IsInts w nv ps[i].names)

theorem isPols_over {w w' : World} {v : Value} {ps : List Pol} (h : IsPols w v ps) (hb : Below w.heap.size w w') : IsPols w' v ps := by
  obtain ⟨ao, cap, rfl, hc⟩ := h
  refine ⟨ao, cap, rfl, fun hne => ?_⟩
  obtain ⟨b, off, rfl, hcl⟩ := hc hne
  refine ⟨b, off, rfl, fun i hi => ?_⟩
  obtain ⟨h1, nv, h2, h3⟩ := hcl i hi
  exact ⟨by rw [(bcell hb).1 _ _ (World.block_lt_of_cell? w _ h1)]; exact h1, nv, by rw [(bcell hb).1 _ _ (World.block_lt_of_cell? w _ h2)]; exact h2, isInts_over h3 hb⟩

/-- does one act for another one? -/
def actB (gn : List (Nat × Nat)) (n who : Nat) (x : Int) : Bool := (acts gn n who)[x.toNat]?.getD false
def polB (gn : List (Nat × Nat)) (n who : Nat) (p : Pol) : Bool := actB gn n who p.owner || p.names.any (actB gn n who)
def mayB (gn : List (Nat × Nat)) (n who : Nat) (ps : List Pol) : Bool := ps.all (polB gn n who)
def polIn (n : Nat) (p : Pol) : Prop := (0 ≤ p.owner ∧ p.owner < n) ∧ p.names.length ≤ 6 ∧ ∀ x ∈ p.names, 0 ≤ x ∧ x < (n : Int)

theorem refActs_int (n who : Nat) (x : Int) (hn : n ≤ 6) (hw : who < n) (hx : 0 ≤ x ∧ x < n) (v : Value) (gn : List (Nat × Nat)) (w : World) (hv : IsGrants w v (gn.map toI)) (hlen : gn.length ≤ 20) (hb : ∀ g ∈ gn, g.1 < n ∧ g.2 < n) :
    Calls Try.prog 25 #[.agg #[.int .i64 n, v], .int .i64 who, .int .i64 x] w fun e w' => e = .returned (.bool (actB gn n who x)) ∧ Below w.heap.size w w' := by
  have h := refActs_any n who x.toNat hn hw (by omega) v gn w hv hlen hb
  have e : ((x.toNat : Nat) : Int) = x := by omega
  rw [e] at h
  exact h

/-- three cells that are kept where all below is kept. -/
theorem held3c {w w0 w1 : World} {b0 o0 b1 o1 b2 o2 : Nat} {v0 v1 v2 : Value} (h : w0.cell? ⟨b0, o0, none⟩ = some v0 ∧ w0.cell? ⟨b1, o1, none⟩ = some v1 ∧ w0.cell? ⟨b2, o2, none⟩ = some v2 ∧ Below w.heap.size w w0)
    (hb : Below w0.heap.size w0 w1) : w1.cell? ⟨b0, o0, none⟩ = some v0 ∧ w1.cell? ⟨b1, o1, none⟩ = some v1 ∧ w1.cell? ⟨b2, o2, none⟩ = some v2 ∧ Below w.heap.size w w1 := by
  obtain ⟨h0, h1, h2, hB⟩ := h
  obtain ⟨hc, hf⟩ := bcell hb
  refine ⟨?_, ?_, ?_, hB.trans (hb.mono hB.size)⟩
  · rw [hc _ _ (World.block_lt_of_cell? w0 _ h0)]; exact h0
  · rw [hc _ _ (World.block_lt_of_cell? w0 _ h1)]; exact h1
  · rw [hc _ _ (World.block_lt_of_cell? w0 _ h2)]; exact h2

set_option maxHeartbeats 4000000 in
theorem may_any (n who : Nat) (hn : n ≤ 6) (hw : who < n) (v vp : Value) (gn : List (Nat × Nat)) (ps : List Pol) (w : World) (hv : IsGrants w v (gn.map toI)) (hlen : gn.length ≤ 20) (hb : ∀ g ∈ gn, g.1 < n ∧ g.2 < n)
    (hp : IsPols w vp ps) (hps : ps.length ≤ 4) (hin : ∀ p ∈ ps, polIn n p) :
    Calls Try.prog 36 #[.agg #[.int .i64 n, v], .int .i64 who, vp] w fun e w' => e = .returned (.bool (mayB gn n who ps)) ∧ Below w.heap.size w w' := by
  have KX := hide fun (x : Int) (hx : 0 ≤ x ∧ x < n) (W : World) (hW : Below w.heap.size w W) => refActs_int n who x hn hw hx v gn W (isGrants_over hv hW) hlen hb
  have HIN := hide hin
  obtain ⟨ao, cap, rfl, hcc⟩ := hp
  have HCC := hide hcc
  clear hv hb hin hcc
  go_enter Try.func36, Try.ntmps36
  go_wp2_with fail
  go_loopw [7] (fun i wr => ∃ k : Nat, k ≤ ps.length ∧ i = .int .i64 k ∧ mayB gn n who (ps.take k) = true ∧ wr.cell? ⟨w.heap.size, 0, none⟩ = some (.int .i64 n) ∧ wr.cell? ⟨w.heap.size, 1, none⟩ = some v ∧ Below w.heap.size w wr) (fun i _ => ps.length - (intOf i).toNat)
  case atStart => exact ⟨0, Nat.zero_le _, rfl, rfl, by simp [go_sem], by simp [go_sem], (Below.refl _ w).alloc (Nat.le_refl _) _⟩
  case round =>
    obtain ⟨k, hk, rfl, hall, c0, c1, hbl⟩ := hrel
    by_cases hkl : k < ps.length
    · obtain ⟨b, off, rfl, hcl⟩ := HCC.out (by rintro rfl; simp at hkl)
      obtain ⟨q0, nv, q1, q2⟩ := hcl k hkl
      have lt0 := World.block_lt_of_cell? w _ q0
      obtain ⟨⟨ho1, ho2⟩, hnl, hni⟩ := HIN.out ps[k] (List.getElem_mem hkl)
      have hstep : polB gn n who ps[k] = true → mayB gn n who (ps.take (k + 1)) = true := fun h => by
        unfold mayB at hall ⊢
        rw [List.take_succ_eq_append_getElem hkl, List.all_append, hall]
        simp [h]
      have hstop : polB gn n who ps[k] = false → mayB gn n who ps = false := fun h => by
        unfold mayB
        rw [List.all_eq_false]
        exact ⟨ps[k], List.getElem_mem hkl, by simp [h]⟩
      have hpol : polB gn n who ps[k] = (actB gn n who ps[k].owner || ps[k].names.any (actB gn n who)) := rfl
      obtain ⟨ow, how⟩ : ∃ r, r = ps[k].owner := ⟨_, rfl⟩
      obtain ⟨ns, hns⟩ : ∃ r, r = ps[k].names := ⟨_, rfl⟩
      rw [← how] at q0 ho1 ho2 hpol
      rw [← hns] at q2 hnl hni hpol
      obtain ⟨nao, ncap, rfl, hnn⟩ := q2
      have q0' := q0
      have q1' := q1
      rw [← (bcell hbl).1 _ _ lt0] at q0 q1
      have HST := hide hstep
      have HSP := hide hstop
      have HP := hide hpol
      have HNN := hide hnn
      have HNI := hide hni
      have HQ1 := hide q1'
      have hcall := KX.out ow ⟨ho1, ho2⟩
      obtain ⟨x, hx⟩ : ∃ x, x = actB gn n who ow := ⟨_, rfl⟩
      rw [← hx] at hcall
      have HCALL := hide hcall
      have HX := hide hx
      clear hstep hstop hpol hnn hni hcall hx how hns hcl hall q0' q1'
      go_wp2_with fail
      first | go_region_held3 (fun w' => w'.cell? ⟨w.heap.size, 0, none⟩ = some (.int .i64 n) ∧ w'.cell? ⟨w.heap.size, 1, none⟩ = some v ∧ w'.cell? ⟨b, off + k * 2, none⟩ = some (.int .i64 ow) ∧ Below w.heap.size w w') (first | assumption | exact ⟨c0, c1, q0, below_drewN hbl 1⟩ | exact held3c (by assumption) hb1) (first | (go_at_call 25; refine (HCALL.out _ (by assumption : _ ∧ _ ∧ _ ∧ _).2.2.2).mono ?_; rintro e w1 ⟨rfl, hb1⟩)) | fail
      all_goals go_wp2_with fail
      all_goals obtain ⟨d0, d1, d2, dB⟩ := (by assumption : _ ∧ _ ∧ _ ∧ Below _ _ _)
      clear c0 c1 hbl q0 q1 d2
      go_loopw [8, 9] (fun ok i wr' => ∃ j : Nat, j ≤ ns.length ∧ i = .int .i64 j ∧ ok = .bool (x || (ns.take j).any (actB gn n who)) ∧ wr'.cell? ⟨w.heap.size, 0, none⟩ = some (.int .i64 n) ∧ wr'.cell? ⟨w.heap.size, 1, none⟩ = some v ∧ Below w.heap.size w wr') (fun _ i _ => ns.length - (intOf i).toNat)
      case atStart => exact ⟨0, Nat.zero_le _, rfl, by simp, d0, d1, dB⟩
      case round =>
        clear d0 d1 dB
        obtain ⟨j, hj, rfl, rfl, d0, d1, dB⟩ := hrel
        have r1 := HQ1.out
        rw [← (bcell dB).1 _ _ lt0] at r1
        by_cases hjl : j < ns.length
        · obtain ⟨nb, no, rfl, hnc⟩ := HNN.out (by rintro rfl; simp at hjl)
          have e1 := hnc j hjl
          rw [← (bcell dB).1 _ _ (World.block_lt_of_cell? w _ e1)] at e1
          have hy := HNI.out ns[j] (List.getElem_mem hjl)
          have hnext : (x || (ns.take (j + 1)).any (actB gn n who)) = ((x || (ns.take j).any (actB gn n who)) || actB gn n who ns[j]) := by
            rw [List.take_succ_eq_append_getElem hjl, List.any_append]
            simp [Bool.or_assoc]
          obtain ⟨ok, hok⟩ : ∃ o, o = (x || (ns.take j).any (actB gn n who)) := ⟨_, rfl⟩
          obtain ⟨y, hye⟩ : ∃ y, y = ns[j] := ⟨_, rfl⟩
          rw [← hye] at e1 hy hnext
          rw [← hok] at hnext
          have hcall := KX.out y hy
          obtain ⟨z, hz⟩ : ∃ z, z = actB gn n who y := ⟨_, rfl⟩
          rw [← hz] at hcall hnext
          have HCL := hide hcall
          have HNX := hide hnext
          rw [← hok]
          clear hcall hnext hz hye hnc hok HCALL
          cases ok with
          | true =>
            go_wp2_with fail
            refine wp_region_held_drew (S := (fun w' => w'.cell? ⟨w.heap.size, 0, none⟩ = some (.int .i64 n) ∧ w'.cell? ⟨w.heap.size, 1, none⟩ = some v ∧ w'.cell? ⟨b, off + k * 2 + 1, none⟩ = some (.slice (some ⟨nb, no, none⟩) ns.length ncap) ∧ w'.cell? ⟨nb, no + j, none⟩ = some (.int .i64 y) ∧ Below w.heap.size w w')) (by kernel_rfl) ⟨d0, d1, r1, e1, below_drewN dB 1⟩ (fun hHeld => ?_)
            refine wpAnyH_take (i := 0) (v := ?_) rfl (by kernel_rfl) (by kernel_rfl) (by kernel_rfl) (fun _ _ _ h => h) (Or.inl ⟨by rfl, fun w hSw => ?_⟩) hHeld ?_
            rotate_left
            · obtain ⟨t1, t2, t3, t4, -⟩ := hSw; go_simp; first | done | with_reducible rfl
            simp only [List.getElem_toArray, List.getElem_cons_zero, Act.put, List.setIfInBounds_toArray, List.set_cons_zero, List.set_cons_succ]
            refine wpAnyH_take (i := 1) (v := ?_) rfl (by kernel_rfl) (by kernel_rfl) (by kernel_rfl) (fun _ _ _ h => h) (Or.inl ⟨by rfl, fun w hSw => ?_⟩) hHeld ?_
            rotate_left
            · obtain ⟨t1, t2, t3, t4, -⟩ := hSw; go_simp; first | done | with_reducible rfl
            simp only [List.getElem_toArray, List.getElem_cons_succ, List.getElem_cons_zero, Act.put, List.setIfInBounds_toArray, List.set_cons_zero, List.set_cons_succ]
            refine wpAnyH_take (i := 2) (v := undef) rfl (by kernel_rfl) (by kernel_rfl) (by kernel_rfl) (fun _ _ _ h => h) (Or.inr ⟨by rfl, rfl⟩) hHeld ?_
            simp only [List.getElem_toArray, List.getElem_cons_succ, List.getElem_cons_zero, Act.put, List.setIfInBounds_toArray, List.set_cons_zero, List.set_cons_succ]
            refine wpAnyH_take (i := 3) (v := undef) rfl (by kernel_rfl) (by kernel_rfl) (by kernel_rfl) (fun _ _ _ h => h) (Or.inr ⟨by rfl, rfl⟩) hHeld ?_
            simp only [List.getElem_toArray, List.getElem_cons_succ, List.getElem_cons_zero, Act.put, List.setIfInBounds_toArray, List.set_cons_zero, List.set_cons_succ]
            refine wpAnyH_take (i := 4) (v := undef) rfl (by kernel_rfl) (by kernel_rfl) (by kernel_rfl) (fun _ _ _ h => h) (Or.inr ⟨by rfl, rfl⟩) hHeld ?_
            simp only [List.getElem_toArray, List.getElem_cons_succ, List.getElem_cons_zero, Act.put, List.setIfInBounds_toArray, List.set_cons_zero, List.set_cons_succ]
            refine wpAnyH_take (i := 5) (v := undef) rfl (by kernel_rfl) (by kernel_rfl) (by kernel_rfl) (fun _ _ _ h => h) (Or.inr ⟨by rfl, rfl⟩) hHeld ?_
            simp only [List.getElem_toArray, List.getElem_cons_succ, List.getElem_cons_zero, Act.put, List.setIfInBounds_toArray, List.set_cons_zero, List.set_cons_succ]
            refine wpAnyH_take (i := 6) (v := undef) rfl (by kernel_rfl) (by kernel_rfl) (by kernel_rfl) (fun _ _ _ h => h) (Or.inr ⟨by rfl, rfl⟩) hHeld ?_
            simp only [List.getElem_toArray, List.getElem_cons_succ, List.getElem_cons_zero, Act.put, List.setIfInBounds_toArray, List.set_cons_zero, List.set_cons_succ]
            refine wpAnyH_take (i := 7) (v := undef) rfl (by kernel_rfl) (by kernel_rfl) (by kernel_rfl) (fun _ _ _ h => h) (Or.inr ⟨by rfl, rfl⟩) hHeld ?_
            simp only [List.getElem_toArray, List.getElem_cons_succ, List.getElem_cons_zero, Act.put, List.setIfInBounds_toArray, List.set_cons_zero, List.set_cons_succ]
            refine wpAnyH_take (i := 8) (v := undef) rfl (by kernel_rfl) (by kernel_rfl) (by kernel_rfl) (fun _ _ _ h => h) (Or.inr ⟨by rfl, rfl⟩) hHeld ?_
            simp only [List.getElem_toArray, List.getElem_cons_succ, List.getElem_cons_zero, Act.put, List.setIfInBounds_toArray, List.set_cons_zero, List.set_cons_succ]
            refine wpAnyH_take (i := 9) (v := undef) rfl (by kernel_rfl) (by kernel_rfl) (by kernel_rfl) (fun _ _ _ h => h) (Or.inr ⟨by rfl, rfl⟩) hHeld ?_
            simp only [List.getElem_toArray, List.getElem_cons_succ, List.getElem_cons_zero, Act.put, List.setIfInBounds_toArray, List.set_cons_zero, List.set_cons_succ]
            refine wpAnyH_take (i := 10) (v := undef) rfl (by kernel_rfl) (by kernel_rfl) (by kernel_rfl) (fun _ _ _ h => h) (Or.inr ⟨by rfl, rfl⟩) hHeld ?_
            simp only [List.getElem_toArray, List.getElem_cons_succ, List.getElem_cons_zero, Act.put, List.setIfInBounds_toArray, List.set_cons_zero, List.set_cons_succ]
            refine wpAnyH_take (i := 11) (v := undef) rfl (by kernel_rfl) (by kernel_rfl) (by kernel_rfl) (fun _ _ _ h => h) (Or.inr ⟨by rfl, rfl⟩) hHeld ?_
            simp only [List.getElem_toArray, List.getElem_cons_succ, List.getElem_cons_zero, Act.put, List.setIfInBounds_toArray, List.set_cons_zero, List.set_cons_succ]
            refine wpAnyH_take (i := 12) (v := undef) rfl (by kernel_rfl) (by kernel_rfl) (by kernel_rfl) (fun _ _ _ h => h) (Or.inr ⟨by rfl, rfl⟩) hHeld ?_
            simp only [List.getElem_toArray, List.getElem_cons_succ, List.getElem_cons_zero, Act.put, List.setIfInBounds_toArray, List.set_cons_zero, List.set_cons_succ]
            refine wpAnyH_take (i := 13) (v := ?_) rfl (by kernel_rfl) (by kernel_rfl) (by kernel_rfl) (fun _ _ _ h => h) (Or.inl ⟨by rfl, fun w hSw => ?_⟩) hHeld ?_
            rotate_left
            · obtain ⟨t1, t2, t3, t4, -⟩ := hSw; go_simp; first | done | with_reducible rfl
            simp only [List.getElem_toArray, List.getElem_cons_succ, List.getElem_cons_zero, Act.put, List.setIfInBounds_toArray, List.set_cons_zero, List.set_cons_succ]
            refine wpAnyH_take (i := 14) (v := ?_) rfl (by kernel_rfl) (by kernel_rfl) (by kernel_rfl) (fun _ _ _ h => h) (Or.inl ⟨by rfl, fun w hSw => ?_⟩) hHeld ?_
            rotate_left
            · obtain ⟨t1, t2, t3, t4, -⟩ := hSw; go_simp; first | done | with_reducible rfl
            simp only [List.getElem_toArray, List.getElem_cons_succ, List.getElem_cons_zero, Act.put, List.setIfInBounds_toArray, List.set_cons_zero, List.set_cons_succ]
            refine wpAnyH_done (by kernel_rfl) ?_ _
            obtain ⟨f0, f1, -, -, fB⟩ := hHeld
            go_wp2_with fail
            exact ⟨⟨j + 1, by omega, by go_num, by rw [HNX.out]; simp, f0, f1, fB⟩, by simp [intOf]; omega⟩
          | false =>
            go_wp2_with fail
            first | go_region_held3 (fun w' => w'.cell? ⟨w.heap.size, 0, none⟩ = some (.int .i64 n) ∧ w'.cell? ⟨w.heap.size, 1, none⟩ = some v ∧ w'.cell? ⟨b, off + k * 2 + 1, none⟩ = some (.slice (some ⟨nb, no, none⟩) ns.length ncap) ∧ w'.cell? ⟨nb, no + j, none⟩ = some (.int .i64 y) ∧ Below w.heap.size w w') (first | assumption | exact ⟨d0, d1, r1, e1, below_drewN dB 1⟩ | exact held4 (by assumption) hb1) (first | (go_at_call 25; refine (HCL.out _ (by assumption : _ ∧ _ ∧ _ ∧ _ ∧ _).2.2.2.2).mono ?_; rintro e w1 ⟨rfl, hb1⟩)) | fail
            all_goals go_wp2_with fail
            all_goals obtain ⟨f0, f1, -, -, fB⟩ := (by assumption : _ ∧ _ ∧ _ ∧ _ ∧ Below _ _ _)
            all_goals exact ⟨⟨j + 1, by omega, by go_num, by rw [HNX.out]; simp, f0, f1, fB⟩, by simp [intOf]; omega⟩
        · have hje : j = ns.length := by omega
          rw [hje, List.take_length]
          have hpol := HP.out
          rw [← HX.out] at hpol
          obtain ⟨ok, hok⟩ : ∃ o, o = (x || ns.any (actB gn n who)) := ⟨_, rfl⟩
          rw [← hok] at hpol ⊢
          have HPL := hide hpol
          clear hok hpol
          subst hje
          cases ok with
          | true =>
            go_wp2_with fail
            exact ⟨⟨k + 1, by omega, by go_num, HST.out HPL.out, d0, d1, dB⟩, by simp [intOf]; omega⟩
          | false =>
            go_wp2_with fail
            go_ret
            exact ⟨by rw [HSP.out HPL.out]; rfl, dB⟩
    · have hke : k = ps.length := by omega
      rw [hke, List.take_length] at hall
      have HA := hide hall
      clear hall
      go_wp2_with fail
      go_ret
      exact ⟨by rw [HA.out]; rfl, hbl⟩
end Go.Proofs.Ytekgnjifopgboaa

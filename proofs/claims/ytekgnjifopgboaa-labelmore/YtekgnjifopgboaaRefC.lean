/- The document's own check of policies, and of labels. -/
import Derived.Test.YtekgnjifopgboaaRefP
namespace Go.Proofs.Ytekgnjifopgboaa
open Go.RowKit
set_option linter.unusedVariables false

def rises : List Int → Bool
  | x :: y :: l => decide (x < y) && rises (y :: l)
  | _ => true

def polErr (m : Int) (p : Pol) : Int :=
  if isOne m p.owner = true then (if p.names.length ≤ 6 then (if p.names.all (isOne m) = true then (if rises p.names = true then 0 else 4) else 5) else 2) else 5
def firstErr (m : Int) : List Pol → Int
  | [] => 0
  | p :: ps => if polErr m p = 0 then firstErr m ps else polErr m p
def polsErr (m : Int) (ps : List Pol) : Int := if ps.length ≤ 4 then firstErr m ps else 2

theorem firstErr_drop {m : Int} {ps : List Pol} {k : Nat} (hk : k < ps.length) : firstErr m (ps.drop k) = if polErr m ps[k] = 0 then firstErr m (ps.drop (k + 1)) else polErr m ps[k] := by
  rw [List.drop_eq_getElem_cons hk]
  rfl

theorem rises_iff (l : List Int) : rises l = true ↔ ∀ i (h : i + 1 < l.length), l[i] < l[i + 1] := by
  induction l with
  | nil => simp [rises]
  | cons x l ih =>
    cases l with
    | nil => simp [rises]
    | cons y l =>
      simp only [rises, Bool.and_eq_true, decide_eq_true_eq, ih]
      constructor
      · rintro ⟨h1, h2⟩ i hi
        cases i with
        | zero => exact h1
        | succ i => exact h2 i (by simpa using hi)
      · intro h
        exact ⟨h 0 (by simp), fun i hi => h (i + 1) (by simpa using hi)⟩

set_option maxRecDepth 100000 in
set_option maxHeartbeats 8000000 in
theorem checkPolicies_any (m : Int) (hm : 1 ≤ m ∧ m ≤ 6) (v vp : Value) (ps : List Pol) (w : World) (hp : IsPols w vp ps) :
    Calls Try.prog 35 #[.agg #[.int .i64 m, v], vp] w fun e w' => e = .returned (.int .i64 (polsErr m ps)) ∧ Below w.heap.size w w' := by
  have KI := hide fun (x : Int) (W : World) => isActor_any m x hm v W
  obtain ⟨ao, cap, rfl, hcc⟩ := hp
  have HCC := hide hcc
  have hbel : Below w.heap.size w (w.alloc (.cells #[.int .i64 m, v] 24)) := (Below.refl _ w).alloc (Nat.le_refl _) _
  clear hcc
  by_cases hps : ps.length ≤ 4
  · have hE : polsErr m ps = firstErr m ps := by unfold polsErr; rw [if_pos hps]
    have HE := hide hE
    clear hE
    go_enter Try.func35, Try.ntmps35
    go_wp2_with fail
    go_loopw [5] (fun i wr => ∃ k : Nat, k ≤ ps.length ∧ i = .int .i64 k ∧ firstErr m ps = firstErr m (ps.drop k) ∧ wr.cell? ⟨w.heap.size, 0, none⟩ = some (.int .i64 m) ∧ wr.cell? ⟨w.heap.size, 1, none⟩ = some v ∧ Below w.heap.size w wr) (fun i _ => ps.length - (intOf i).toNat)
    case atStart => exact ⟨0, Nat.zero_le _, rfl, rfl, by simp [go_sem], by simp [go_sem], hbel⟩
    case round =>
      clear hbel
      obtain ⟨k, hk, rfl, hfe, c0, c1, hbl⟩ := hrel
      by_cases hkl : k < ps.length
      · obtain ⟨b, off, rfl, hcl⟩ := HCC.out (by rintro rfl; simp at hkl)
        obtain ⟨q0, nv, q1, q2⟩ := hcl k hkl
        have lt0 := World.block_lt_of_cell? w _ q0
        rw [firstErr_drop hkl] at hfe
        have hpol : polErr m ps[k] = if isOne m ps[k].owner = true then (if ps[k].names.length ≤ 6 then (if ps[k].names.all (isOne m) = true then (if rises ps[k].names = true then 0 else 4) else 5) else 2) else 5 := rfl
        obtain ⟨pe, hpe⟩ : ∃ r, r = polErr m ps[k] := ⟨_, rfl⟩
        obtain ⟨ow, how⟩ : ∃ r, r = ps[k].owner := ⟨_, rfl⟩
        obtain ⟨ns, hns⟩ : ∃ r, r = ps[k].names := ⟨_, rfl⟩
        rw [← hpe] at hpol hfe
        rw [← how] at q0 hpol
        rw [← hns] at q2 hpol
        have hfe1 : pe ≠ 0 → polsErr m ps = pe := fun h => by rw [HE.out, hfe, if_neg h]
        have hfe0 : pe = 0 → firstErr m ps = firstErr m (ps.drop (k + 1)) := fun h => by rw [hfe, if_pos h]
        obtain ⟨nao, ncap, rfl, hnn⟩ := q2
        have HQ1 := hide q1
        rw [← (bcell hbl).1 _ _ lt0] at q0 q1
        have HP := hide hpol
        have HF1 := hide hfe1
        have HF0 := hide hfe0
        have HNN := hide hnn
        have hcall := KI.out ow
        obtain ⟨x, hx⟩ : ∃ x, x = isOne m ow := ⟨_, rfl⟩
        rw [← hx] at hcall
        have HX := hide hx
        have HCALL := hide hcall
        clear hpol hfe1 hfe0 hnn hcall hx hpe how hns hcl hfe
        cases x with
        | false =>
          have h5 : pe = 5 := by rw [HP.out, ← HX.out]; rfl
          have hr : polsErr m ps = 5 := by rw [HF1.out (by omega), h5]
          have HR := hide hr
          clear h5 hr q1
          go_wp2_with fail
          first | go_region_held3 (fun w' => w'.cell? ⟨w.heap.size, 0, none⟩ = some (.int .i64 m) ∧ w'.cell? ⟨w.heap.size, 1, none⟩ = some v ∧ w'.cell? ⟨b, off + k * 2, none⟩ = some (.int .i64 ow) ∧ Below w.heap.size w w') (first | assumption | exact ⟨c0, c1, q0, below_drewN hbl 1⟩ | exact held3c (by assumption) hb1) (first | (go_at_call 34; refine (HCALL.out _).mono ?_; rintro e w1 ⟨rfl, hb1⟩)) | fail
          all_goals obtain ⟨d0, d1, d2, dB⟩ := (by assumption : _ ∧ _ ∧ _ ∧ Below _ _ _)
          all_goals go_wp2_with fail
          all_goals go_ret
          all_goals exact ⟨by rw [HR.out]; rfl, dB⟩
        | true =>
          go_wp2_with fail
          first | go_region_held3 (fun w' => w'.cell? ⟨w.heap.size, 0, none⟩ = some (.int .i64 m) ∧ w'.cell? ⟨w.heap.size, 1, none⟩ = some v ∧ w'.cell? ⟨b, off + k * 2, none⟩ = some (.int .i64 ow) ∧ Below w.heap.size w w') (first | assumption | exact ⟨c0, c1, q0, below_drewN hbl 1⟩ | exact held3c (by assumption) hb1) (first | (go_at_call 34; refine (HCALL.out _).mono ?_; rintro e w1 ⟨rfl, hb1⟩)) | fail
          all_goals obtain ⟨d0, d1, d2, dB⟩ := (by assumption : _ ∧ _ ∧ _ ∧ Below _ _ _)
          clear c0 c1 hbl q0 q1 d2 HCALL
          have r1 := HQ1.out
          rw [← (bcell dB).1 _ _ lt0] at r1
          by_cases hnl : ns.length ≤ 6
          · have hpe2 : pe = if ns.all (isOne m) = true then (if rises ns = true then 0 else 4) else 5 := by rw [HP.out, ← HX.out, if_pos rfl, if_pos hnl]
            have HP2 := hide hpe2
            clear hpe2
            go_wp2_with fail
            go_loopw [6] (fun i wr' => ∃ j : Nat, j ≤ ns.length ∧ i = .int .i64 j ∧ (ns.take j).all (isOne m) = true ∧ wr'.cell? ⟨w.heap.size, 0, none⟩ = some (.int .i64 m) ∧ wr'.cell? ⟨w.heap.size, 1, none⟩ = some v ∧ Below w.heap.size w wr') (fun i _ => ns.length - (intOf i).toNat)
            case atStart => exact ⟨0, Nat.zero_le _, rfl, rfl, d0, d1, dB⟩
            case round =>
              clear d0 d1 dB r1
              obtain ⟨j, hj, rfl, hall, d0, d1, dB⟩ := hrel
              have r1 := HQ1.out
              rw [← (bcell dB).1 _ _ lt0] at r1
              by_cases hjl : j < ns.length
              · obtain ⟨nb, no, rfl, hnc⟩ := HNN.out (by rintro rfl; simp at hjl)
                have e1 := hnc j hjl
                rw [← (bcell dB).1 _ _ (World.block_lt_of_cell? w _ e1)] at e1
                have hnext : isOne m ns[j] = true → (ns.take (j + 1)).all (isOne m) = true := fun h => by
                  rw [List.take_succ_eq_append_getElem hjl, List.all_append, hall]
                  simp [h]
                have hstop : isOne m ns[j] = false → ns.all (isOne m) = false := fun h => by
                  rw [List.all_eq_false]
                  exact ⟨ns[j], List.getElem_mem hjl, by simp [h]⟩
                obtain ⟨y, hye⟩ : ∃ y, y = ns[j] := ⟨_, rfl⟩
                rw [← hye] at e1 hnext hstop
                have hcall := KI.out y
                obtain ⟨z, hz⟩ : ∃ z, z = isOne m y := ⟨_, rfl⟩
                rw [← hz] at hcall hnext hstop
                have HCL := hide hcall
                have HNX := hide hnext
                have HSP := hide hstop
                clear hcall hnext hstop hz hye hnc hall
                cases z with
                | true =>
                  go_wp2_with fail
                  first | go_region_held3 (fun w' => w'.cell? ⟨w.heap.size, 0, none⟩ = some (.int .i64 m) ∧ w'.cell? ⟨w.heap.size, 1, none⟩ = some v ∧ w'.cell? ⟨b, off + k * 2 + 1, none⟩ = some (.slice (some ⟨nb, no, none⟩) ns.length ncap) ∧ w'.cell? ⟨nb, no + j, none⟩ = some (.int .i64 y) ∧ Below w.heap.size w w') (first | assumption | exact ⟨d0, d1, r1, e1, below_drewN dB 1⟩ | exact held4 (by assumption) hb1) (first | (go_at_call 34; refine (HCL.out _).mono ?_; rintro e w1 ⟨rfl, hb1⟩)) | fail
                  all_goals obtain ⟨f0, f1, -, -, fB⟩ := (by assumption : _ ∧ _ ∧ _ ∧ _ ∧ Below _ _ _)
                  all_goals go_wp2_with fail
                  all_goals exact ⟨⟨j + 1, by omega, by go_num, HNX.out (by first | rfl | trivial), f0, f1, fB⟩, by simp [intOf]; omega⟩
                | false =>
                  have h5 : pe = 5 := by rw [HP2.out, HSP.out (by first | rfl | trivial)]; rfl
                  have hr : polsErr m ps = 5 := by rw [HF1.out (by omega), h5]
                  have HR := hide hr
                  clear h5 hr
                  go_wp2_with fail
                  first | go_region_held3 (fun w' => w'.cell? ⟨w.heap.size, 0, none⟩ = some (.int .i64 m) ∧ w'.cell? ⟨w.heap.size, 1, none⟩ = some v ∧ w'.cell? ⟨b, off + k * 2 + 1, none⟩ = some (.slice (some ⟨nb, no, none⟩) ns.length ncap) ∧ w'.cell? ⟨nb, no + j, none⟩ = some (.int .i64 y) ∧ Below w.heap.size w w') (first | assumption | exact ⟨d0, d1, r1, e1, below_drewN dB 1⟩ | exact held4 (by assumption) hb1) (first | (go_at_call 34; refine (HCL.out _).mono ?_; rintro e w1 ⟨rfl, hb1⟩)) | fail
                  all_goals obtain ⟨f0, f1, -, -, fB⟩ := (by assumption : _ ∧ _ ∧ _ ∧ _ ∧ Below _ _ _)
                  all_goals go_wp2_with fail
                  all_goals go_ret
                  all_goals exact ⟨by rw [HR.out]; rfl, fB⟩
              · have hje : j = ns.length := by omega
                subst hje
                rw [List.take_length] at hall
                have hpe3 : pe = if rises ns = true then 0 else 4 := by rw [HP2.out, hall]; rfl
                have HP3 := hide hpe3
                clear hpe3 hall
                go_wp2_with fail
                go_loopw [7] (fun i wr' => ∃ j n : Nat, i = .int .i64 (j + 1) ∧ (j = 0 ∨ j + 1 ≤ ns.length) ∧ (∀ i (h : i + 1 < ns.length), i < j → ns[i] < ns[i + 1]) ∧ wr' = wr.drewN n) (fun i _ => ns.length - (intOf i).toNat)
                case atStart => exact ⟨0, 0, rfl, Or.inl rfl, fun i _ hi => absurd hi (Nat.not_lt_zero _), rfl⟩
                case round =>
                  obtain ⟨i, q, rfl, hi, hris, rfl⟩ := hrel
                  by_cases hil : i + 1 < ns.length
                  · obtain ⟨nb, no, rfl, hnc⟩ := HNN.out (by rintro rfl; simp at hil)
                    have e1 := hnc (i + 1) hil
                    have e0 := hnc i (by omega)
                    rw [← (bcell dB).1 _ _ (World.block_lt_of_cell? w _ e1)] at e1
                    rw [← (bcell dB).1 _ _ (World.block_lt_of_cell? w _ e0)] at e0
                    have hnz : (0 : Int) ≤ (i : Int) + 1 := by omega
                    have hnext : ns[i] < ns[i + 1] → ∀ a (h : a + 1 < ns.length), a < i + 1 → ns[a] < ns[a + 1] := fun hh a h ha => by
                      by_cases e : a = i
                      · subst e; exact hh
                      · exact hris a h (by omega)
                    have hstop : ¬ ns[i] < ns[i + 1] → rises ns = false := fun hh => by
                      cases hr : rises ns with
                      | false => rfl
                      | true => exact absurd ((rises_iff ns).1 hr i hil) hh
                    obtain ⟨y1, hy1⟩ : ∃ y, y = ns[i + 1] := ⟨_, rfl⟩
                    obtain ⟨y0, hy0⟩ : ∃ y, y = ns[i] := ⟨_, rfl⟩
                    rw [← hy1, ← hy0] at hnext hstop
                    rw [← hy1] at e1
                    rw [← hy0] at e0
                    have HNX := hide hnext
                    have HSP := hide hstop
                    clear hnext hstop hy1 hy0 hnc hris
                    by_cases hlt : y1 ≤ y0
                    · have h4 : pe = 4 := by rw [HP3.out, HSP.out (by omega)]; rfl
                      have hr : polsErr m ps = 4 := by rw [HF1.out (by omega), h4]
                      have HR := hide hr
                      clear h4 hr
                      go_wp2_with fail
                      go_region
                      go_wp2_with fail
                      go_ret
                      exact ⟨by rw [HR.out]; rfl, below_drewN dB _⟩
                    · go_wp2_with fail
                      go_region
                      go_wp2_with fail
                      exact ⟨⟨i + 1, q + 1, by go_num, Or.inr (by omega), HNX.out (by omega), by first | rfl | trivial⟩, by simp [intOf]; omega⟩
                  · have hr0 : rises ns = true := (rises_iff ns).2 fun a h => hris a h (by omega)
                    have h0 : pe = 0 := by rw [HP3.out, hr0]; rfl
                    have hn := HF0.out h0
                    have HN := hide hn
                    clear hr0 h0 hn hris
                    go_wp2_with fail
                    exact ⟨⟨k + 1, by omega, by go_num, HN.out, d0, d1, below_drewN dB q⟩, by simp [intOf]; omega⟩
          · have h2 : pe = 2 := by rw [HP.out, ← HX.out, if_pos rfl, if_neg hnl]
            have hr : polsErr m ps = 2 := by rw [HF1.out (by omega), h2]
            have HR := hide hr
            clear h2 hr
            go_wp2_with fail
            go_ret
            exact ⟨by rw [HR.out]; rfl, dB⟩
      · have hke : k = ps.length := by omega
        have hz : polsErr m ps = 0 := by rw [HE.out, hfe, hke, List.drop_length]; rfl
        have HZ := hide hz
        clear hz hfe
        go_wp2_with fail
        go_ret
        exact ⟨by rw [HZ.out]; rfl, hbl⟩
  · have hE : polsErr m ps = 2 := by unfold polsErr; rw [if_neg hps]
    rw [hE]
    clear hE
    go_enter Try.func35, Try.ntmps35
    go_wp2_with fail
    go_ret
    exact ⟨rfl, hbel⟩
end Go.Proofs.Ytekgnjifopgboaa

/- The document's own way to tell whom one acts for: over all grants, again and again. -/
import Derived.Test.YtndbgjbnakppkabActs
namespace Go.Proofs.Ytndbgjbnakppkab
open Go.RowKit
set_option linter.unusedVariables false

theorem pass_take {gn : List (Nat × Nat)} {j : Nat} (h : j < gn.length) (l : List Bool) : pass (gn.take (j + 1)) l = stepG (pass (gn.take j) l) gn[j] := by
  unfold pass
  rw [List.take_succ_eq_append_getElem h, List.foldl_append]
  rfl

/-- where it stands. -/
def RefSt (w : World) (n : Nat) (v : Value) (l : List Bool) (W : World) : Prop :=
  W.cell? ⟨w.heap.size, 0, none⟩ = some (.int .i64 n) ∧ W.cell? ⟨w.heap.size, 1, none⟩ = some v ∧ KnownAt W (w.heap.size + 1) l ∧ Below w.heap.size w W

set_option maxHeartbeats 1000000 in
theorem refActs_any (n who other : Nat) (hn : n ≤ 6) (hw : who < n) (ho : other < n) (v : Value) (gn : List (Nat × Nat)) (w : World) (hv : IsGrants w v (gn.map toI)) (hlen : gn.length ≤ 20) (hb : ∀ g ∈ gn, g.1 < n ∧ g.2 < n) :
    Calls Try.prog 11 #[.agg #[.int .i64 n, v], .int .i64 who, .int .i64 other] w fun e w' => e = .returned (.bool ((acts gn n who)[other]?.getD false)) ∧ Below w.heap.size w w' := by
  have hmk := fun w => make35 n hn w
  have hst : RefSt w n v (start n who) ((w.alloc (Obj.cells #[Value.int IntKind.i64 n, v] 24)).alloc (Obj.cells ((Array.replicate n (Value.bool false)).setIfInBounds who (Value.bool true)) 4)) := by
    refine ⟨by simp [go_sem], by simp [go_sem], fun i hi => ?_, ?_⟩
    · have hi' : i < n := by simpa [start] using hi
      refine ⟨?_, by simp [go_sem]⟩
      simp [go_sem, start, List.getElem_set, hi']
      by_cases e : who = i
      · simp [e]
      · simp [e, hi']
    · exact ((Below.refl _ w).alloc (Nat.le_refl _) _).alloc (by simp) _
  obtain ⟨ao, cap, hve, hcc⟩ := hv
  rw [List.length_map] at hve
  subst hve
  go_enter Try.func11, Try.ntmps11
  go_wp2_with fail
  go_loopw [8] (fun i wr => ∃ k : Nat, k ≤ n ∧ i = .int .i64 k ∧ RefSt w n (.slice ao gn.length cap) (passes gn k (start n who)) wr) (fun i _ => n - (intOf i).toNat)
  case atStart => exact ⟨0, Nat.zero_le _, rfl, hst⟩
  case round =>
    obtain ⟨k, hk, rfl, hs1⟩ := hrel
    clear hst hmk
    have HS := hide hs1
    obtain ⟨s0, s1, s2, s3⟩ := hs1
    by_cases hkn : k < n
    · clear s2
      go_wp2_with fail
      go_loopw [9] (fun i wr => ∃ j : Nat, j ≤ gn.length ∧ i = .int .i64 j ∧ RefSt w n (.slice ao gn.length cap) (pass (gn.take j) (passes gn k (start n who))) wr) (fun i _ => gn.length - (intOf i).toNat)
      case atStart => exact ⟨0, Nat.zero_le _, rfl, HS.out⟩
      case round =>
        clear HS s0 s1 s3
        obtain ⟨j, hj, rfl, hs2⟩ := hrel
        obtain ⟨l, hl⟩ : ∃ l, l = pass (gn.take j) (passes gn k (start n who)) := ⟨_, rfl⟩
        have hll : l.length = n := by rw [hl, pass_length, passes_length, start_length]
        have hnext : j < gn.length → ∀ W, RefSt w n (.slice ao gn.length cap) (stepG l (gn[j]?.getD (0, 0))) W → RefSt w n (.slice ao gn.length cap) (pass (gn.take (j + 1)) (passes gn k (start n who))) W := fun h W hW => by
          rw [pass_take h, ← hl]
          simpa [h] using hW
        have HN := hide hnext
        rw [← hl] at hs2
        have HS2 := hide hs2
        obtain ⟨s0, s1, s2, s3⟩ := hs2
        by_cases hjl : j < gn.length
        · obtain ⟨b, off, rfl, hcl⟩ := hcc (by intro h; rw [List.map_eq_nil_iff] at h; rw [h] at hjl; simp at hjl)
          obtain ⟨q0, q1⟩ := hcl j (by simpa using hjl)
          have hlt := World.block_lt_of_cell? w _ q0
          rw [← (bcell s3).1 _ _ hlt] at q0 q1
          simp only [List.getElem_map, toI] at q0 q1
          obtain ⟨hg1, hg2⟩ := hb _ (List.getElem_mem hjl)
          obtain ⟨d0, d0f⟩ := s2 gn[j].1 (by omega)
          obtain ⟨d1, d1f⟩ := s2 gn[j].2 (by omega)
          have hx : gn[j]?.getD (0, 0) = (gn[j].1, gn[j].2) := by simp [hjl]
          obtain ⟨gw, hgw⟩ : ∃ r, r = gn[j].1 := ⟨_, rfl⟩
          obtain ⟨gf, hgf⟩ : ∃ r, r = gn[j].2 := ⟨_, rfl⟩
          simp only [← hgw, ← hgf] at q0 q1 d0 d0f d1 d1f hg1 hg2 hx
          have hgw' : gw < l.length := by omega
          have hgf' : gf < l.length := by omega
          obtain ⟨bw, hbw⟩ : ∃ r, r = l[gw] := ⟨_, rfl⟩
          obtain ⟨bf, hbf⟩ : ∃ r, r = l[gf] := ⟨_, rfl⟩
          rw [← hbw] at d0
          rw [← hbf] at d1
          have HX := hide hx
          have HNN := hide (HN.out hjl)
          have HBW := hide hbw
          cases bw with
          | true =>
            have hset : RefSt w n (.slice (some ⟨b, off, none⟩) gn.length cap) (l.set gf true) (wr.setCell ⟨w.heap.size + 1, gf, none⟩ (.bool true)) := by
              refine ⟨?_, ?_, known_set s2 hgf' true, s3.setCell (by simp) _⟩
              · rw [World.cell?_setCell_other _ _ _ _ (by simp)]; exact s0
              · rw [World.cell?_setCell_other _ _ _ _ (by simp)]; exact s1
            have HSET := hide hset
            clear hset hx hbw hbf hgw hgf hcl hcc hnext s2 hl HS2 hb
            go_wp2_with fail
            refine ⟨⟨j + 1, by omega, by go_num, HNN.out _ ?_⟩, by simp [intOf]; omega⟩
            rw [HX.out]
            unfold stepG
            rw [if_pos (by simp [hgw', ← HBW.out])]
            exact HSET.out
          | false =>
            clear hx hbw hbf hgw hgf hcl hcc hnext s2 hl hb
            go_wp2_with fail
            refine ⟨⟨j + 1, by omega, by go_num, HNN.out _ ?_⟩, by simp [intOf]; omega⟩
            rw [HX.out]
            unfold stepG
            rw [if_neg (by simp [hgw', ← HBW.out])]
            exact HS2.out
        · have hje : j = gn.length := by omega
          subst hje
          rw [List.take_length] at hl
          have hs3 : RefSt w n (.slice ao gn.length cap) (passes gn (k + 1) (start n who)) wr := by rw [passes, ← hl]; exact HS2.out
          have HS3 := hide hs3
          clear hs3 hnext HN HS2 hl s2 hcc hb
          go_wp2_with fail
          exact ⟨⟨k + 1, by omega, by go_num, HS3.out⟩, by simp [intOf]; omega⟩
    · have hke : k = n := by omega
      subst hke
      have hin : other < (acts gn k who).length := by rw [acts_length]; exact ho
      obtain ⟨d0, -⟩ := s2 other hin
      have he : (acts gn k who)[other]?.getD false = (acts gn k who)[other] := by simp [hin]
      have HE := hide he
      have d1 : wr.cell? ⟨w.heap.size + 1, other, none⟩ = some (.bool (acts gn k who)[other]) := d0
      obtain ⟨r, hr⟩ : ∃ r, r = (acts gn k who)[other] := ⟨_, rfl⟩
      rw [← hr] at d1
      have HR := hide hr
      clear d0 hr he s2 hcc HS hb
      go_wp2_with fail
      go_ret
      exact ⟨by rw [HE.out, ← HR.out]; rfl, s3⟩
end Go.Proofs.Ytndbgjbnakppkab

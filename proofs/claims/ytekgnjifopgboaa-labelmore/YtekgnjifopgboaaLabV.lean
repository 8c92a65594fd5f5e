/- Package label: Level keeps its contract. -/
import Derived.Test.YtekgnjifopgboaaLabM
namespace Go.Proofs.Ytekgnjifopgboaa
open Go.RowKit
set_option linter.unusedVariables false
attribute [local go_sem ↓] Go.wp_at_zero Go.wp_at_succ

theorem mayB_row (gn : List (Nat × Nat)) (n who : Nat) (ps : List Pol) : ps.all (polR (acts gn n who)) = mayB gn n who ps := rfl

theorem kept3 {wB W W' : World} {b0 o0 b1 o1 b2 o2 : Nat} {v0 v1 v2 : Value} (h : W.cell? ⟨b0, o0, none⟩ = some v0 ∧ W.cell? ⟨b1, o1, none⟩ = some v1 ∧ W.cell? ⟨b2, o2, none⟩ = some v2 ∧ Below wB.heap.size wB W) (hb : Below W.heap.size W W') : W'.cell? ⟨b0, o0, none⟩ = some v0 ∧ W'.cell? ⟨b1, o1, none⟩ = some v1 ∧ W'.cell? ⟨b2, o2, none⟩ = some v2 ∧ Below wB.heap.size wB W' := held3c h hb

theorem call30 (args : Array Value) (w : World) : (callFunc 30 args).run Try.prog w = .ok (.enter 30 args) w := by simp [go_sem]
set_option maxHeartbeats 1000000 in
theorem level1_any (ab lb ob n who : Nat) (hn : n ≤ 6) (hw : who < n) (gn : List (Nat × Nat)) (pv : Value) (ps : List Pol) (w : World) (h0 : w.cell? ⟨ab, 0, none⟩ = some (.slice (some ⟨ob, 0, none⟩) n n)) (h1 : w.cell? ⟨lb, 0, none⟩ = some pv) (hr : RowsAt w ob n gn n) (hp : IsPols w pv ps) (hps : ps.length ≤ 4 ∧ ∀ p ∈ ps, polIn n p) :
    Calls Try.prog 30 #[.int .i64 who, .pointer (some ⟨ab, 0, none⟩), .pointer (some ⟨lb, 0, none⟩)] w fun e w' => e = .returned (.bool (mayB gn n who ps)) ∧ Below w.heap.size w w' := by
  obtain ⟨kb, hne, hc, hk⟩ := hr who hw
  have hrow : RowAt w kb n (acts gn n who) := ⟨acts_length _ _ _, fun i hi => (hk i hi).1⟩
  have hM := fun (W : World) (hB : Below w.heap.size w W) => mayByAll_any kb n (acts gn n who) pv ps W hn (rowAt_over hrow hB) (isPols_over hp hB) hps
  simp only [mayB_row] at hM
  obtain ⟨pa, pn, pc, rfl⟩ := pols_form hp
  obtain ⟨r, hr⟩ : ∃ r, r = mayB gn n who ps := ⟨_, rfl⟩
  rw [← hr] at hM ⊢
  have KM := hide hM
  have i0 : (0 : Int) ≤ (who : Int) := by omega
  have i1 : (who : Int) < (n : Int) := by omega
  clear hM hr hp hrow hk hne
  go_enter Try.func30, Try.ntmps30
  go_wp2_with fail
  first | go_region_held3 (fun W => W.cell? ⟨ab, 0, none⟩ = some (.slice (some ⟨ob, 0, none⟩) n n) ∧ W.cell? ⟨ob, who, none⟩ = some (.slice (some ⟨kb, 0, none⟩) n n) ∧ W.cell? ⟨lb, 0, none⟩ = some (.slice pa pn pc) ∧ Below w.heap.size w W) (first | assumption | exact ⟨h0, hc, h1, below_drewN (Below.refl _ _) 1⟩ | exact kept3 (by assumption) hbp | fail) (first | (go_at_call 31; refine (KM.out _ (by assumption : _ ∧ _ ∧ _ ∧ _).2.2.2).mono ?_; rintro e wp ⟨rfl, hbp⟩)) | fail
  all_goals obtain ⟨-, -, -, hB⟩ := (by assumption : wp.cell? _ = _ ∧ _ ∧ _ ∧ _)
  all_goals go_wp2_with fail
  all_goals go_ret
  all_goals exact ⟨rfl, hB⟩

theorem call32 (args : Array Value) (w : World) : (callFunc 32 args).run Try.prog w = .ok (.enter 32 args) w := by simp [go_sem]
set_option maxHeartbeats 1000000 in
theorem level2_any (ab lb ob n who : Nat) (hn : n ≤ 6) (hw : who < n) (gn : List (Nat × Nat)) (pv : Value) (ps : List Pol) (w : World) (h0 : w.cell? ⟨ab, 0, none⟩ = some (.slice (some ⟨ob, 0, none⟩) n n)) (h1 : w.cell? ⟨lb, 1, none⟩ = some pv) (hr : RowsAt w ob n gn n) (hp : IsPols w pv ps) (hps : ps.length ≤ 4 ∧ ∀ p ∈ ps, polIn n p) :
    Calls Try.prog 32 #[.int .i64 who, .pointer (some ⟨ab, 0, none⟩), .pointer (some ⟨lb, 0, none⟩)] w fun e w' => e = .returned (.bool (mayB gn n who ps)) ∧ Below w.heap.size w w' := by
  obtain ⟨kb, hne, hc, hk⟩ := hr who hw
  have hrow : RowAt w kb n (acts gn n who) := ⟨acts_length _ _ _, fun i hi => (hk i hi).1⟩
  have hM := fun (W : World) (hB : Below w.heap.size w W) => mayByAll_any kb n (acts gn n who) pv ps W hn (rowAt_over hrow hB) (isPols_over hp hB) hps
  simp only [mayB_row] at hM
  obtain ⟨pa, pn, pc, rfl⟩ := pols_form hp
  obtain ⟨r, hr⟩ : ∃ r, r = mayB gn n who ps := ⟨_, rfl⟩
  rw [← hr] at hM ⊢
  have KM := hide hM
  have i0 : (0 : Int) ≤ (who : Int) := by omega
  have i1 : (who : Int) < (n : Int) := by omega
  clear hM hr hp hrow hk hne
  go_enter Try.func32, Try.ntmps32
  go_wp2_with fail
  first | go_region_held3 (fun W => W.cell? ⟨ab, 0, none⟩ = some (.slice (some ⟨ob, 0, none⟩) n n) ∧ W.cell? ⟨ob, who, none⟩ = some (.slice (some ⟨kb, 0, none⟩) n n) ∧ W.cell? ⟨lb, 1, none⟩ = some (.slice pa pn pc) ∧ Below w.heap.size w W) (first | assumption | exact ⟨h0, hc, h1, below_drewN (Below.refl _ _) 1⟩ | exact kept3 (by assumption) hbp | fail) (first | (go_at_call 31; refine (KM.out _ (by assumption : _ ∧ _ ∧ _ ∧ _).2.2.2).mono ?_; rintro e wp ⟨rfl, hbp⟩)) | fail
  all_goals obtain ⟨-, -, -, hB⟩ := (by assumption : wp.cell? _ = _ ∧ _ ∧ _ ∧ _)
  all_goals go_wp2_with fail
  all_goals go_ret
  all_goals exact ⟨rfl, hB⟩

theorem levelClosure (n : Nat) (h1 : 1 ≤ n) (hn : n ≤ 6) (ab lb ob : Nat) (gn : List (Nat × Nat)) (v pr pw : Value) (bl : Lab) (w3 : World) (h0 : w3.cell? ⟨ab, 0, none⟩ = some (.slice (some ⟨ob, 0, none⟩) n n)) (l0 : w3.cell? ⟨lb, 0, none⟩ = some pr) (l1 : w3.cell? ⟨lb, 1, none⟩ = some pw) (hr : RowsAt w3 ob n gn n) (hp : IsPols w3 pr bl.r) (hq : IsPols w3 pw bl.w) (hin : labIn n bl) (W : World) (hB : Below w3.heap.size w3 W) :
    (Calls Try.prog 29 #[.agg #[.int .i64 n, v], .func (.func 30) #[] #[.pointer (some ⟨ab, 0, none⟩), .pointer (some ⟨lb, 0, none⟩)]] W fun e w' => ∃ g, e = .returned (.slice (some ⟨g, 0, none⟩) n n) ∧ W.heap.size ≤ g ∧ g < w'.heap.size ∧ w'.ownsRow W.heap.size 4 1 (.slice (some ⟨g, 0, none⟩) n n) n (boolCells (rowOf (fun i => mayB gn n i bl.r) n)) ∧ Below W.heap.size W w') ∧
    (Calls Try.prog 29 #[.agg #[.int .i64 n, v], .func (.func 32) #[] #[.pointer (some ⟨ab, 0, none⟩), .pointer (some ⟨lb, 0, none⟩)]] W fun e w' => ∃ g, e = .returned (.slice (some ⟨g, 0, none⟩) n n) ∧ W.heap.size ≤ g ∧ g < w'.heap.size ∧ w'.ownsRow W.heap.size 4 1 (.slice (some ⟨g, 0, none⟩) n n) n (boolCells (rowOf (fun i => mayB gn n i bl.w) n)) ∧ Below W.heap.size W w') := by
  have up : ∀ (W' : World), Below W.heap.size W W' → ∀ b o v, w3.cell? ⟨b, o, none⟩ = some v → W'.cell? ⟨b, o, none⟩ = some v := fun W' hb b o v h => by rw [(bcell hb).1 _ _ (Nat.lt_of_lt_of_le (World.block_lt_of_cell? w3 _ h) hB.size), (bcell hB).1 _ _ (World.block_lt_of_cell? w3 _ h)]; exact h
  refine ⟨those_any 30 _ _ (fun i => mayB gn n i bl.r) n h1 hn v W (hide fun i hi W' hb => ?_) call30, those_any 32 _ _ (fun i => mayB gn n i bl.w) n h1 hn v W (hide fun i hi W' hb => ?_) call32⟩
  · have hB' : Below w3.heap.size w3 W' := hB.trans (hb.mono hB.size)
    exact level1_any ab lb ob n i hn hi gn pr bl.r W' (up W' hb _ _ _ h0) (up W' hb _ _ _ l0) (rows_over hr hB') (isPols_over hp hB') hin.1
  · have hB' : Below w3.heap.size w3 W' := hB.trans (hb.mono hB.size)
    exact level2_any ab lb ob n i hn hi gn pw bl.w W' (up W' hb _ _ _ h0) (up W' hb _ _ _ l1) (rows_over hr hB') (isPols_over hq hB') hin.2

theorem useI {wB W : World} {b o0 o1 q : Nat} {v0 v1 u : Value} (h : W.cell? ⟨b, o0, none⟩ = some v0 ∧ W.cell? ⟨b, o1, none⟩ = some v1 ∧ (W.cell? ⟨q, 0, none⟩ = some u → Below wB.heap.size wB W)) (hq : W.cell? ⟨q, 0, none⟩ = some u) : Below wB.heap.size wB W := h.2.2 hq

theorem keptI {wB W W' : World} {b o0 o1 q : Nat} {v0 v1 u : Value} (h : W.cell? ⟨b, o0, none⟩ = some v0 ∧ W.cell? ⟨b, o1, none⟩ = some v1 ∧ (W.cell? ⟨q, 0, none⟩ = some u → Below wB.heap.size wB W)) (hq : W.cell? ⟨q, 0, none⟩ = some u) (hb : Below W.heap.size W W') : W'.cell? ⟨b, o0, none⟩ = some v0 ∧ W'.cell? ⟨b, o1, none⟩ = some v1 ∧ (W'.cell? ⟨q, 0, none⟩ = some u → Below wB.heap.size wB W') := by
  obtain ⟨h0, h1, h2⟩ := h
  have hB := h2 hq
  obtain ⟨hc, hf⟩ := bcell hb
  exact ⟨by rw [hc _ _ (World.block_lt_of_cell? W _ h0)]; exact h0, by rw [hc _ _ (World.block_lt_of_cell? W _ h1)]; exact h1, fun _ => hB.trans (hb.mono hB.size)⟩

theorem setI {wB W : World} {b o0 o1 q g n : Nat} {v0 v1 u y : Value} (h : W.cell? ⟨b, o0, none⟩ = some v0 ∧ W.cell? ⟨b, o1, none⟩ = some v1 ∧ (W.cell? ⟨q, 0, none⟩ = some (.slice none 0 0) → Below wB.heap.size wB W)) (hb : b ≠ q) (hq : W.cell? ⟨q, 0, none⟩ = some u) :
    ((W.setCell ⟨q, 0, none⟩ (.slice (some ⟨g, 0, none⟩) n n)).setCell ⟨q, 1, none⟩ y).cell? ⟨b, o0, none⟩ = some v0 ∧ ((W.setCell ⟨q, 0, none⟩ (.slice (some ⟨g, 0, none⟩) n n)).setCell ⟨q, 1, none⟩ y).cell? ⟨b, o1, none⟩ = some v1 ∧ (((W.setCell ⟨q, 0, none⟩ (.slice (some ⟨g, 0, none⟩) n n)).setCell ⟨q, 1, none⟩ y).cell? ⟨q, 0, none⟩ = some (.slice none 0 0) → Below wB.heap.size wB ((W.setCell ⟨q, 0, none⟩ (.slice (some ⟨g, 0, none⟩) n n)).setCell ⟨q, 1, none⟩ y)) := by
  obtain ⟨h0, h1, h2⟩ := h
  have hne : ∀ o, ((W.setCell ⟨q, 0, none⟩ (.slice (some ⟨g, 0, none⟩) n n)).setCell ⟨q, 1, none⟩ y).cell? ⟨b, o, none⟩ = W.cell? ⟨b, o, none⟩ := fun o => by
    rw [World.cell?_setCell_other _ _ _ _ (by intro e; injection e with e; exact hb e.symm), World.cell?_setCell_other _ _ _ _ (by intro e; injection e with e; exact hb e.symm)]
  refine ⟨by rw [hne]; exact h0, by rw [hne]; exact h1, fun e => ?_⟩
  rw [World.cell?_setCell_other _ _ _ _ (by simp), World.cell?_setCell_same _ _ _ hq] at e
  cases e

theorem lChk_ok {m : Int} {gs : List (Int × Int)} {bl : Lab} (h : lChk m gs bl = 0) : ∃ n : Nat, m = n ∧ 1 ≤ n ∧ n ≤ 6 ∧ (gnOf gs).map toI = gs ∧ (gnOf gs).length ≤ 20 ∧ (∀ g ∈ gnOf gs, g.1 < n ∧ g.2 < n) ∧ labIn n bl ∧ chkErr m gs = 0 := by
  unfold lChk at h
  split at h
  · rename_i hc
    obtain ⟨n, hm, h1, h2, h3, h4, h5⟩ := chk_ok hc
    subst hm
    exact ⟨n, rfl, h1, h2, h3, h4, h5, labErr_ok h, hc⟩
  · rename_i hc
    exact absurd h hc

set_option maxHeartbeats 4000000 in
theorem levelOk : LevelOk := by
  intro m v gs pr pw bl w hv hp hq
  have HV := hide hv
  have HP := hide hp
  have HQ := hide hq
  obtain ⟨va, vn, vc, rfl⟩ := grants_form hv
  obtain ⟨pa, pn, pc, rfl⟩ := pols_form hp
  obtain ⟨qa, qn, qc, rfl⟩ := pols_form hq
  have hb3 : Below w.heap.size w (((w.alloc (.cells #[.int .i64 m, .slice va vn vc] 24)).alloc (.cells #[.slice pa pn pc, .slice qa qn qc] 27)).alloc (.cells #[.slice none 0 0, .slice none 0 0] 30)) := (((Below.refl _ w).alloc (Nat.le_refl _) _).alloc (by simp) _).alloc (by simp; omega) _
  have hcall := checkOk m (.slice va vn vc) gs (.slice pa pn pc) (.slice qa qn qc) bl _ (isGrants_over HV.out hb3) (isPols_over HP.out hb3) (isPols_over HQ.out hb3)
  have hok := fun h => lChk_ok (m := m) (gs := gs) (bl := bl) h
  obtain ⟨r, hr⟩ : ∃ r, r = lChk m gs bl := ⟨_, rfl⟩
  rw [← hr] at hcall hok ⊢
  have HC := hide hcall
  have HOK := hide hok
  clear hv hp hq hcall hok hr
  go_enter Try.func8, Try.ntmps8
  go_wp2_with fail
  refine (HC.out).mono ?_
  rintro e w1 ⟨rfl, hb1⟩
  have hB1 := hb3.trans (hb1.mono (by simp <;> omega))
  have hz1 := hb1.size
  simp at hz1
  obtain ⟨hc, hf⟩ := bcell hb1
  have a0 : w1.cell? ⟨w.heap.size, 0, none⟩ = some (.int .i64 m) := by rw [hc _ _ (by simp <;> omega)]; simp [go_sem]
  have a1 : w1.cell? ⟨w.heap.size, 1, none⟩ = some (.slice va vn vc) := by rw [hc _ _ (by simp <;> omega)]; simp [go_sem]
  have c0 : w1.cell? ⟨w.heap.size + 1, 0, none⟩ = some (.slice pa pn pc) := by rw [hc _ _ (by simp <;> omega)]; simp [go_sem]
  have c1 : w1.cell? ⟨w.heap.size + 1, 1, none⟩ = some (.slice qa qn qc) := by rw [hc _ _ (by simp <;> omega)]; simp [go_sem]
  have e0 : w1.cell? ⟨w.heap.size + 1 + 1, 0, none⟩ = some (.slice none 0 0) := by rw [hc _ _ (by simp <;> omega)]; simp [go_sem]
  have e1 : w1.cell? ⟨w.heap.size + 1 + 1, 1, none⟩ = some (.slice none 0 0) := by rw [hc _ _ (by simp <;> omega)]; simp [go_sem]
  have f0 : w1.frozen? ⟨w.heap.size + 1 + 1, 0, none⟩ = false := by rw [hf _ _ (by simp <;> omega)]; simp [go_sem]
  have f1 : w1.frozen? ⟨w.heap.size + 1 + 1, 1, none⟩ = false := by rw [hf _ _ (by simp <;> omega)]; simp [go_sem]
  clear hc hf hb1 hb3 HC
  by_cases hr0 : r = 0
  · subst hr0
    obtain ⟨n, hm, h1, h6, hgs, hlen, hgb, hin, hch⟩ := HOK.out (by first | rfl | trivial)
    subst hm
    have hfor := for_ok n h1 h6 (.slice va vn vc) (gnOf gs) w1 (by rw [hgs]; exact isGrants_over HV.out hB1) hlen hgb (by rw [hgs]; exact hch)
    have HFOR := hide hfor
    have HIN := hide hin
    clear hfor hin hgs hlen hgb hch HOK HV
    go_wp2_with fail
    refine (HFOR.out).mono ?_
    rintro e w2 ⟨ob, rfl, hrows, hb2⟩
    obtain ⟨w3, hw3⟩ : ∃ w3, w3 = w2.alloc (.cells #[.slice (some ⟨ob, 0, none⟩) n n] 56) := ⟨_, rfl⟩
    have hb23 : Below w2.heap.size w2 w3 := by rw [hw3]; exact (Below.refl _ w2).alloc (Nat.le_refl _) _
    have hb13 : Below w1.heap.size w1 w3 := hb2.trans (hb23.mono hb2.size)
    have hB3 := hB1.trans (hb13.mono hB1.size)
    have hz3 := hb13.size
    have up : ∀ b o v, w1.cell? ⟨b, o, none⟩ = some v → w3.cell? ⟨b, o, none⟩ = some v := fun b o v h => by rw [(bcell hb13).1 _ _ (World.block_lt_of_cell? w1 _ h)]; exact h
    have hab : w3.cell? ⟨w2.heap.size, 0, none⟩ = some (.slice (some ⟨ob, 0, none⟩) n n) := by rw [hw3]; simp [go_sem]
    have KT := hide fun (W : World) (hB : Below w3.heap.size w3 W) => levelClosure n h1 h6 w2.heap.size (w.heap.size + 1) ob (gnOf gs) (.slice va vn vc) _ _ bl w3 hab (up _ _ _ c0) (up _ _ _ c1) (rows_over hrows hb23) (isPols_over HP.out hB3) (isPols_over HQ.out hB3) HIN.out W hB
    have b0 := up _ _ _ a0
    have b1 := up _ _ _ a1
    have E0 := hide (up _ _ _ e0)
    have E1 := hide (up _ _ _ e1)
    have F0 : Hid (w3.frozen? ⟨w.heap.size + 1 + 1, 0, none⟩ = false) := by rw [(bcell hb13).2 _ _ (World.block_lt_of_cell? w1 _ e0)]; exact f0
    have F1 : Hid (w3.frozen? ⟨w.heap.size + 1 + 1, 1, none⟩ = false) := by rw [(bcell hb13).2 _ _ (World.block_lt_of_cell? w1 _ e0)]; exact f1
    have HZ4 : Hid (w.heap.size + 1 + 1 < w3.heap.size) := by show _ < _; omega
    have HNE : Hid (w.heap.size ≠ w.heap.size + 1 + 1) := by show _ ≠ _; omega
    have HW3 := hide hw3
    have ED : Hid (w3.drew.cell? ⟨w.heap.size + 1 + 1, 0, none⟩ = some (.slice none 0 0)) := E0.out
    clear a0 a1 c0 c1 e0 e1 f0 f1 hab up hrows hb2 hb23 hb13 hw3 HP HQ HIN HFOR hB1
    go_wp2_with fail
    rw [← HW3.out]
    clear HW3
    first | go_region_held3 (fun W => W.cell? ⟨w.heap.size, 0, none⟩ = some (.int .i64 n) ∧ W.cell? ⟨w.heap.size, 1, none⟩ = some (.slice va vn vc) ∧ (W.cell? ⟨w.heap.size + 1 + 1, 0, none⟩ = some (.slice none 0 0) → Below w3.heap.size w3 W)) (first | assumption | exact ⟨b0, b1, fun _ => below_drewN (Below.refl _ _) 1⟩ | exact keptI (by assumption) ep0 hbq | exact keptI (by assumption) ED.out hbp | exact setI (by assumption) HNE.out eq0 | fail) (first | (go_at_call 29; have hsec := ep0; refine (KT.out _ (useI (by assumption) ep0)).2.mono ?_; rintro e wq ⟨g2, rfl, hg2, hg2', ho2, hbq⟩; have eq0 : wq.cell? ⟨w.heap.size + 1 + 1, 0, none⟩ = some (.slice none 0 0) := (by rw [(bcell hbq).1 _ _ (World.block_lt_of_cell? wp _ ep0)]; exact ep0); have eq1 : wq.cell? ⟨w.heap.size + 1 + 1, 1, none⟩ = some (.slice none 0 0) := (by rw [(bcell hbq).1 _ _ (World.block_lt_of_cell? wp _ ep0)]; exact ep1); have fq0 : wq.frozen? ⟨w.heap.size + 1 + 1, 0, none⟩ = false := (by rw [(bcell hbq).2 _ _ (World.block_lt_of_cell? wp _ ep0)]; exact fp0); have fq1 : wq.frozen? ⟨w.heap.size + 1 + 1, 1, none⟩ = false := (by rw [(bcell hbq).2 _ _ (World.block_lt_of_cell? wp _ ep0)]; exact fp1)) | (go_at_call 29; refine (KT.out _ (useI (by assumption) ED.out)).1.mono ?_; rintro e wp ⟨g1, rfl, hg1, hg1', ho1, hbp⟩; have ep0 : wp.cell? ⟨w.heap.size + 1 + 1, 0, none⟩ = some (.slice none 0 0) := (by rw [(bcell hbp).1 _ _ HZ4.out]; exact E0.out); have ep1 : wp.cell? ⟨w.heap.size + 1 + 1, 1, none⟩ = some (.slice none 0 0) := (by rw [(bcell hbp).1 _ _ HZ4.out]; exact E1.out); have fp0 : wp.frozen? ⟨w.heap.size + 1 + 1, 0, none⟩ = false := (by rw [(bcell hbp).2 _ _ HZ4.out]; exact F0.out); have fp1 : wp.frozen? ⟨w.heap.size + 1 + 1, 1, none⟩ = false := (by rw [(bcell hbp).2 _ _ HZ4.out]; exact F1.out))) | fail
    all_goals go_wp2_with fail
    all_goals
      refine bodyPost_ret (v := .tuple #[.agg #[.slice (some ⟨g1, 0, none⟩) n n, .slice (some ⟨g2, 0, none⟩) n n], .int .i64 0]) (by simp [results, Try.results8, go_sem, eq0, eq1]) rfl ⟨_, rfl, fresh_pair (w := w) (wa := w3.drew) (q := w.heap.size + 1 + 1) (f1 := fun i => mayB (gnOf gs) n i bl.r) (f2 := fun i => mayB (gnOf gs) n i bl.w) hB3.size HZ4.out ho1 hg1' hbp.size ho2 hbq hg2 _ _, ?_⟩
      have hd1 : Below w.heap.size w w3.drew := below_drewN hB3 1
      have hd2 := hd1.trans (hbp.mono hd1.size)
      have hd3 := hd2.trans (hbq.mono hd2.size)
      exact (hd3.setCell (by simp; omega) _).setCell (by simp; omega) _
  · have hne : (r != 0) = true := by simpa using hr0
    go_wp2_with fail
    exact bodyPost_ret (v := .tuple #[.agg #[.slice none 0 0, .slice none 0 0], .int .i64 r]) (by simp [results, Try.results8, go_sem, e0, e1]) rfl ⟨_, rfl, fresh_none _ _, (hB1.setCell (by simp; omega) _).setCell (by simp; omega) _⟩
end Go.Proofs.Ytekgnjifopgboaa

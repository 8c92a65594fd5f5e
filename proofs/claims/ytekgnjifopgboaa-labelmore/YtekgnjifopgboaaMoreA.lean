/- veilworklaw.LabelMore answers true, whatever it is handed: the walk. -/
import Derived.Test.YtekgnjifopgboaaMoreD
import Derived.Test.YtekgnjifopgboaaJoinsA
import Derived.Deep.RegionHeld3
import Derived.Deep.CutRange
namespace Go.Proofs.Ytekgnjifopgboaa
open Go.RowKit
set_option linter.unusedVariables false
attribute [local go_sem ↓] Go.wp_at_zero Go.wp_at_succ

theorem srcAt_of {w W : World} {v : Value} {ps : List Pol} {cs : List Value} (hp : IsPols w v ps) (hc : PolCells w cs ps) (hs : ps ≠ [] → ∃ b off cap, v = .slice (some ⟨b, off, none⟩) ps.length cap ∧ ∀ j u, cs[j]? = some u → w.cell? ⟨b, off + j, none⟩ = some u) (hb : Below w.heap.size w W) (hsh : PShape v) : SrcAt W v ps.length cs := by
  refine ⟨hc.1, hc.2.1, ?_⟩
  by_cases hne : ps = []
  · subst hne
    have hcs : cs = [] := List.eq_nil_of_length_eq_zero (by simpa using hc.1)
    subst hcs
    obtain ⟨ao, cap, e, _⟩ := hp
    rcases hsh with h | ⟨ad, n, c, h⟩
    · exact Or.inl ⟨h, rfl⟩
    · refine Or.inr ⟨ad, c, ?_, fun j u hu => by simp at hu⟩
      rw [h] at e ⊢
      injection e with e1 e2
      rw [e2]
  · obtain ⟨b, off, cap, e, hcl⟩ := hs hne
    exact Or.inr ⟨⟨b, off, none⟩, cap, e, fun j u hu => by rw [Addr.add_lit, (bcell hb).1 _ _ (World.block_lt_of_cell? w _ (hcl j u hu))]; exact hcl j u hu⟩

/-- a level in a box, its lists by their blocks. -/
def BoxG (W : World) (b g1 q1 g2 q2 n : Nat) (L : Lev) : Prop := W.cell? ⟨b, 0, none⟩ = some (.slice (some ⟨g1, 0, none⟩) n q1) ∧ W.cell? ⟨b, 1, none⟩ = some (.slice (some ⟨g2, 0, none⟩) n q2) ∧ ∀ i, i < n → W.cell? ⟨g1, i, none⟩ = some (.bool (L.r[i]?.getD false)) ∧ W.cell? ⟨g2, i, none⟩ = some (.bool (L.w[i]?.getD false))
theorem BoxG.over {W W' : World} {b g1 q1 g2 q2 n : Nat} {L : Lev} (h : BoxG W b g1 q1 g2 q2 n L) (hb : Below W.heap.size W W') : BoxG W' b g1 q1 g2 q2 n L := by
  have up : ∀ b o v, W.cell? ⟨b, o, none⟩ = some v → W'.cell? ⟨b, o, none⟩ = some v := fun b o v h => by rw [(bcell hb).1 _ _ (World.block_lt_of_cell? W _ h)]; exact h
  exact ⟨up _ _ _ h.1, up _ _ _ h.2.1, fun i hi => ⟨up _ _ _ (h.2.2 i hi).1, up _ _ _ (h.2.2 i hi).2⟩⟩
theorem boxG_new {w W : World} {v : Value} {L : Lev} {n : Nat} (h : LevFresh w W v L) (h1 : 1 ≤ n) (hr : L.r.length = n) (hw : L.w.length = n) : ∃ g1 q1 g2 q2, v = .agg #[.slice (some ⟨g1, 0, none⟩) n q1, .slice (some ⟨g2, 0, none⟩) n q2] ∧ BoxG (W.alloc (.cells #[.slice (some ⟨g1, 0, none⟩) n q1, .slice (some ⟨g2, 0, none⟩) n q2] 30)) W.heap.size g1 q1 g2 q2 n L := by
  obtain ⟨vr, vw, rfl, ho1, ho2, _⟩ := h
  have i1 := isBools_own ho1
  have i2 := isBools_own ho2
  rw [hr] at ho1
  rw [hw] at ho2
  obtain ⟨g1, q1, rfl⟩ := ownB_some ho1 h1
  obtain ⟨g2, q2, rfl⟩ := ownB_some ho2 h1
  obtain ⟨b1, o1, c1, e1, f1⟩ := isBools_pos i1 hr h1
  obtain ⟨b2, o2, c2, e2, f2⟩ := isBools_pos i2 hw h1
  injection e1 with e1
  injection e1 with e1
  injection e1 with e1 e1'
  injection e2 with e2
  injection e2 with e2
  injection e2 with e2 e2'
  subst e1 e1' e2 e2'
  have hb : Below W.heap.size W (W.alloc (.cells #[.slice (some ⟨g1, 0, none⟩) n q1, .slice (some ⟨g2, 0, none⟩) n q2] 30)) := (Below.refl _ W).alloc (Nat.le_refl _) _
  have up : ∀ b o v, W.cell? ⟨b, o, none⟩ = some v → (W.alloc (.cells #[.slice (some ⟨g1, 0, none⟩) n q1, .slice (some ⟨g2, 0, none⟩) n q2] 30)).cell? ⟨b, o, none⟩ = some v := fun b o v h => by rw [(bcell hb).1 _ _ (World.block_lt_of_cell? W _ h)]; exact h
  exact ⟨g1, q1, g2, q2, rfl, by simp [go_sem], by simp [go_sem], fun i hi => ⟨up _ _ _ (by simpa using f1 i hi), up _ _ _ (by simpa using f2 i hi)⟩⟩

def RelM (wr : World) (ps qs : List Pol) (s9 : Value) (wc : World) : Prop := ∃ nb u v, s9 = .pointer (some ⟨nb, 0, none⟩) ∧ wc.cell? ⟨nb, 0, none⟩ = some u ∧ wc.cell? ⟨nb, 1, none⟩ = some v ∧ IsPols wc u ps ∧ IsPols wc v qs ∧ Below wr.heap.size wr wc

theorem mayB_snoc (gn : List (Nat × Nat)) (n i : Nat) (ps : List Pol) (p : Pol) : mayB gn n i (ps ++ [p]) = (mayB gn n i ps && polB gn n i p) := by simp [mayB]
theorem rowOf_getM (f : Nat → Bool) {n i : Nat} (h : i < n) : (rowOf f n)[i]?.getD false = f i := by simp [rowOf, h]
theorem levOf_get (gn : List (Nat × Nat)) (n i : Nat) (bl : Lab) (h : i < n) : (levOf gn n bl).r[i]?.getD false = mayB gn n i bl.r ∧ (levOf gn n bl).w[i]?.getD false = mayB gn n i bl.w := ⟨rowOf_getM _ h, rowOf_getM _ h⟩

set_option maxRecDepth 100000 in
set_option maxHeartbeats 16000000 in
theorem more_bad (m : Int) (v : Value) (gs : List (Int × Int)) (pr pw : Value) (bl : Lab) (ow : Int) (nv : Value) (ns : List Int) (w : World) (hv : IsGrants w v gs) (hp : IsPols w pr bl.r) (hq : IsPols w pw bl.w) (hn : IsInts w nv ns) (hshR : PShape pr) (hshW : PShape pw) (hE : lChk m gs bl ≠ 0) :
    Calls Try.prog 6 #[.agg #[.int .i64 m, v], .agg #[pr, pw], .agg #[.int .i64 ow, nv]] w fun e w' => e = .returned (.bool true) ∧ Below w.heap.size w w' := by
  have hKL := fun (W : World) (hW : Below w.heap.size w W) => levelOk m v gs pr pw bl W (isGrants_over hv hW) (isPols_over hp hW) (isPols_over hq hW)
  rw [if_neg hE] at hKL
  obtain ⟨r, hr⟩ : ∃ r, r = lChk m gs bl := ⟨_, rfl⟩
  rw [← hr] at hE hKL
  have b1 : (r != 0) = true := by simpa using hE
  have KL := hide hKL
  obtain ⟨va, vn, vc, rfl⟩ := grants_form hv
  obtain ⟨pa, pn, pc, rfl⟩ := pols_form hp
  obtain ⟨qa, qn, qc, rfl⟩ := pols_form hq
  obtain ⟨na, nc, nn, hnn⟩ : ∃ a c n, nv = .slice a n c := by obtain ⟨a, c, e, _⟩ := hn; exact ⟨a, c, _, e⟩
  subst hnn
  have hs0 : Hid ((((w.alloc (.cells #[.int .i64 m, .slice va vn vc] 24)).alloc (.cells #[.slice pa pn pc, .slice qa qn qc] 27)).alloc (.cells #[.int .i64 ow, .slice na nn nc] 50)).cell? ⟨w.heap.size, 0, none⟩ = some (.int .i64 m) ∧ (((w.alloc (.cells #[.int .i64 m, .slice va vn vc] 24)).alloc (.cells #[.slice pa pn pc, .slice qa qn qc] 27)).alloc (.cells #[.int .i64 ow, .slice na nn nc] 50)).cell? ⟨w.heap.size, 1, none⟩ = some (.slice va vn vc) ∧ (((w.alloc (.cells #[.int .i64 m, .slice va vn vc] 24)).alloc (.cells #[.slice pa pn pc, .slice qa qn qc] 27)).alloc (.cells #[.int .i64 ow, .slice na nn nc] 50)).cell? ⟨w.heap.size + 1, 0, none⟩ = some (.slice pa pn pc) ∧ (((w.alloc (.cells #[.int .i64 m, .slice va vn vc] 24)).alloc (.cells #[.slice pa pn pc, .slice qa qn qc] 27)).alloc (.cells #[.int .i64 ow, .slice na nn nc] 50)).cell? ⟨w.heap.size + 1, 1, none⟩ = some (.slice qa qn qc) ∧ (((w.alloc (.cells #[.int .i64 m, .slice va vn vc] 24)).alloc (.cells #[.slice pa pn pc, .slice qa qn qc] 27)).alloc (.cells #[.int .i64 ow, .slice na nn nc] 50)).cell? ⟨w.heap.size + 1 + 1, 0, none⟩ = some (.int .i64 ow) ∧ (((w.alloc (.cells #[.int .i64 m, .slice va vn vc] 24)).alloc (.cells #[.slice pa pn pc, .slice qa qn qc] 27)).alloc (.cells #[.int .i64 ow, .slice na nn nc] 50)).cell? ⟨w.heap.size + 1 + 1, 1, none⟩ = some (.slice na nn nc) ∧ Below w.heap.size w (((w.alloc (.cells #[.int .i64 m, .slice va vn vc] 24)).alloc (.cells #[.slice pa pn pc, .slice qa qn qc] 27)).alloc (.cells #[.int .i64 ow, .slice na nn nc] 50))) := ⟨by simp [go_sem], by simp [go_sem], by simp [go_sem], by simp [go_sem], by simp [go_sem], by simp [go_sem], (((Below.refl _ w).alloc (Nat.le_refl _) _).alloc (by simp) _).alloc (by simp; omega) _⟩
  clear hr hKL hv hp hq hn hE
  have hB := hs0.out.2.2.2.2.2.2
  go_enter Try.func6, Try.ntmps6
  go_wp2_with fail
  refine (KL.out _ hB).mono ?_
  rintro e w1 ⟨vx, rfl, hxf, hb1⟩
  clear hB
  have hs1 := hide (held6 hs0.out hb1)
  clear hs0 
  have hxa := levFresh_at hxf
  obtain ⟨a1, k1, a2, k2, rfl⟩ := lev_form hxa
  have hal := (Below.refl _ w1).alloc (Nat.le_refl _) (.cells #[.slice a1 (noLev).r.length k1, .slice a2 (noLev).w.length k2] 30)
  have hx2 := hide (box_new hxa)
  have hs2 := hide (held6 hs1.out hal)
  clear hs1 
  clear hxf hxa hb1 hal
  go_wp2_with fail
  refine (begun_any _).mono ?_
  rintro e w3 ⟨rfl, hb3⟩
  have hs3 := hide (held6 hs2.out hb3)
  have hx3 := hide (hx2.out.over hb3)
  clear hs2 hx2
  clear hb3
  have hB := hs3.out.2.2.2.2.2.2
  obtain ⟨x0, x1, -⟩ := hx3.out
  have hz : noLev.r.length = 0 := rfl
  clear hs3 hx3
  go_wp2_with fail
  go_ret
  exact ⟨by first | rfl | simp, hB⟩

set_option maxRecDepth 100000 in
set_option maxHeartbeats 16000000 in
theorem more_ok (m : Int) (v : Value) (gs : List (Int × Int)) (pr pw : Value) (bl : Lab) (ow : Int) (nv : Value) (ns : List Int) (w : World) (hv : IsGrants w v gs) (hp : IsPols w pr bl.r) (hq : IsPols w pw bl.w) (hn : IsInts w nv ns) (hshR : PShape pr) (hshW : PShape pw) (hE : lChk m gs bl = 0) :
    Calls Try.prog 6 #[.agg #[.int .i64 m, v], .agg #[pr, pw], .agg #[.int .i64 ow, nv]] w fun e w' => e = .returned (.bool true) ∧ Below w.heap.size w w' := by
  have hKL := fun (W : World) (hW : Below w.heap.size w W) => levelOk m v gs pr pw bl W (isGrants_over hv hW) (isPols_over hp hW) (isPols_over hq hW)
  have hX := hE
  rw [hE, if_pos rfl] at hKL
  obtain ⟨n, rfl, h1, h6, hgs, hlen, hgb, hin, hch⟩ := lChk_ok hX
  simp only [Int.toNat_natCast] at hKL
  have KL := hide hKL
  obtain ⟨va, vn, vc, rfl⟩ := grants_form hv
  obtain ⟨pa, pn, pc, rfl⟩ := pols_form hp
  obtain ⟨qa, qn, qc, rfl⟩ := pols_form hq
  obtain ⟨na, nc, nn, hnn⟩ : ∃ a c n, nv = .slice a n c := by obtain ⟨a, c, e, _⟩ := hn; exact ⟨a, c, _, e⟩
  subst hnn
  have hs0 : Hid ((((w.alloc (.cells #[.int .i64 n, .slice va vn vc] 24)).alloc (.cells #[.slice pa pn pc, .slice qa qn qc] 27)).alloc (.cells #[.int .i64 ow, .slice na nn nc] 50)).cell? ⟨w.heap.size, 0, none⟩ = some (.int .i64 n) ∧ (((w.alloc (.cells #[.int .i64 n, .slice va vn vc] 24)).alloc (.cells #[.slice pa pn pc, .slice qa qn qc] 27)).alloc (.cells #[.int .i64 ow, .slice na nn nc] 50)).cell? ⟨w.heap.size, 1, none⟩ = some (.slice va vn vc) ∧ (((w.alloc (.cells #[.int .i64 n, .slice va vn vc] 24)).alloc (.cells #[.slice pa pn pc, .slice qa qn qc] 27)).alloc (.cells #[.int .i64 ow, .slice na nn nc] 50)).cell? ⟨w.heap.size + 1, 0, none⟩ = some (.slice pa pn pc) ∧ (((w.alloc (.cells #[.int .i64 n, .slice va vn vc] 24)).alloc (.cells #[.slice pa pn pc, .slice qa qn qc] 27)).alloc (.cells #[.int .i64 ow, .slice na nn nc] 50)).cell? ⟨w.heap.size + 1, 1, none⟩ = some (.slice qa qn qc) ∧ (((w.alloc (.cells #[.int .i64 n, .slice va vn vc] 24)).alloc (.cells #[.slice pa pn pc, .slice qa qn qc] 27)).alloc (.cells #[.int .i64 ow, .slice na nn nc] 50)).cell? ⟨w.heap.size + 1 + 1, 0, none⟩ = some (.int .i64 ow) ∧ (((w.alloc (.cells #[.int .i64 n, .slice va vn vc] 24)).alloc (.cells #[.slice pa pn pc, .slice qa qn qc] 27)).alloc (.cells #[.int .i64 ow, .slice na nn nc] 50)).cell? ⟨w.heap.size + 1 + 1, 1, none⟩ = some (.slice na nn nc) ∧ Below w.heap.size w (((w.alloc (.cells #[.int .i64 n, .slice va vn vc] 24)).alloc (.cells #[.slice pa pn pc, .slice qa qn qc] 27)).alloc (.cells #[.int .i64 ow, .slice na nn nc] 50))) := ⟨by simp [go_sem], by simp [go_sem], by simp [go_sem], by simp [go_sem], by simp [go_sem], by simp [go_sem], (((Below.refl _ w).alloc (Nat.le_refl _) _).alloc (by simp) _).alloc (by simp; omega) _⟩
  have hK2 := fun (pr pw : Value) (W : World) (hW : Below w.heap.size w W) (hp : IsPols W pr (bl.r ++ [⟨ow, ns⟩])) (hq : IsPols W pw (bl.w ++ [⟨ow, ns⟩])) => levelOk n (.slice va vn vc) gs pr pw (Lab.mk (bl.r ++ [Pol.mk ow ns]) (bl.w ++ [Pol.mk ow ns])) W (isGrants_over hv hW) hp hq
  simp only [Int.toNat_natCast] at hK2
  have K2 := hide hK2
  have KA := hide fun (i : Nat) (hi : i < n) (x : Int) (hx : 0 ≤ x ∧ x < n) (W : World) (hW : Below w.heap.size w W) => refActs_int n i x h6 hi hx (.slice va vn vc) (gnOf gs) W (by rw [hgs]; exact isGrants_over hv hW) hlen hgb
  obtain ⟨csR, hcR, hsR⟩ := polCells_of hp
  obtain ⟨csW, hcW, hsW⟩ := polCells_of hq
  have HSR : Hid (∀ W, Below w.heap.size w W → SrcAt W (.slice pa pn pc) bl.r.length csR) := fun W hW => srcAt_of hp hcR hsR hW hshR
  have HSW : Hid (∀ W, Below w.heap.size w W → SrcAt W (.slice qa qn qc) bl.w.length csW) := fun W hW => srcAt_of hq hcW hsW hW hshW
  have HCR := hide (polCells_snoc hcR hn (ow := ow))
  have HCW := hide (polCells_snoc hcW hn (ow := ow))
  have hl4 : bl.r.length ≤ 4 ∧ bl.w.length ≤ 4 := ⟨hin.1.1, hin.2.1⟩
  clear hKL hK2 hv hp hq hn hcR hcW hsR hsW hgs hlen hgb hin hch hE hX
  have hB := hs0.out.2.2.2.2.2.2
  go_enter Try.func6, Try.ntmps6
  go_wp2_with fail
  refine (KL.out _ hB).mono ?_
  rintro e w1 ⟨vx, rfl, hxf, hb1⟩
  clear hB
  have hs1 := hide (held6 hs0.out hb1)
  clear hs0 
  obtain ⟨g1, q1, g2, q2, rfl, hxg⟩ := boxG_new hxf h1 (levOf_len (gnOf gs) n bl).1 (levOf_len (gnOf gs) n bl).2
  have hal := (Below.refl _ w1).alloc (Nat.le_refl _) (.cells #[.slice (some ⟨g1, 0, none⟩) n q1, .slice (some ⟨g2, 0, none⟩) n q2] 30)
  have hx2 := hide hxg
  have hs2 := hide (held6 hs1.out hal)
  clear hs1 
  clear hxf hxg hb1 hal
  go_wp2_with fail
  refine (begun_any _).mono ?_
  rintro e w3 ⟨rfl, hb3⟩
  have hs3 := hide (held6 hs2.out hb3)
  have hx3 := hide (hx2.out.over hb3)
  clear hs2 hx2
  clear hb3
  obtain ⟨c0, c1, c2, c3, c4, c5, hB⟩ := hs3.out
  go_wp2_with fail
  go_cut [9] from 26 to 40 (fun s9 wc => RelM w3 (bl.r ++ [⟨ow, ns⟩]) (bl.w ++ [⟨ow, ns⟩]) s9 wc)
  case first =>
    refine wp_region_noPanic ?_
    refine wp_region_held_drew (S := fun W => W.cell? ⟨w.heap.size + 1, 0, none⟩ = some (.slice pa pn pc) ∧ W.cell? ⟨w.heap.size + 1, 1, none⟩ = some (.slice qa qn qc) ∧ W.cell? ⟨w.heap.size + 1 + 1, 0, none⟩ = some (.int .i64 ow) ∧ W.cell? ⟨w.heap.size + 1 + 1, 1, none⟩ = some (.slice na nn nc) ∧ Below w3.heap.size w3 W) (by kernel_rfl) ⟨c2, c3, c4, c5, below_drewN (Below.refl _ _) 1⟩ (fun hHeld => ?_)
    refine wpAnyH_take (i := 1) (v := ?_) rfl (by kernel_rfl) (by kernel_rfl) (by kernel_rfl) (fun _ _ _ h => h) (Or.inl ⟨by rfl, fun w hSw => ?_⟩) hHeld ?_
    rotate_left
    · obtain ⟨t0, t1, t2, t3, -⟩ := hSw; go_simp; first | done | with_reducible rfl
    simp only [List.getElem_toArray, List.getElem_cons_succ, List.getElem_cons_zero, Act.put, List.setIfInBounds_toArray, List.set_cons_zero, List.set_cons_succ]
    refine wpAnyH_take (i := 2) (v := ?_) rfl (by kernel_rfl) (by kernel_rfl) (by kernel_rfl) (fun _ _ _ h => h) (Or.inl ⟨by rfl, fun w hSw => ?_⟩) hHeld ?_
    rotate_left
    · obtain ⟨t0, t1, t2, t3, -⟩ := hSw; go_simp; first | done | with_reducible rfl
    simp only [List.getElem_toArray, List.getElem_cons_succ, List.getElem_cons_zero, Act.put, List.setIfInBounds_toArray, List.set_cons_zero, List.set_cons_succ]
    refine wpAnyH_take (i := 4) (v := ?_) rfl (by kernel_rfl) (by kernel_rfl) (by kernel_rfl) (fun _ _ _ h => h) (Or.inl ⟨by rfl, fun w hSw => ?_⟩) hHeld ?_
    rotate_left
    · obtain ⟨t0, t1, t2, t3, -⟩ := hSw; go_simp; first | done | with_reducible rfl
    simp only [List.getElem_toArray, List.getElem_cons_succ, List.getElem_cons_zero, Act.put, List.setIfInBounds_toArray, List.set_cons_zero, List.set_cons_succ]
    refine wpAnyH_take (i := 8) (v := ?_) rfl (by kernel_rfl) (by kernel_rfl) (by kernel_rfl) (fun _ _ _ h => h) (Or.inl ⟨by rfl, fun w hSw => ?_⟩) hHeld ?_
    rotate_left
    · obtain ⟨t0, t1, t2, t3, -⟩ := hSw; go_simp; first | done | with_reducible rfl
    simp only [List.getElem_toArray, List.getElem_cons_succ, List.getElem_cons_zero, Act.put, List.setIfInBounds_toArray, List.set_cons_zero, List.set_cons_succ]
    refine wpAnyH_take (i := 9) (v := ?_) rfl (by kernel_rfl) (by kernel_rfl) (by kernel_rfl) (fun _ _ _ h => h) (Or.inl ⟨by rfl, fun w hSw => ?_⟩) hHeld ?_
    rotate_left
    · obtain ⟨t0, t1, t2, t3, -⟩ := hSw; go_simp; first | done | with_reducible rfl
    simp only [List.getElem_toArray, List.getElem_cons_succ, List.getElem_cons_zero, Act.put, List.setIfInBounds_toArray, List.set_cons_zero, List.set_cons_succ]
    refine wpAnyH_take (i := 11) (v := ?_) rfl (by kernel_rfl) (by kernel_rfl) (by kernel_rfl) (fun _ _ _ h => h) (Or.inl ⟨by rfl, fun w hSw => ?_⟩) hHeld ?_
    rotate_left
    · obtain ⟨t0, t1, t2, t3, -⟩ := hSw; go_simp; first | done | with_reducible rfl
    simp only [List.getElem_toArray, List.getElem_cons_succ, List.getElem_cons_zero, Act.put, List.setIfInBounds_toArray, List.set_cons_zero, List.set_cons_succ]
    generalize w3.drew = W0 at hHeld ⊢
    have L1 := World.block_lt_of_cell? w3 _ c2
    have L2 := World.block_lt_of_cell? w3 _ c4
    refine node_n0n00 (B := w3.heap.size) (nr := bl.r.length) (nw := bl.w.length) (csR := csR) (csW := csW) ⟨fun W h => h.2.2.2.2.size, fun W W' h hb => ?_⟩ (fun W h => HSR.out W (hB.trans (h.2.2.2.2.mono hB.size))) (fun W h => HSW.out W (hB.trans (h.2.2.2.2.mono hB.size))) hl4 ?_ (fun c a a' w h => h) W0 hHeld
    · obtain ⟨t0, t1, t2, t3, t4⟩ := h
      have hc : ∀ b o, b < w3.heap.size → W'.cell? ⟨b, o, none⟩ = W.cell? ⟨b, o, none⟩ := fun b o h => hb.cell (p := ⟨b, o, none⟩) h
      exact ⟨by rw [hc _ _ L1]; exact t0, by rw [hc _ _ L1]; exact t1, by rw [hc _ _ L2]; exact t2, by rw [hc _ _ L2]; exact t3, t4.trans hb⟩
    · intro W v26 v29 v31 v33 v36 v38 v40 g32 c32 g39 c39 b9 hS hR1 hR2 z0 z1
      refine NoPanic.normal ?_
      have hBW := hB.trans (hS.2.2.2.2.mono hB.size)
      have p1 := isPols_row (ps := bl.r ++ [⟨ow, ns⟩]) (by rw [List.length_append]; exact hR1) HCR.out hBW
      have p2 := isPols_row (ps := bl.w ++ [⟨ow, ns⟩]) (by rw [List.length_append]; exact hR2) HCW.out hBW
      have HREL : Hid (RelM w3 (bl.r ++ [⟨ow, ns⟩]) (bl.w ++ [⟨ow, ns⟩]) (.pointer (some ⟨b9, 0, none⟩)) W) := ⟨b9, _, _, rfl, z0, z1, p1, p2, hS.2.2.2.2⟩
      clear p1 p2 hBW hR1 hR2 z0 z1 hS hHeld
      unfold moreFrame
      dsimp only
      go_wp2_with fail
      go_meet
      exact HREL.out
  case rest =>
    clear c0 c1 c2 c3 c4 c5 hB HSR HSW HCR HCW
    obtain ⟨nb, u, v', rfl, z0, z1, p1, p2, hBc⟩ := hcut
    have hs4 := hide (held6 hs3.out hBc)
    have hx4 := hide (hx3.out.over hBc)
    obtain ⟨c0, c1, c2, c3, c4, c5, hB⟩ := hs4.out
    have hk := K2.out u v' wc hB p1 p2
    obtain ⟨ua, un, uc, rfl⟩ := pols_form p1
    obtain ⟨ta, tn, tc, rfl⟩ := pols_form p2
    have HK := hide hk
    clear hk p1 p2 hBc hs3 hx3 K2
    by_cases hr0 : lChk n gs (Lab.mk (bl.r ++ [Pol.mk ow ns]) (bl.w ++ [Pol.mk ow ns])) = 0
    · have hin2 := lChk_ok hr0
      obtain ⟨n', hn', _, _, _, _, _, hin3, _⟩ := hin2
      have hnn : n' = n := by omega
      subst hnn
      have hpin : polIn n' ⟨ow, ns⟩ := hin3.1.2 _ (by simp)
      have how : 0 ≤ ow ∧ ow < (n' : Int) := hpin.1
      clear hin3 hpin hn'
      rw [hr0, if_pos rfl] at HK
      go_wp2_with fail
      refine (HK.out).mono ?_
      rintro e w5 ⟨vy, rfl, hyf, hb5⟩
      obtain ⟨g3, q3, g4, q4, rfl, hyg⟩ := boxG_new hyf h1 (levOf_len (gnOf gs) n' (Lab.mk (bl.r ++ [Pol.mk ow ns]) (bl.w ++ [Pol.mk ow ns]))).1 (levOf_len (gnOf gs) n' (Lab.mk (bl.r ++ [Pol.mk ow ns]) (bl.w ++ [Pol.mk ow ns]))).2
      have hal := hb5.trans (((Below.refl _ w5).alloc (Nat.le_refl _) (.cells #[.slice (some ⟨g3, 0, none⟩) n' q3, .slice (some ⟨g4, 0, none⟩) n' q4] 30)).mono hb5.size)
      have hs6 := hide (held6 hs4.out hal)
      have hx6 := hide (hx4.out.over hal)
      have hy6 := hide hyg
      clear hs4 hx4 hyf hyg hb5 hal HK c0 c1 c2 c3 c4 c5 hB z0 z1
      obtain ⟨c0, c1, c2, c3, c4, c5, hB⟩ := hs6.out
      obtain ⟨x0, x1, -⟩ := hx6.out
      obtain ⟨y0, y1, -⟩ := hy6.out
      have bb : ((n' : Int) != (n' : Int)) = false := by simp
      go_wp2_with fail
      clear c0 c1 c2 c3 c4 c5 hB x0 x1 y0 y1
      go_loopw [11] (fun i wr => ∃ t : Nat, t ≤ n' ∧ i = .int .i64 t ∧ (wr.cell? ⟨w.heap.size, 0, none⟩ = some (.int .i64 n') ∧ wr.cell? ⟨w.heap.size, 1, none⟩ = some (.slice va vn vc) ∧ wr.cell? ⟨w.heap.size + 1, 0, none⟩ = some (.slice pa pn pc) ∧ wr.cell? ⟨w.heap.size + 1, 1, none⟩ = some (.slice qa qn qc) ∧ wr.cell? ⟨w.heap.size + 1 + 1, 0, none⟩ = some (.int .i64 ow) ∧ wr.cell? ⟨w.heap.size + 1 + 1, 1, none⟩ = some (.slice na nn nc) ∧ Below w.heap.size w wr) ∧ BoxG wr w1.heap.size g1 q1 g2 q2 n' (levOf (gnOf gs) n' bl) ∧ BoxG wr w5.heap.size g3 q3 g4 q4 n' (levOf (gnOf gs) n' (Lab.mk (bl.r ++ [Pol.mk ow ns]) (bl.w ++ [Pol.mk ow ns])))) (fun i _ => n' - (intOf i).toNat)
      case atStart => exact ⟨0, Nat.zero_le _, rfl, hs6.out, hx6.out, hy6.out⟩
      case round =>
        clear hs6 hx6 hy6
        obtain ⟨t, ht, rfl, hs, hx, hy⟩ := hrel
        by_cases htn : t < n'
        · have hR := hide (And.intro hs (And.intro hx hy))
          obtain ⟨c0, c1, c2, c3, c4, c5, hB⟩ := hs
          obtain ⟨x0, x1, x2⟩ := hx
          obtain ⟨y0, y1, y2⟩ := hy
          obtain ⟨x3, x4⟩ := x2 t htn
          obtain ⟨y3, y4⟩ := y2 t htn
          rw [(levOf_get (gnOf gs) n' t bl htn).1] at x3
          rw [(levOf_get (gnOf gs) n' t bl htn).2] at x4
          rw [(levOf_get (gnOf gs) n' t (Lab.mk (bl.r ++ [Pol.mk ow ns]) (bl.w ++ [Pol.mk ow ns])) htn).1, mayB_snoc] at y3
          rw [(levOf_get (gnOf gs) n' t (Lab.mk (bl.r ++ [Pol.mk ow ns]) (bl.w ++ [Pol.mk ow ns])) htn).2, mayB_snoc] at y4
          have hka := KA.out t htn ow how
          have hAP : actB (gnOf gs) n' t ow = true → polB (gnOf gs) n' t (Pol.mk ow ns) = true := fun h => by simp [polB, h]
          generalize mayB (gnOf gs) n' t bl.r = X at x3 y3
          generalize mayB (gnOf gs) n' t bl.w = X' at x4 y4
          generalize polB (gnOf gs) n' t (Pol.mk ow ns) = P at y3 y4 hAP
          generalize actB (gnOf gs) n' t ow = A at hAP hka
          have HKA := hide hka
          have i0 : (0 : Int) ≤ (t : Int) := by omega
          have i1 : (t : Int) < (n' : Int) := by omega
          clear hka x2 y2
          cases P with
          | true =>
            clear hAP
            cases X <;> cases X'
            all_goals go_wp2_with fail
            all_goals exact ⟨⟨t + 1, by omega, by go_num, hR.out⟩, by simp [intOf]; omega⟩
          | false =>
            have hA : A = false := by cases A with | false => rfl | true => exact absurd (hAP rfl) (by decide)
            subst hA
            clear hAP
            have HY3 := y3
            cases X with
            | false =>
              cases X'
              all_goals go_wp2_with fail
              all_goals exact ⟨⟨t + 1, by omega, by go_num, hR.out⟩, by simp [intOf]; omega⟩
            | true =>
              cases X'
              all_goals go_wp2_with fail
              all_goals refine (HKA.out _ hB).mono ?_
              all_goals rintro e w8 ⟨rfl, hb8⟩
              all_goals have HR2 := hide (And.intro (held6 hR.out.1 hb8) (And.intro (hR.out.2.1.over hb8) (hR.out.2.2.over hb8)))
              all_goals clear c0 c1 c2 c3 c4 c5 hB x0 x1 x3 x4 y0 y1 y3 y4 HY3 hR hb8
              all_goals go_wp2_with fail
              all_goals exact ⟨⟨t + 1, by omega, by go_num, HR2.out⟩, by simp [intOf]; omega⟩
        · have i1 : ¬ (t : Int) < (n' : Int) := by omega
          obtain ⟨c0, c1, c2, c3, c4, c5, hB⟩ := hs
          clear hx hy
          go_wp2_with fail
          go_ret
          exact ⟨rfl, hB⟩
    · obtain ⟨r, hr⟩ : ∃ r, r = lChk n gs (Lab.mk (bl.r ++ [Pol.mk ow ns]) (bl.w ++ [Pol.mk ow ns])) := ⟨_, rfl⟩
      rw [if_neg hr0] at HK
      rw [← hr] at hr0 HK
      have b1 : (r != 0) = true := by simpa using hr0
      clear hr
      go_wp2_with fail
      refine (HK.out).mono ?_
      rintro e w5 ⟨vy, rfl, hyf, hb5⟩
      obtain ⟨a5, k5, a6, k6, rfl⟩ := lev_form (levFresh_at hyf)
      have hB5 := hB.trans (hb5.mono hB.size)
      have hB6 := hB5.trans (((Below.refl _ w5).alloc (Nat.le_refl _) (.cells #[.slice a5 noLev.r.length k5, .slice a6 noLev.w.length k6] 30)).mono hB5.size)
      have HB6 := hide hB6
      clear c0 c1 c2 c3 c4 c5 hB hB5 hB6 hb5 hyf HK hs4 hx4 z0 z1
      go_wp2_with fail
      go_ret
      exact ⟨rfl, HB6.out⟩
end Go.Proofs.Ytekgnjifopgboaa

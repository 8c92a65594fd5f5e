/- A level that is copied, list by list: veilworklaw.RestLevels' own. -/
import Derived.Test.YtekgnjifopgboaaJoinsB
import Derived.Laws.OwnMore
namespace Go.Proofs.Ytekgnjifopgboaa
open Go.RowKit
set_option linter.unusedVariables false
attribute [local go_sem ↓] Go.wp_at_zero Go.wp_at_succ

/-- a slice as it is handed in: nothing, or somewhere. -/
def Shape (v : Value) : Prop := v = .slice none 0 0 ∨ ∃ ad n c, v = .slice (some ad) n c

/-- what holds throughout the statement. -/
def HoldL (w : World) (x y : Value) (W : World) : Prop := W.cell? ⟨w.heap.size, 0, none⟩ = some x ∧ W.cell? ⟨w.heap.size, 1, none⟩ = some y ∧ Below w.heap.size w W ∧ w.heap.size + 1 + 1 ≤ W.heap.size

theorem HoldL.keep {w W W' : World} {x y : Value} (h : HoldL w x y W) (hb : Below (w.heap.size + 1) W W') : HoldL w x y W' := by
  obtain ⟨h0, h1, h2, h3⟩ := h
  have hc : ∀ o, W'.cell? ⟨w.heap.size, o, none⟩ = W.cell? ⟨w.heap.size, o, none⟩ := fun o => hb.cell (p := ⟨w.heap.size, o, none⟩) (by simp)
  exact ⟨by rw [hc]; exact h0, by rw [hc]; exact h1, h2.trans (hb.mono (by omega)), Nat.le_trans h3 hb.size⟩
theorem HoldL.alloc {w W : World} {x y : Value} (h : HoldL w x y W) (o : Obj) : HoldL w x y (W.alloc o) := h.keep ((Below.refl _ W).alloc (by have := h.2.2.2; omega) o)
theorem HoldL.grown {w W W' : World} {x y : Value} {g : Nat} (h : HoldL w x y W) (hg : W.grownBy W' (some g)) (hB : w.heap.size + 1 ≤ g) : HoldL w x y W' :=
  h.keep ⟨hg.os, hg.tape, hg.output, hg.size, fun k hk => hg.block k (by have := h.2.2.2; omega) (by intro h; injection h with h; omega)⟩
theorem HoldL.drew {w W : World} {x y : Value} (h : HoldL w x y W) : HoldL w x y W.drew := ⟨h.1, h.2.1, below_drewN h.2.2.1 1, h.2.2.2⟩
theorem HoldL.set {w W : World} {x y : Value} (h : HoldL w x y W) {p : Addr} (hp : w.heap.size + 1 ≤ p.block) (u : Value) : HoldL w x y (W.setCell p u) := h.keep ((Below.refl _ W).setCell hp u)

theorem own_emptyB (W : World) (B : Nat) (hB : B ≤ W.heap.size) : (W.alloc (.cells #[] 4)).ownsRow B 4 1 (.slice (some ⟨W.heap.size, 0, none⟩) 0 0) 0 [] :=
  ⟨rfl, Or.inr ⟨W.heap.size, 0, #[], rfl, hB, heap_alloc_new W _, Nat.le_refl _, Nat.zero_le _, rfl, rfl⟩⟩
theorem apart_alloc {W : World} {B : Nat} {u : Value} {k : Nat} {xs : List Value} (h : W.ownsRow B 4 1 u k xs) : Apart u (.slice (some ⟨W.heap.size, 0, none⟩) 0 0) := by
  cases hu : u.ownBlock with
  | none => exact Or.inl hu
  | some g =>
    right
    rw [hu]
    intro e
    have := (ownB_lt h hu).2
    simp [Value.ownBlock] at e
    omega
theorem blk_alloc {W : World} {g : Nat} {o o' : Obj} (h : W.heap[g]? = some o) : (W.alloc o').heap[g]? = some o := box_over h ((Below.refl _ W).alloc (Nat.le_refl _) o')
theorem ownB_block {W : World} {B g k cap : Nat} {xs : List Value} (h : W.ownsRow B 4 1 (.slice (some ⟨g, 0, none⟩) k cap) k xs) : B ≤ g ∧ ∃ cur, W.heap[g]? = some (.cells cur 4 (0, 0)) := by
  rcases h.2 with ⟨h, _⟩ | ⟨g', cap', cur, hv, hg, hh, _⟩
  · cases h
  · injection hv with e1 e2 e3
    injection e1 with e1
    injection e1 with e1
    subst e1
    exact ⟨hg, cur, hh⟩
theorem blk_grown {W W' : World} {B b g k cap : Nat} {xs : List Value} {x y : Value} (h : W.heap[b]? = some (.cells #[x, y] 30 (0, 0))) (ho : W.ownsRow B 4 1 (.slice (some ⟨g, 0, none⟩) k cap) k xs) (hg : W.grownBy W' (some g)) : W'.heap[b]? = some (.cells #[x, y] 30 (0, 0)) := by
  have hne : b ≠ g := by
    rintro rfl
    obtain ⟨_, cur, hh⟩ := ownB_block ho
    rw [hh] at h
    simp at h
  rw [hg.block b (Array.getElem?_eq_some_iff.1 h).1 (by intro h; injection h with h; omega)]
  exact h
theorem ownB_form {W : World} {B : Nat} {v : Value} {k : Nat} {xs : List Value} (h : W.ownsRow B 4 1 v k xs) (hv : v ≠ .slice none 0 0) : ∃ g cap, v = .slice (some ⟨g, 0, none⟩) k cap := by
  rcases h.2 with ⟨h, _⟩ | ⟨g', cap', cur, hv', _⟩
  · exact absurd h hv
  · exact ⟨g', cap', hv'⟩
theorem grown_refl (W : World) (r : Option Nat) : W.grownBy W r := ⟨rfl, rfl, rfl, Nat.le_refl _, fun _ _ _ => rfl⟩

section
variable {ops : Array Oper} {o : Oper} {a : Act} {W : World} {K : Act → World → Prop} {Q : Exit → Act → World → Prop} {E : Prop}

theorem step_appL (hg : o.guard = none) (s x : Operand) (hop : o.op = Op.call { callee := Callee.builtin Builtin.append, args := #[s, x], argTypes := #[28, 28] })
    (B b : Nat) (v : Value) (l : List Bool) (hs : a.eval s = .slice (some ⟨b, 0, none⟩) 0 0) (hx : a.eval x = v)
    (hown : W.ownsRow B 4 1 (.slice (some ⟨b, 0, none⟩) 0 0) 0 []) (hv : IsBools W v l) (hsh : Shape v) (hlen : l.length ≤ 140737488351232) (hB : B ≤ W.heap.size)
    (h : ∀ v' W', W'.ownsRow B 4 1 v' l.length (boolCells l) → W.grownBy W' (some b) → v' ≠ .slice none 0 0 → (v'.ownBlock = some b ∨ v'.ownBlock = some W.heap.size) → K (a.put o.dst v') W') :
    if Region.wanted o (yielded ops a.tmps) = true then Oper.wp Try.prog o a W K Q else E := by
  have hw : Region.wanted o (yielded ops a.tmps) = true := by simp [Region.wanted, hg]
  rw [if_pos hw]
  obtain ⟨i, hi, hz, h2, h16⟩ := info4
  obtain ⟨ao, cap, rfl, hcc⟩ := hv
  cases ao with
  | none =>
    have hl : l = [] := by
      apply Classical.byContradiction
      intro hne
      obtain ⟨b, off, h, _⟩ := hcc hne
      cases h
    subst hl
    have hcap : cap = 0 := by
      rcases hsh with e | ⟨ad, n, c, e⟩
      · injection e
      · cases e
    subst hcap
    have hr := run_append_owned_none (P := Try.prog) W B 28 o.type 4 i 1 Try.underlying28 hi _ 0 [] hown
    have hK := h _ W hown (grown_refl W _) (by simp) (Or.inl rfl)
    unfold Oper.wp execOp
    simp only [hop, resolve, invoke, builtin, Sem.run_bind, Sem.run_pure, Result.andThen_ok, List.map_toArray, List.map_cons, List.map_nil, hs, hx, List.length_nil, hr]
    exact hK
  | some ad =>
    obtain ⟨v', w', hr, h3, h4, h5, h6⟩ := run_append_own_at (P := Try.prog) W B 28 o.type 4 i _ 1 1 Try.underlying28 hi hz h2 h16 (by rfl) (by decide) (.slice (some ⟨b, 0, none⟩) 0 0) 0 [] hown ad l.length cap (boolCells l) (by simp [boolCells]) (by
      intro j u hu
      have hj : j < l.length := by have := (List.getElem?_eq_some_iff.1 hu).1; simpa [boolCells] using this
      obtain ⟨b', off, hb', hcl⟩ := hcc (by rintro rfl; simp at hj)
      injection hb' with hb'
      subst hb'
      rw [Addr.add_lit]
      have : u = .bool l[j] := by simp [boolCells, hj] at hu; exact hu.symm
      rw [this]
      exact hcl j hj) (by intro u hu; simp [boolCells] at hu; rcases hu with ⟨_, rfl⟩ | ⟨_, rfl⟩ <;> rfl) (by simp only [maxLen]; omega) (by omega) hB
    rw [Nat.zero_add] at h3
    have hnil : v' ≠ .slice none 0 0 := by
      intro e
      rw [e] at h6
      simp [Value.ownBlock] at h6
    have hK := h v' w' (by simpa using h3) h4 hnil h6
    unfold Oper.wp execOp
    simp only [hop, resolve, invoke, builtin, Sem.run_bind, Sem.run_pure, Result.andThen_ok, List.map_toArray, List.map_cons, List.map_nil, hs, hx, hr]
    exact hK
end

set_option maxRecDepth 100000 in
set_option maxHeartbeats 8000000 in
theorem own_any (vl : Value) (l : Lev) (w : World) (hl : LevAt w vl l) (hsz : l.r.length ≤ 140737488351232 ∧ l.w.length ≤ 140737488351232) (hsh : ∀ x y, vl = .agg #[x, y] → Shape x ∧ Shape y) :
    Calls Try.prog 26 #[vl] w fun e w' => ∃ v', e = .returned v' ∧ LevFresh w w' v' l ∧ Below w.heap.size w w' := by
  obtain ⟨vr, vw, rfl, hr, hw⟩ := hl
  obtain ⟨hs0, hs1⟩ := hsh vr vw rfl
  have HR := hide hr
  have HW := hide hw
  have HS0 := hide hs0
  have HS1 := hide hs1
  have hx : vr.oneCell' = true ∧ vw.oneCell' = true := by
    obtain ⟨a1, c1, rfl, -⟩ := hr
    obtain ⟨a2, c2, rfl, -⟩ := hw
    exact ⟨rfl, rfl⟩
  obtain ⟨a1, n1, c1, hvr⟩ : ∃ a n c, vr = .slice a n c := by obtain ⟨a, c, e, _⟩ := hr; exact ⟨a, _, c, e⟩
  obtain ⟨a2, n2, c2, hvw⟩ : ∃ a n c, vw = .slice a n c := by obtain ⟨a, c, e, _⟩ := hw; exact ⟨a, _, c, e⟩
  subst hvr hvw
  clear hr hw hs0 hs1 hsh hx
  have S0 : HoldL w (.slice a1 n1 c1) (.slice a2 n2 c2) ((w.alloc (.cells #[.slice a1 n1 c1, .slice a2 n2 c2] 30)).alloc (.cells #[.slice none 0 0, .slice none 0 0] 30)) := ⟨by simp [go_sem], by simp [go_sem], ((Below.refl _ w).alloc (Nat.le_refl _) _).alloc (by simp) _, by simp⟩
  have F2 : ((w.alloc (.cells #[.slice a1 n1 c1, .slice a2 n2 c2] 30)).alloc (.cells #[.slice none 0 0, .slice none 0 0] 30)).heap[w.heap.size + 1]? = some (.cells #[.slice none 0 0, .slice none 0 0] 30 (0, 0)) := by have := heap_of_alloc (w.alloc (.cells #[.slice a1 n1 c1, .slice a2 n2 c2] 30)) (.cells #[.slice none 0 0, .slice none 0 0] 30); simpa using this
  have HF2 := hide F2
  have HS := hide S0
  clear F2 S0
  go_enter Try.func26, Try.ntmps26
  go_wp2_with fail
  refine wp_region_noPanic ?_
  obtain ⟨V, hV⟩ : ∃ V, V = (w.alloc (.cells #[.slice a1 n1 c1, .slice a2 n2 c2] 30)).alloc (.cells #[.slice none 0 0, .slice none 0 0] 30) := ⟨_, rfl⟩
  rw [← hV] at HS HF2 ⊢
  clear hV
  refine wp_region_held_drew (S := fun W => HoldL w (.slice a1 n1 c1) (.slice a2 n2 c2) W) (by kernel_rfl) (HS.out.drew) (fun hHeld => ?_)
  have F2 : V.drew.heap[w.heap.size + 1]? = some (.cells #[.slice none 0 0, .slice none 0 0] 30 (0, 0)) := HF2.out
  clear HS HF2
  refine wpAnyH_take (i := 1) (v := ?_) rfl (by kernel_rfl) (by kernel_rfl) (by kernel_rfl) (fun _ _ _ h => h) (Or.inl ⟨by rfl, fun w hSw => ?_⟩) hHeld ?_
  rotate_left
  · obtain ⟨t0, t1, -, -⟩ := hSw; go_simp; first | done | with_reducible rfl
  simp only [List.getElem_toArray, List.getElem_cons_succ, List.getElem_cons_zero, Act.put, List.setIfInBounds_toArray, List.set_cons_zero, List.set_cons_succ]
  refine wpAnyH_take (i := 2) (v := ?_) rfl (by kernel_rfl) (by kernel_rfl) (by kernel_rfl) (fun _ _ _ h => h) (Or.inl ⟨by rfl, fun w hSw => ?_⟩) hHeld ?_
  rotate_left
  · obtain ⟨t0, t1, -, -⟩ := hSw; go_simp; first | done | with_reducible rfl
  simp only [List.getElem_toArray, List.getElem_cons_succ, List.getElem_cons_zero, Act.put, List.setIfInBounds_toArray, List.set_cons_zero, List.set_cons_succ]
  refine wpAnyH_take (i := 5) (v := ?_) rfl (by kernel_rfl) (by kernel_rfl) (by kernel_rfl) (fun _ _ _ h => h) (Or.inl ⟨by rfl, fun w hSw => ?_⟩) hHeld ?_
  rotate_left
  · obtain ⟨t0, t1, -, -⟩ := hSw; go_simp; first | done | with_reducible rfl
  simp only [List.getElem_toArray, List.getElem_cons_succ, List.getElem_cons_zero, Act.put, List.setIfInBounds_toArray, List.set_cons_zero, List.set_cons_succ]
  refine wpAnyH_take (i := 6) (v := ?_) rfl (by kernel_rfl) (by kernel_rfl) (by kernel_rfl) (fun _ _ _ h => h) (Or.inl ⟨by rfl, fun w hSw => ?_⟩) hHeld ?_
  rotate_left
  · obtain ⟨t0, t1, -, -⟩ := hSw; go_simp; first | done | with_reducible rfl
  simp only [List.getElem_toArray, List.getElem_cons_succ, List.getElem_cons_zero, Act.put, List.setIfInBounds_toArray, List.set_cons_zero, List.set_cons_succ]
  generalize V.drew = W0 at hHeld F2 ⊢
  have hHeld0 : w.heap.size + 1 ≤ W0.heap.size := Nat.le_of_succ_le hHeld.2.2.2
  refine wpAnyH_ready (rs := [0, 4]) (by kernel_rfl) (by simp) ?_
  refine AllReadyH.cons rfl (fun K hK => ?_) (AllReadyH.cons rfl (fun K hK => ?_) AllReadyH.nil)
  · go_simp
    refine hK.out _ _ (hHeld.alloc _) (fun hHeld => ?_)
    clear hK K
    have FX := own_emptyB W0 (w.heap.size + 1) hHeld0
    have F2 := blk_alloc (o' := .cells #[] 4) F2
    obtain ⟨W1, hW1⟩ : ∃ V, V = W0.alloc (.cells #[] 4) := ⟨_, rfl⟩
    rw [← hW1] at hHeld F2 FX ⊢
    clear hW1
    have hHeld0 : w.heap.size + 1 ≤ W1.heap.size := Nat.le_of_succ_le hHeld.2.2.2
    refine wpAnyH_ready (rs := [3, 4]) (by kernel_rfl) (by simp) ?_
    refine AllReadyH.cons rfl (fun K hK => ?_) (AllReadyH.cons rfl (fun K hK => ?_) AllReadyH.nil)
    · refine step_appL rfl _ _ rfl (w.heap.size + 1) _ _ l.r rfl rfl FX (isBools_over HR.out hHeld.2.2.1) HS0.out hsz.1 hHeld0 ?_
      intro v6 W2 G hg hnil hob
      refine hK.out _ _ (hHeld.grown hg (ownB_block FX).1) (fun hHeld => ?_)
      clear hK K
      have F2 := blk_grown F2 FX hg
      obtain ⟨g6, q6, rfl⟩ := ownB_form G hnil
      have FX := G
      clear G hg hnil hob
      simp only [List.getElem_toArray, List.getElem_cons_succ, List.getElem_cons_zero, Act.put, List.setIfInBounds_toArray, List.set_cons_zero, List.set_cons_succ]
      have hHeld0 : w.heap.size + 1 ≤ W2.heap.size := Nat.le_of_succ_le hHeld.2.2.2
      refine wpAnyH_ready (rs := [4]) (by kernel_rfl) (by simp) ?_
      refine AllReadyH.cons rfl (fun K hK => ?_) AllReadyH.nil
      go_simp
      refine hK.out _ _ (hHeld.alloc _) (fun hHeld => ?_)
      clear hK K
      have FY := own_emptyB W2 (w.heap.size + 1) hHeld0
      have AP := apart_alloc FX
      have FX := ownB_alloc FX (.cells #[] 4)
      have F2 := blk_alloc (o' := .cells #[] 4) F2
      obtain ⟨W3, hW3⟩ : ∃ V, V = W2.alloc (.cells #[] 4) := ⟨_, rfl⟩
      rw [← hW3] at hHeld F2 FY FX ⊢
      clear hW3
      have hHeld0 : w.heap.size + 1 ≤ W3.heap.size := Nat.le_of_succ_le hHeld.2.2.2
      refine wpAnyH_ready (rs := [7]) (by kernel_rfl) (by simp) ?_
      refine AllReadyH.cons rfl (fun K hK => ?_) AllReadyH.nil
      refine step_appL rfl _ _ rfl (w.heap.size + 1) _ _ l.w rfl rfl FY (isBools_over HW.out hHeld.2.2.1) HS1.out hsz.2 hHeld0 ?_
      intro v10 W4 G hg hnil hob
      refine hK.out _ _ (hHeld.grown hg (ownB_block FY).1) (fun hHeld => ?_)
      clear hK K
      have F2 := blk_grown F2 FY hg
      have AP2 := apart_new FX AP hob
      have FX := ownB_kept FX hg AP
      have AP := AP2
      obtain ⟨g10, q10, rfl⟩ := ownB_form G hnil
      have FY := G
      clear G hg hnil hob AP2
      simp only [List.getElem_toArray, List.getElem_cons_succ, List.getElem_cons_zero, Act.put, List.setIfInBounds_toArray, List.set_cons_zero, List.set_cons_succ]
      have hHeld0 : w.heap.size + 1 ≤ W4.heap.size := Nat.le_of_succ_le hHeld.2.2.2
      refine wpAnyH_take (i := 8) (v := ?_) rfl (by kernel_rfl) (by kernel_rfl) (by kernel_rfl) (fun _ _ _ h => h) (Or.inl ⟨by rfl, fun w hSw => ?_⟩) hHeld ?_
      rotate_left
      · obtain ⟨t0, t1, -, -⟩ := hSw; go_simp; first | done | with_reducible rfl
      simp only [List.getElem_toArray, List.getElem_cons_succ, List.getElem_cons_zero, Act.put, List.setIfInBounds_toArray, List.set_cons_zero, List.set_cons_succ]
      obtain ⟨z0, z1, z2, z3⟩ := cells_of_pair F2
      refine wpAnyH_ready (rs := [9]) (by kernel_rfl) (by simp) ?_
      refine AllReadyH.cons rfl (fun K hK => ?_) AllReadyH.nil
      go_simp
      refine hK.out _ _ ((hHeld.set (by simp) _).set (by simp) _) (fun hHeld => ?_)
      clear hK K
      refine wpAnyH_done (by kernel_rfl) ?_ _
      refine NoPanic.normal ?_
      go_wp2_with fail
      exact bodyPost_ret (v := .agg #[.slice (some ⟨g6, 0, none⟩) l.r.length q6, .slice (some ⟨g10, 0, none⟩) l.w.length q10]) (by simp [results, Try.results26, go_sem, z0, z1]) rfl ⟨_, rfl, fresh_set ⟨_, _, rfl, ownB_base FX (by omega), ownB_base FY (by omega), AP⟩ F2, hHeld.2.2.1⟩
    · go_simp
      refine hK.out _ _ (hHeld.alloc _) (fun hHeld => ?_)
      clear hK K
      have FY := own_emptyB W1 (w.heap.size + 1) hHeld0
      have AP := apart_alloc FX
      have FX := ownB_alloc FX (.cells #[] 4)
      have F2 := blk_alloc (o' := .cells #[] 4) F2
      obtain ⟨W2, hW2⟩ : ∃ V, V = W1.alloc (.cells #[] 4) := ⟨_, rfl⟩
      rw [← hW2] at hHeld F2 FY FX ⊢
      clear hW2
      have hHeld0 : w.heap.size + 1 ≤ W2.heap.size := Nat.le_of_succ_le hHeld.2.2.2
      refine wpAnyH_ready (rs := [3]) (by kernel_rfl) (by simp) ?_
      refine AllReadyH.cons rfl (fun K hK => ?_) AllReadyH.nil
      refine step_appL rfl _ _ rfl (w.heap.size + 1) _ _ l.r rfl rfl FX (isBools_over HR.out hHeld.2.2.1) HS0.out hsz.1 hHeld0 ?_
      intro v6 W3 G hg hnil hob
      refine hK.out _ _ (hHeld.grown hg (ownB_block FX).1) (fun hHeld => ?_)
      clear hK K
      have F2 := blk_grown F2 FX hg
      have AP2 := apart_symm (apart_new FY (apart_symm AP) hob)
      have FY := ownB_kept FY hg (apart_symm AP)
      have AP := AP2
      obtain ⟨g6, q6, rfl⟩ := ownB_form G hnil
      have FX := G
      clear G hg hnil hob AP2
      simp only [List.getElem_toArray, List.getElem_cons_succ, List.getElem_cons_zero, Act.put, List.setIfInBounds_toArray, List.set_cons_zero, List.set_cons_succ]
      have hHeld0 : w.heap.size + 1 ≤ W3.heap.size := Nat.le_of_succ_le hHeld.2.2.2
      refine wpAnyH_ready (rs := [7]) (by kernel_rfl) (by simp) ?_
      refine AllReadyH.cons rfl (fun K hK => ?_) AllReadyH.nil
      refine step_appL rfl _ _ rfl (w.heap.size + 1) _ _ l.w rfl rfl FY (isBools_over HW.out hHeld.2.2.1) HS1.out hsz.2 hHeld0 ?_
      intro v10 W4 G hg hnil hob
      refine hK.out _ _ (hHeld.grown hg (ownB_block FY).1) (fun hHeld => ?_)
      clear hK K
      have F2 := blk_grown F2 FY hg
      have AP2 := apart_new FX AP hob
      have FX := ownB_kept FX hg AP
      have AP := AP2
      obtain ⟨g10, q10, rfl⟩ := ownB_form G hnil
      have FY := G
      clear G hg hnil hob AP2
      simp only [List.getElem_toArray, List.getElem_cons_succ, List.getElem_cons_zero, Act.put, List.setIfInBounds_toArray, List.set_cons_zero, List.set_cons_succ]
      have hHeld0 : w.heap.size + 1 ≤ W4.heap.size := Nat.le_of_succ_le hHeld.2.2.2
      refine wpAnyH_take (i := 8) (v := ?_) rfl (by kernel_rfl) (by kernel_rfl) (by kernel_rfl) (fun _ _ _ h => h) (Or.inl ⟨by rfl, fun w hSw => ?_⟩) hHeld ?_
      rotate_left
      · obtain ⟨t0, t1, -, -⟩ := hSw; go_simp; first | done | with_reducible rfl
      simp only [List.getElem_toArray, List.getElem_cons_succ, List.getElem_cons_zero, Act.put, List.setIfInBounds_toArray, List.set_cons_zero, List.set_cons_succ]
      obtain ⟨z0, z1, z2, z3⟩ := cells_of_pair F2
      refine wpAnyH_ready (rs := [9]) (by kernel_rfl) (by simp) ?_
      refine AllReadyH.cons rfl (fun K hK => ?_) AllReadyH.nil
      go_simp
      refine hK.out _ _ ((hHeld.set (by simp) _).set (by simp) _) (fun hHeld => ?_)
      clear hK K
      refine wpAnyH_done (by kernel_rfl) ?_ _
      refine NoPanic.normal ?_
      go_wp2_with fail
      exact bodyPost_ret (v := .agg #[.slice (some ⟨g6, 0, none⟩) l.r.length q6, .slice (some ⟨g10, 0, none⟩) l.w.length q10]) (by simp [results, Try.results26, go_sem, z0, z1]) rfl ⟨_, rfl, fresh_set ⟨_, _, rfl, ownB_base FX (by omega), ownB_base FY (by omega), AP⟩ F2, hHeld.2.2.1⟩
  · go_simp
    refine hK.out _ _ (hHeld.alloc _) (fun hHeld => ?_)
    clear hK K
    have FY := own_emptyB W0 (w.heap.size + 1) hHeld0
    have F2 := blk_alloc (o' := .cells #[] 4) F2
    obtain ⟨W1, hW1⟩ : ∃ V, V = W0.alloc (.cells #[] 4) := ⟨_, rfl⟩
    rw [← hW1] at hHeld F2 FY ⊢
    clear hW1
    have hHeld0 : w.heap.size + 1 ≤ W1.heap.size := Nat.le_of_succ_le hHeld.2.2.2
    refine wpAnyH_ready (rs := [0]) (by kernel_rfl) (by simp) ?_
    refine AllReadyH.cons rfl (fun K hK => ?_) AllReadyH.nil
    go_simp
    refine hK.out _ _ (hHeld.alloc _) (fun hHeld => ?_)
    clear hK K
    have FX := own_emptyB W1 (w.heap.size + 1) hHeld0
    have AP := apart_symm (apart_alloc FY)
    have FY := ownB_alloc FY (.cells #[] 4)
    have F2 := blk_alloc (o' := .cells #[] 4) F2
    obtain ⟨W2, hW2⟩ : ∃ V, V = W1.alloc (.cells #[] 4) := ⟨_, rfl⟩
    rw [← hW2] at hHeld F2 FX FY ⊢
    clear hW2
    have hHeld0 : w.heap.size + 1 ≤ W2.heap.size := Nat.le_of_succ_le hHeld.2.2.2
    refine wpAnyH_ready (rs := [3]) (by kernel_rfl) (by simp) ?_
    refine AllReadyH.cons rfl (fun K hK => ?_) AllReadyH.nil
    refine step_appL rfl _ _ rfl (w.heap.size + 1) _ _ l.r rfl rfl FX (isBools_over HR.out hHeld.2.2.1) HS0.out hsz.1 hHeld0 ?_
    intro v6 W3 G hg hnil hob
    refine hK.out _ _ (hHeld.grown hg (ownB_block FX).1) (fun hHeld => ?_)
    clear hK K
    have F2 := blk_grown F2 FX hg
    have AP2 := apart_symm (apart_new FY (apart_symm AP) hob)
    have FY := ownB_kept FY hg (apart_symm AP)
    have AP := AP2
    obtain ⟨g6, q6, rfl⟩ := ownB_form G hnil
    have FX := G
    clear G hg hnil hob AP2
    simp only [List.getElem_toArray, List.getElem_cons_succ, List.getElem_cons_zero, Act.put, List.setIfInBounds_toArray, List.set_cons_zero, List.set_cons_succ]
    have hHeld0 : w.heap.size + 1 ≤ W3.heap.size := Nat.le_of_succ_le hHeld.2.2.2
    refine wpAnyH_ready (rs := [7]) (by kernel_rfl) (by simp) ?_
    refine AllReadyH.cons rfl (fun K hK => ?_) AllReadyH.nil
    refine step_appL rfl _ _ rfl (w.heap.size + 1) _ _ l.w rfl rfl FY (isBools_over HW.out hHeld.2.2.1) HS1.out hsz.2 hHeld0 ?_
    intro v10 W4 G hg hnil hob
    refine hK.out _ _ (hHeld.grown hg (ownB_block FY).1) (fun hHeld => ?_)
    clear hK K
    have F2 := blk_grown F2 FY hg
    have AP2 := apart_new FX AP hob
    have FX := ownB_kept FX hg AP
    have AP := AP2
    obtain ⟨g10, q10, rfl⟩ := ownB_form G hnil
    have FY := G
    clear G hg hnil hob AP2
    simp only [List.getElem_toArray, List.getElem_cons_succ, List.getElem_cons_zero, Act.put, List.setIfInBounds_toArray, List.set_cons_zero, List.set_cons_succ]
    have hHeld0 : w.heap.size + 1 ≤ W4.heap.size := Nat.le_of_succ_le hHeld.2.2.2
    refine wpAnyH_take (i := 8) (v := ?_) rfl (by kernel_rfl) (by kernel_rfl) (by kernel_rfl) (fun _ _ _ h => h) (Or.inl ⟨by rfl, fun w hSw => ?_⟩) hHeld ?_
    rotate_left
    · obtain ⟨t0, t1, -, -⟩ := hSw; go_simp; first | done | with_reducible rfl
    simp only [List.getElem_toArray, List.getElem_cons_succ, List.getElem_cons_zero, Act.put, List.setIfInBounds_toArray, List.set_cons_zero, List.set_cons_succ]
    obtain ⟨z0, z1, z2, z3⟩ := cells_of_pair F2
    refine wpAnyH_ready (rs := [9]) (by kernel_rfl) (by simp) ?_
    refine AllReadyH.cons rfl (fun K hK => ?_) AllReadyH.nil
    go_simp
    refine hK.out _ _ ((hHeld.set (by simp) _).set (by simp) _) (fun hHeld => ?_)
    clear hK K
    refine wpAnyH_done (by kernel_rfl) ?_ _
    refine NoPanic.normal ?_
    go_wp2_with fail
    exact bodyPost_ret (v := .agg #[.slice (some ⟨g6, 0, none⟩) l.r.length q6, .slice (some ⟨g10, 0, none⟩) l.w.length q10]) (by simp [results, Try.results26, go_sem, z0, z1]) rfl ⟨_, rfl, fresh_set ⟨_, _, rfl, ownB_base FX (by omega), ownB_base FY (by omega), AP⟩ F2, hHeld.2.2.1⟩
end Go.Proofs.Ytekgnjifopgboaa

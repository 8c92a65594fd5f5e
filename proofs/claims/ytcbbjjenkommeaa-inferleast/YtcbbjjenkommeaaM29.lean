/- Rows of levels, one behind the other. -/
import Derived.Test.YtcbbjjenkommeaaM28
namespace Go.Proofs.Ytcbbjjenkommeaa.Ex
open Go.RowKit
set_option linter.unusedVariables false
theorem lev_cells {w : World} {b : Nat} : ∀ (ls : List Lev) (o : Nat), (∀ i (h : i < ls.length), ∃ (rv wv : Value), w.cell? ⟨b, o + i * 2, none⟩ = some rv ∧ w.cell? ⟨b, o + i * 2 + 1, none⟩ = some wv ∧ LevAt w (.agg #[rv, wv]) ls[i]) →
    ∃ xs : List Value, xs.length = ls.length * 2 ∧ (∀ j u, xs[j]? = some u → w.cell? ⟨b, o + j, none⟩ = some u) ∧ (∀ u ∈ xs, u.oneCell' = true) ∧ ∀ i (h : i < ls.length), ∃ x y, xs[i * 2]? = some x ∧ xs[i * 2 + 1]? = some y ∧ LevAt w (.agg #[x, y]) ls[i]
  | [], o, _ => ⟨[], rfl, fun j u hu => by simp at hu, fun u hu => by simp at hu, fun i h => absurd h (by simp)⟩
  | l :: ls, o, h => by
    obtain ⟨pr, pw, h0, h1, h2⟩ := h 0 (by simp)
    obtain ⟨xs, hl, hc, h1c, hx⟩ := lev_cells (w := w) (b := b) ls (o + 2) (fun i hi => by
      obtain ⟨pr', pw', e0, e1, e2⟩ := h (i + 1) (by simpa using hi)
      refine ⟨pr', pw', ?_, ?_, e2⟩
      · rw [← e0]; congr 2; omega
      · rw [← e1]; congr 2; omega)
    obtain ⟨q1, q2, q3, q4, q5, q6, rfl, rfl⟩ := lev_slices h2
    refine ⟨.slice q1 q2 q3 :: .slice q4 q5 q6 :: xs, by simp [hl]; omega, fun j u hu => ?_, fun u hu => ?_, fun i hi => ?_⟩
    · match j, hu with
      | 0, hu => simp at hu; subst hu; simpa using h0
      | 1, hu => simp at hu; subst hu; simpa using h1
      | j + 2, hu =>
        have := hc j u (by simpa using hu)
        rw [← this]
        congr 2
        omega
    · simp at hu
      rcases hu with rfl | rfl | hu
      · rfl
      · rfl
      · exact h1c u hu
    · match i, hi with
      | 0, hi => exact ⟨_, _, rfl, rfl, h2⟩
      | i + 1, hi =>
        obtain ⟨x, y, e0, e1, e2⟩ := hx i (by simpa using hi)
        refine ⟨x, y, ?_, ?_, e2⟩
        · rw [show (i + 1) * 2 = i * 2 + 1 + 1 from by omega]; simpa using e0
        · rw [show (i + 1) * 2 + 1 = i * 2 + 1 + 1 + 1 from by omega]; simpa using e1
/-- a row of one's own, made since, whose levels lay there already. -/
def ApL (W0 W : World) (v : Value) (Ls : List Lev) : Prop :=
  ∃ us : List Value, W.ownsRow W0.heap.size 62 2 v Ls.length us ∧ ∀ i (h : i < Ls.length), ∃ x y, us[i * 2]? = some x ∧ us[i * 2 + 1]? = some y ∧ LevAt W0 (.agg #[x, y]) Ls[i]
theorem ApL.keep {W0 W W' : World} {v : Value} {Ls : List Lev} {row : Option Nat} (h : ApL W0 W v Ls) (hg : W.grownBy W' row) (ha : v.ownBlock = none ∨ v.ownBlock ≠ row) : ApL W0 W' v Ls := by
  obtain ⟨us, ho, hel⟩ := h
  exact ⟨us, ho.kept hg ha, hel⟩
theorem ApL.levs {W0 W : World} {v : Value} {Ls : List Lev} (h : ApL W0 W v Ls) (hb : Below W0.heap.size W0 W) : IsLevs W v Ls := by
  obtain ⟨us, ho, hel⟩ := h
  rcases ho.2 with ⟨h, h0⟩ | ⟨g, cap, cur, h, hb', hg, hc1, hc2, hc3, hc4⟩
  · have : Ls = [] := List.eq_nil_of_length_eq_zero h0
    subst this
    exact ⟨none, 0, h, fun h => absurd rfl h⟩
  · refine ⟨some ⟨g, 0, none⟩, cap, h, fun hne => ⟨g, 0, rfl, fun i hi => ?_⟩⟩
    obtain ⟨x, y, e0, e1, hl⟩ := hel i hi
    have hcell : ∀ j u, us[j]? = some u → W.cell? ⟨g, 0 + j, none⟩ = some u := fun j u hu => by
      rw [Nat.zero_add, Lib.cell_of_heap hg]
      rw [← hc4, List.getElem?_take] at hu
      split at hu
      · simpa using hu
      · cases hu
    exact ⟨x, y, hcell _ _ e0, by have := hcell _ _ e1; simpa [Nat.add_assoc] using this, levAt_over hl hb⟩
/-- levels are appended. -/
theorem appLev {W0 W : World} {v : Value} {Ls Ms : List Lev} {sa : Option Addr} {m c : Nat} (h : ApL W0 W v Ls) (hb : Below W0.heap.size W0 W) (hs : IsLevs W0 (.slice sa m c) Ms) (hn : sa = none → c = 0) (hl : Ls.length + Ms.length ≤ 100) :
    ∃ v' W', (Builtin.append_ #[52, 52] 52 #[v, .slice sa m c]).run Try.prog W = .ok v' W' ∧ ApL W0 W' v' (Ls ++ Ms) ∧ W.grownBy W' v.ownBlock ∧ (v'.ownBlock = v.ownBlock ∨ v'.ownBlock = some W.heap.size) := by
  obtain ⟨i0, hi, hz0, hz1, hz2⟩ := info_parts Try.infoLv
  obtain ⟨us, ho, hel⟩ := h
  obtain ⟨ao, cap, hv, hsel⟩ := hs
  injection hv with v1 v2 v3
  cases sa with
  | none =>
    have hM : Ms = [] := by
      cases Ms with
      | nil => rfl
      | cons a l =>
        obtain ⟨b, off, e, -⟩ := hsel (by simp)
        rw [← v1] at e
        cases e
    subst hM
    simp at v2
    subst v2
    rw [hn rfl]
    refine ⟨v, W, run_append_owned_none (P := Try.prog) (w := W) W0.heap.size 52 52 62 i0 2 Try.underlying52 hi v _ us ho, ?_, ⟨rfl, rfl, rfl, Nat.le_refl _, fun _ _ _ => rfl⟩, Or.inl rfl⟩
    rw [List.append_nil]
    exact ⟨us, ho, hel⟩
  | some a =>
    have hsrc : ∃ xs : List Value, xs.length = Ms.length * 2 ∧ (∀ j u, xs[j]? = some u → W.cell? (a.add j) = some u) ∧ (∀ u ∈ xs, u.oneCell' = true) ∧ ∀ i (h : i < Ms.length), ∃ x y, xs[i * 2]? = some x ∧ xs[i * 2 + 1]? = some y ∧ LevAt W0 (.agg #[x, y]) Ms[i] := by
      cases hM : Ms with
      | nil => exact ⟨[], rfl, fun j u hu => by simp at hu, fun u hu => by simp at hu, fun i h => absurd h (by simp)⟩
      | cons d l =>
        obtain ⟨b, off, e, hel⟩ := hsel (by rw [hM]; simp)
        rw [← v1] at e
        injection e with e
        subst e
        obtain ⟨xs, q1, q2, q3, q4⟩ := lev_cells Ms off hel
        rw [hM] at q1 q4
        exact ⟨xs, q1, fun j u hu => by rw [Addr.add_lit]; exact cell_over hb _ _ (q2 j u hu), q3, q4⟩
    obtain ⟨xs, q1, q2, q3, q4⟩ := hsrc
    subst v2
    obtain ⟨v', W', hrun, hown, hgr, -, hat⟩ := run_append_own_at (P := Try.prog) (w := W) W0.heap.size 52 52 62 i0 (.agg #[.slice none 0 0, .slice none 0 0]) 2 48 Try.underlying52 hi hz0 hz1 hz2 rfl (by decide) v Ls.length us ho a Ms.length c xs q1 q2 q3 (by simp [maxLen]; omega) (by omega) hb.size
    refine ⟨v', W', hrun, ⟨us ++ xs, by simpa using hown, fun i hi => ?_⟩, hgr, hat⟩
    have hus : us.length = Ls.length * 2 := ho.1
    by_cases hlt : i < Ls.length
    · obtain ⟨x, y, e0, e1, hl⟩ := hel i hlt
      refine ⟨x, y, ?_, ?_, ?_⟩
      · rw [List.getElem?_append_left (by omega)]; exact e0
      · rw [List.getElem?_append_left (by omega)]; exact e1
      · rw [List.getElem_append_left hlt]; exact hl
    · have hi2 : i - Ls.length < Ms.length := by simp at hi; omega
      obtain ⟨x, y, e0, e1, hl⟩ := q4 (i - Ls.length) hi2
      refine ⟨x, y, ?_, ?_, ?_⟩
      · rw [List.getElem?_append_right (by omega), hus, show i * 2 - Ls.length * 2 = (i - Ls.length) * 2 from by omega]; exact e0
      · rw [List.getElem?_append_right (by omega), hus, show i * 2 + 1 - Ls.length * 2 = (i - Ls.length) * 2 + 1 from by omega]; exact e1
      · rw [List.getElem_append_right (by omega)]; exact hl
end Go.Proofs.Ytcbbjjenkommeaa.Ex

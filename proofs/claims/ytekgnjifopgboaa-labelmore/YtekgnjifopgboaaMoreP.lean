/- Policies put together: two lists, each with one policy more; what holds whatever the order is in which it is done. -/
import Derived.Test.YtekgnjifopgboaaLevels
import Derived.Laws.OwnMore
import Derived.Deep.SlicePairs
namespace Go.Proofs.Ytekgnjifopgboaa
open Go.RowKit
set_option linter.unusedVariables false

/-- policies, cell by cell. -/
def PolCells (w : World) (cs : List Value) (ps : List Pol) : Prop := cs.length = ps.length * 2 ∧ (∀ u ∈ cs, u.oneCell' = true) ∧ ∀ i (h : i < ps.length), cs[i * 2]? = some (.int .i64 ps[i].owner) ∧ ∃ nv, cs[i * 2 + 1]? = some nv ∧ IsInts w nv ps[i].names

theorem polCells_snoc {w : World} {cs : List Value} {ps : List Pol} (h : PolCells w cs ps) {ow : Int} {nv : Value} {ns : List Int} (hn : IsInts w nv ns) : PolCells w (cs ++ [.int .i64 ow, nv]) (ps ++ [⟨ow, ns⟩]) := by
  obtain ⟨h1, h2, h3⟩ := h
  refine ⟨by simp [h1]; omega, ?_, fun i hi => ?_⟩
  · intro u hu
    rcases List.mem_append.1 hu with hu | hu
    · exact h2 u hu
    · simp at hu
      rcases hu with rfl | rfl
      · rfl
      · obtain ⟨a, c, rfl, _⟩ := hn; rfl
  · by_cases hp : i < ps.length
    · obtain ⟨g1, nv', g2, g3⟩ := h3 i hp
      rw [List.getElem?_append_left (by omega), List.getElem?_append_left (by omega)]
      simp only [List.getElem_append_left hp]
      exact ⟨g1, nv', g2, g3⟩
    · have e : i = ps.length := by simp at hi; omega
      subst e
      rw [List.getElem?_append_right (by omega), List.getElem?_append_right (by omega)]
      have e1 : ps.length * 2 - cs.length = 0 := by omega
      have e2 : ps.length * 2 + 1 - cs.length = 1 := by omega
      simp only [e1, e2, List.getElem_concat_length]
      exact ⟨rfl, nv, rfl, hn⟩

theorem polCells_of {w : World} {v : Value} {ps : List Pol} (h : IsPols w v ps) : ∃ cs, PolCells w cs ps ∧ (ps ≠ [] → ∃ b off cap, v = .slice (some ⟨b, off, none⟩) ps.length cap ∧ ∀ j u, cs[j]? = some u → w.cell? ⟨b, off + j, none⟩ = some u) := by
  obtain ⟨ao, cap, rfl, hc⟩ := h
  by_cases hne : ps = []
  · subst hne
    exact ⟨[], ⟨rfl, by simp, fun i hi => by simp at hi⟩, fun h => absurd rfl h⟩
  · obtain ⟨b, off, rfl, hcl⟩ := hc hne
    have hval : ∀ i, i < ps.length → ∃ nv, w.cell? ⟨b, off + i * 2 + 1, none⟩ = some nv ∧ ∀ (h : i < ps.length), IsInts w nv ps[i].names := fun i hi => by
      obtain ⟨_, nv, h2, h3⟩ := hcl i hi
      exact ⟨nv, h2, fun _ => h3⟩
    obtain ⟨f, hf⟩ := Deep.choose_lt hval
    refine ⟨(List.range (ps.length * 2)).map fun j => if j % 2 = 0 then .int .i64 ((ps[j / 2]?.map (·.owner)).getD 0) else f (j / 2), ⟨by simp, ?_, fun i hi => ?_⟩, fun _ => ⟨b, off, cap, rfl, fun j u hu => ?_⟩⟩
    · intro u hu
      obtain ⟨j, hj, rfl⟩ := List.mem_map.1 hu
      split
      · rfl
      · obtain ⟨_, h3⟩ := hf (j / 2) (by have := List.mem_range.1 hj; omega)
        obtain ⟨a, c, e, _⟩ := h3 (by have := List.mem_range.1 hj; omega)
        rw [e]; rfl
    · refine ⟨?_, f i, ?_, (hf i hi).2 hi⟩
      · rw [List.getElem?_map, List.getElem?_range (by omega)]
        simp [hi]
      · rw [List.getElem?_map, List.getElem?_range (by omega)]
        have e1 : (i * 2 + 1) % 2 = 1 := by omega
        have e2 : (i * 2 + 1) / 2 = i := by omega
        simp [e1, e2]
    · have hj : j < ps.length * 2 := by have := (List.getElem?_eq_some_iff.1 hu).1; simpa using this
      rw [List.getElem?_map, List.getElem?_range hj] at hu
      simp only [Option.map_some, Option.some.injEq] at hu
      have hi : j / 2 < ps.length := by omega
      by_cases hm : j % 2 = 0
      · rw [if_pos hm] at hu
        have e : off + j = off + j / 2 * 2 := by omega
        rw [e, (hcl (j / 2) hi).1, ← hu]
        simp [hi]
      · rw [if_neg hm] at hu
        have e : off + j = off + j / 2 * 2 + 1 := by omega
        rw [e, (hf (j / 2) hi).1, hu]

theorem isPols_row {W w : World} {B : Nat} {v : Value} {cs : List Value} {ps : List Pol} (h : W.ownsRow B 50 2 v ps.length cs) (hp : PolCells w cs ps) (hb : Below w.heap.size w W) : IsPols W v ps := by
  have hc := fun g => h.cells (g := g)
  rcases h.2 with ⟨rfl, h0⟩ | ⟨g, cap, cur, rfl, _⟩
  · exact ⟨none, 0, by rw [h0], fun hne => absurd (List.eq_nil_of_length_eq_zero h0) hne⟩
  · refine ⟨_, cap, rfl, fun _ => ⟨g, 0, rfl, fun i hi => ?_⟩⟩
    obtain ⟨k0, nv, k1, k2⟩ := hp.2.2 i hi
    have h1 := hc g rfl _ _ k0
    have h2 := hc g rfl _ _ k1
    have hadd : ∀ j, (⟨g, 0, none⟩ : Addr).add j = ⟨g, j, none⟩ := fun j => by unfold Addr.add; split <;> simp_all
    rw [hadd] at h1 h2
    exact ⟨by simpa using h1, nv, by simpa using h2, isInts_over k2 hb⟩

theorem Try.info50 : (Try.prog.info? 50).map (fun i => (i.zero, i.size, i.bytes)) = some (some (.agg #[.int .i64 0, .slice none 0 0]), 2, 32) := by kernel_rfl
theorem info50 : ∃ i, Try.prog.info? 50 = some i ∧ i.zero = some (.agg #[.int .i64 0, .slice none 0 0]) ∧ i.size = 2 ∧ i.bytes = 32 := by
  cases hi : Try.prog.info? 50 with
  | none => have := Try.info50; rw [hi] at this; cases this
  | some i =>
    have h4 := Try.info50
    rw [hi] at h4
    simp only [Option.map_some, Option.some.injEq, Prod.mk.injEq] at h4
    exact ⟨i, rfl, h4.1, h4.2.1, h4.2.2⟩

/-- where the cells lie that are put behind. -/
def SrcAt (W : World) (vx : Value) (m : Nat) (news : List Value) : Prop := news.length = m * 2 ∧ (∀ u ∈ news, u.oneCell' = true) ∧ ((vx = .slice none 0 0 ∧ m = 0) ∨ ∃ (ad : Addr) (cap : Nat), vx = .slice (some ad) m cap ∧ ∀ j u, news[j]? = some u → W.cell? (ad.add j) = some u)

/-- a slice as it is handed in: nothing, or somewhere. -/
def PShape (v : Value) : Prop := v = .slice none 0 0 ∨ ∃ ad n c, v = .slice (some ad) n c

section
variable {ops : Array Oper} {o : Oper} {a : Act} {W : World} {K : Act → World → Prop} {Q : Exit → Act → World → Prop} {E : Prop}

theorem step_appC (hg : o.guard = none) (s x : Operand) (hop : o.op = Op.call { callee := Callee.builtin Builtin.append, args := #[s, x], argTypes := #[25, 25] })
    (B b k cap0 m : Nat) (vx : Value) (xs news : List Value) (hs : a.eval s = .slice (some ⟨b, 0, none⟩) k cap0) (hx : a.eval x = vx)
    (hown : W.ownsRow B 50 2 (.slice (some ⟨b, 0, none⟩) k cap0) k xs) (hsrc : SrcAt W vx m news) (hlen : k + m ≤ 100) (hB : B ≤ W.heap.size)
    (h : ∀ g' c' W', W'.ownsRow B 50 2 (.slice (some ⟨g', 0, none⟩) (k + m) c') (k + m) (xs ++ news) → W.grownBy W' (some b) → (g' = b ∨ g' = W.heap.size) → K (a.put o.dst (.slice (some ⟨g', 0, none⟩) (k + m) c')) W') :
    if Region.wanted o (yielded ops a.tmps) = true then Oper.wp Try.prog o a W K Q else E := by
  have hw : Region.wanted o (yielded ops a.tmps) = true := by simp [Region.wanted, hg]
  rw [if_pos hw]
  obtain ⟨i, hi, hz, h2, h16⟩ := info50
  obtain ⟨hl, h1, hsrc⟩ := hsrc
  rcases hsrc with ⟨rfl, rfl⟩ | ⟨ad, cap, rfl, hcl⟩
  · have hnews : news = [] := List.eq_nil_of_length_eq_zero (by simpa using hl)
    subst hnews
    have hr := run_append_owned_none (P := Try.prog) W B 25 o.type 50 i 2 Try.underlying25 hi _ k xs hown
    have hK := h b cap0 W (by simpa using hown) ⟨rfl, rfl, rfl, Nat.le_refl _, fun _ _ _ => rfl⟩ (Or.inl rfl)
    unfold Oper.wp execOp
    simp only [hop, resolve, invoke, builtin, Sem.run_bind, Sem.run_pure, Result.andThen_ok, List.map_toArray, List.map_cons, List.map_nil, hs, hx, hr]
    exact hK
  · obtain ⟨v', w', hr, h3, h4, h5, h6⟩ := run_append_own_at (P := Try.prog) W B 25 o.type 50 i _ 2 32 Try.underlying25 hi hz h2 h16 (by rfl) (by decide) (.slice (some ⟨b, 0, none⟩) k cap0) k xs hown ad m cap news hl hcl h1 (by simp only [maxLen]; omega) (by omega) hB
    have hsh : ∃ g' c', v' = .slice (some ⟨g', 0, none⟩) (k + m) c' := by
      rcases h3.2 with ⟨e, _⟩ | ⟨g', c', cur, hv, _⟩
      · rw [e] at h6
        simp [Value.ownBlock] at h6
      · exact ⟨g', c', hv⟩
    obtain ⟨g', c', rfl⟩ := hsh
    have hK := h g' c' w' h3 h4 (by simpa [Value.ownBlock] using h6)
    unfold Oper.wp execOp
    simp only [hop, resolve, invoke, builtin, Sem.run_bind, Sem.run_pure, Result.andThen_ok, List.map_toArray, List.map_cons, List.map_nil, hs, hx, hr]
    exact hK
end
end Go.Proofs.Ytekgnjifopgboaa

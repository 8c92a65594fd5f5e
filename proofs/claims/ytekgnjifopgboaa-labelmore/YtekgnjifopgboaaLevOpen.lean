/- Labels and levels that were handed in lie in memory as labels and levels. -/
import Derived.Test.YtekgnjifopgboaaActorsOpen
import Derived.Deep.SlicePairs
namespace Go.Proofs.Ytekgnjifopgboaa
open Go.RowKit Go.ChangeShapes Go.WideShapes
set_option linter.unusedVariables false

theorem Try.own : ownKnob Try.prog.godebug = none := by kernel_rfl
theorem Try.laidOut : laidOutB Try.prog = true := by kernel_rfl
theorem Try.cells4 : Try.prog.cellsOf 4 = 1 := by kernel_rfl
theorem Try.cells48 : Try.prog.cellsOf 48 = 1 := by kernel_rfl
theorem Try.cells50 : Try.prog.cellsOf 50 = 2 := by kernel_rfl
theorem Try.cells27 : Try.prog.cellsOf 27 = 2 := by kernel_rfl
theorem Try.cells30 : Try.prog.cellsOf 30 = 2 := by kernel_rfl

theorem addr_plain {W : World} {a : Addr} {k : Nat} {v : Value} (h : W.cell? (a.add k) = some v) (hk : k = 0) : ∃ b off, a = ⟨b, off, none⟩ := by
  subst hk
  have hsp : a.spot = none := by simpa [Addr.add] using World.cell?_spot h
  obtain ⟨b, off, sp⟩ := a
  simp only at hsp
  subst hsp
  exact ⟨b, off, rfl⟩

theorem open_bools {H : Type} {enc : TypeId × Value → H} {W : World} {fuel : Nat} {v : Value} {x : DataW H × List MemPlace} (h : DataW.trod enc Try.prog W 0 (fun _ => true) true fuel 28 [v] = some x) :
    ∃ l : List Bool, IsBools W v l ∧ l.length ≤ maxLen := by
  rcases Deep.open_slice1 Try.underlying28 Try.cells4 h with ⟨hcs, hx⟩ | ⟨a, len, cap, m, n, V, D, Pl, hcs, _, hl, hm, hmm, hx, hel⟩
  · simp at hcs
    subst hcs
    exact ⟨[], ⟨none, 0, rfl, fun h => absurd rfl h⟩, by simp⟩
  · simp at hcs
    subst hcs
    simp only [if_true] at hmm
    have hget : ∀ i, i < len → ∃ t : Bool, W.cell? (a.add i) = some (.bool t) := fun i hi => by
      obtain ⟨hc, htr⟩ := hel i (by omega)
      obtain ⟨t, e, _⟩ := DataW.trod_bool Try.underlying4 htr
      simp at e
      rw [e] at hc
      exact ⟨t, hc⟩
    obtain ⟨f, hf⟩ := Deep.choose_lt hget
    refine ⟨(List.range len).map f, ⟨some a, cap, by simp, fun hne => ?_⟩, by simpa using Nat.le_trans hl hm⟩
    have h0 : 0 < len := by
      rcases Nat.eq_zero_or_pos len with h | h
      · subst h; simp at hne
      · exact h
    obtain ⟨b, off, rfl⟩ := addr_plain (hf 0 h0) rfl
    refine ⟨b, off, rfl, fun i hi => ?_⟩
    have hi' : i < len := by simpa using hi
    have hc := hf i hi'
    rw [Addr.add_lit] at hc
    simpa using hc

theorem open_ints {H : Type} {enc : TypeId × Value → H} {W : World} {fuel : Nat} {v : Value} {x : DataW H × List MemPlace} (h : DataW.trod enc Try.prog W 0 (fun _ => true) true fuel 48 [v] = some x) :
    ∃ l : List Int, IsInts W v l := by
  rcases Deep.open_slice1 Try.underlying48 Try.cells3 h with ⟨hcs, hx⟩ | ⟨a, len, cap, m, n, V, D, Pl, hcs, _, hl, hm, hmm, hx, hel⟩
  · simp at hcs
    subst hcs
    exact ⟨[], ⟨none, 0, rfl, fun h => absurd rfl h⟩⟩
  · simp at hcs
    subst hcs
    simp only [if_true] at hmm
    have hget : ∀ i, i < len → ∃ t : Int, W.cell? (a.add i) = some (.int .i64 t) := fun i hi => by
      obtain ⟨hc, htr⟩ := hel i (by omega)
      obtain ⟨t, e, _⟩ := DataW.trod_int Try.underlying3 htr
      simp at e
      rw [e] at hc
      exact ⟨t, hc⟩
    obtain ⟨f, hf⟩ := Deep.choose_lt hget
    refine ⟨(List.range len).map f, ⟨some a, cap, by simp, fun hne => ?_⟩⟩
    have h0 : 0 < len := by
      rcases Nat.eq_zero_or_pos len with h | h
      · subst h; simp at hne
      · exact h
    obtain ⟨b, off, rfl⟩ := addr_plain (hf 0 h0) rfl
    refine ⟨b, off, rfl, fun i hi => ?_⟩
    have hi' : i < len := by simpa using hi
    have hc := hf i hi'
    rw [Addr.add_lit] at hc
    simpa using hc

theorem open_pols {H : Type} {enc : TypeId × Value → H} {W : World} {fuel : Nat} {v : Value} {x : DataW H × List MemPlace} (h : DataW.trod enc Try.prog W 0 (fun _ => true) true fuel 25 [v] = some x) :
    ∃ ps : List Pol, IsPols W v ps := by
  rcases Deep.open_slice_pairs Try.underlying25 Try.underlying50 Try.cells50 rfl rfl Try.cells3 Try.cells48 h with ⟨hcs, hx⟩ | ⟨a, len, cap, m, n, V0, V1, D0, D1, P0, P1, hcs, _, hl, hm, hmm, hx, hel⟩
  · simp at hcs
    subst hcs
    exact ⟨[], ⟨none, 0, rfl, fun h => absurd rfl h⟩⟩
  · simp at hcs
    subst hcs
    simp only [if_true] at hmm
    have hget : ∀ i, i < len → ∃ t : Int × List Int, W.cell? (a.add (i * 2)) = some (.int .i64 t.1) ∧ ∃ nv, W.cell? (a.add (i * 2 + 1)) = some nv ∧ IsInts W nv t.2 := fun i hi => by
      obtain ⟨hc0, hc1, ht0, ht1⟩ := hel i (by omega)
      obtain ⟨t, e, _⟩ := DataW.trod_int Try.underlying3 ht0
      simp at e
      rw [e] at hc0
      obtain ⟨ns, hns⟩ := open_ints ht1
      exact ⟨(t, ns), hc0, V1 i, hc1, hns⟩
    obtain ⟨f, hf⟩ := Deep.choose_lt hget
    refine ⟨(List.range len).map fun i => ⟨(f i).1, (f i).2⟩, ⟨some a, cap, by simp, fun hne => ?_⟩⟩
    have h0 : 0 < len := by
      rcases Nat.eq_zero_or_pos len with h | h
      · subst h; simp at hne
      · exact h
    obtain ⟨b, off, rfl⟩ := addr_plain (hf 0 h0).1 rfl
    refine ⟨b, off, rfl, fun i hi => ?_⟩
    have hi' : i < len := by simpa using hi
    obtain ⟨hc0, nv, hc1, hns⟩ := hf i hi'
    rw [Addr.add_lit] at hc0 hc1
    exact ⟨by simpa using hc0, nv, by simpa [Nat.add_assoc] using hc1, by simpa using hns⟩

theorem open_label {H : Type} {enc : TypeId × Value → H} {W : World} {r : Go.Reach} {b0 : Nat} {v : Value} {d : DataW H} {p : List MemPlace} (hv : Value.okWide Try.prog W r b0 27 v) (h : DataW.Trod enc Try.prog W 0 (fun _ => true) true 27 v d p) :
    ∃ (pr pw : Value) (bl : Lab), v = .agg #[pr, pw] ∧ IsPols W pr bl.r ∧ IsPols W pw bl.w := by
  obtain ⟨v0, v1, y0, y1, n, rfl, -, -, h0, h1⟩ := Joins.open_agg2 Try.underlying27 (by kernel_rfl) Try.cells27 hv h
  obtain ⟨a, ha⟩ := open_pols h0
  obtain ⟨b, hb⟩ := open_pols h1
  exact ⟨v0, v1, ⟨a, b⟩, rfl, ha, hb⟩

theorem open_level {H : Type} {enc : TypeId × Value → H} {W : World} {r : Go.Reach} {b0 : Nat} {v : Value} {d : DataW H} {p : List MemPlace} (hv : Value.okWide Try.prog W r b0 30 v) (h : DataW.Trod enc Try.prog W 0 (fun _ => true) true 30 v d p) :
    ∃ l : Lev, LevAt W v l ∧ l.small := by
  obtain ⟨v0, v1, y0, y1, n, rfl, -, -, h0, h1⟩ := Joins.open_agg2 Try.underlying30 (by kernel_rfl) Try.cells30 hv h
  obtain ⟨a, ha, la⟩ := open_bools h0
  obtain ⟨b, hb, lb⟩ := open_bools h1
  exact ⟨⟨a, b⟩, ⟨v0, v1, rfl, ha, hb⟩, ⟨la, lb⟩⟩
end Go.Proofs.Ytekgnjifopgboaa

/- An expression and numbers that were handed in lie in memory as such. -/
import Derived.Test.YtdbepdabkciiiaaEk
import Derived.Deep.SlicePairs
namespace Go.Proofs.Ytdbepdabkciiiaa.Ex
open Go.RowKit Go.ChangeShapes Go.WideShapes
set_option linter.unusedVariables false

theorem open_vars {H : Type} {enc : TypeId × Value → H} {W : World} {fuel : Nat} {v : Value} {x : DataW H × List MemPlace} (h : DataW.trod enc Try.prog W 0 (fun _ => true) true fuel 25 [v] = some x) :
    ∃ l : List Int, IsInts W v l ∧ l.length ≤ maxLen := by
  rcases Deep.open_slice1 Try.underlying25 Try.cellsI h with ⟨hcs, hx⟩ | ⟨a, len, cap, m, n, V, D, Pl, hcs, _, hl, hm, hmm, hx, hel⟩
  · simp at hcs
    subst hcs
    exact ⟨[], ⟨none, 0, rfl, fun h => absurd rfl h⟩, by simp⟩
  · simp at hcs
    subst hcs
    simp only [if_true] at hmm
    have hget : ∀ i, i < len → ∃ t : Int, W.cell? (a.add i) = some (.int .i64 t) := fun i hi => by
      obtain ⟨hc, htr⟩ := hel i (by omega)
      obtain ⟨t, e, _⟩ := DataW.trod_int Try.underlying3 htr
      simp at e
      rw [e] at hc
      exact ⟨t, hc⟩
    obtain ⟨f, hf⟩ := Deep.choose_lt hget
    refine ⟨(List.range len).map f, ⟨some a, cap, by simp, fun hne => ?_⟩, by simpa using Nat.le_trans hl hm⟩
    have h0 : 0 < len := by
      rcases Nat.eq_zero_or_pos len with h | h
      · subst h; simp at hne
      · exact h
    have hp : ∃ b off, a = ⟨b, off, none⟩ := by
      have hk := hf 0 h0
      have hsp : a.spot = none := by simpa [Addr.add] using World.cell?_spot hk
      obtain ⟨b, off, sp⟩ := a
      simp only at hsp
      subst hsp
      exact ⟨b, off, rfl⟩
    obtain ⟨b, off, rfl⟩ := hp
    refine ⟨b, off, rfl, fun i hi => ?_⟩
    have hi' : i < len := by simpa using hi
    have hc := hf i hi'
    rw [Addr.add_lit] at hc
    simpa using hc

set_option maxRecDepth 100000 in
/-- an argument that is an expression. -/
theorem open_arg {H : Type} {enc : TypeId × Value → H} {W : World} {r : Go.Reach} {b0 : Nat} {v : Value} {d : DataW H} {p : List MemPlace} (hv : Value.okWide Try.prog W r b0 24 v) (h : DataW.Trod enc Try.prog W 0 (fun _ => true) true 24 v d p) :
    ∃ (k : Nat) (cs : List Value) (d' : Ex.D), v = .agg cs.toArray ∧ RX W k cs d' := by
  obtain ⟨cs, rfl, hsz⟩ := okWide_struct Try.underlying24 hv
  obtain ⟨fuel, hf⟩ := h
  obtain ⟨d', hd⟩ := open_expr fuel _ _ hf
  exact ⟨fuel, _, d', by simp [Value.cells], hd⟩
end Go.Proofs.Ytdbepdabkciiiaa.Ex

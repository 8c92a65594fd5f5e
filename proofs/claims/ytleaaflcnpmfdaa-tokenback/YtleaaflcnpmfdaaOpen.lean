/- A list of tokens that was handed in lies in memory as a list of tokens. -/
import Derived.Test.YtleaaflcnpmfdaaAlone
import Derived.ProofKit
import Derived.OpenShut
import Derived.Deep.Strs
namespace Go.Proofs.Ytleaaflcnpmfdaa
open Go.RowKit Go.ChangeShapes Go.WideShapes
set_option linter.unusedVariables false

theorem Try.cells34 : Try.prog.cellsOf 34 = 3 := by kernel_rfl
theorem Try.cells3 : Try.prog.cellsOf 3 = 1 := by kernel_rfl
theorem Try.cells9 : Try.prog.cellsOf 9 = 1 := by kernel_rfl
theorem Try.bytes34 : Try.prog.bytesOf 34 = 32 := by kernel_rfl

theorem tok_parts {H : Type} {enc : TypeId × Value → H} {W : World} {spare : Nat → Bool} {fuel : Nat} {cs : List Value} {x : DataW H × List MemPlace} (h : DataW.trod enc Try.prog W 0 spare true fuel 34 cs = some x) :
    ∃ t : Int × Int × ByteArray, cs = [.int .i64 t.1, .int .i64 t.2.1, .string t.2.2] ∧ t.2.2.size ≤ maxLen := by
  obtain ⟨y0, y1, y2, n, hx, hl, h0, h1, h2⟩ := Deep.trod_struct3 Try.underlying34 h
  rw [Try.cells34] at hl
  simp only [Try.cells3, Try.cells9] at h0 h1 h2
  obtain ⟨a, e0, _, _⟩ := DataW.trod_int Try.underlying3 h0
  obtain ⟨b, e1, _, _⟩ := DataW.trod_int Try.underlying3 h1
  obtain ⟨s, e2, _, hs⟩ := DataW.trod_string Try.underlying9 h2
  match cs, hl with
  | [c0, c1, c2], _ =>
    simp at e0 e1 e2
    subst e0 e1 e2
    exact ⟨(a, b, s), rfl, hs⟩

theorem toksCells_get {ts : List Tok} {j : Nat} {u : Value} (h : (toksCells ts)[j]? = some u) :
    ∃ (i : Nat) (hi : i < ts.length), (j = i * 3 ∧ u = .int .i64 ts[i].kind) ∨ (j = i * 3 + 1 ∧ u = .int .i64 ts[i].pos) ∨ (j = i * 3 + 2 ∧ u = .string ts[i].text) := by
  have hj : j < ts.length * 3 := by
    have := (List.getElem?_eq_some_iff.1 h).1
    rwa [toksCells_length] at this
  have hi : j / 3 < ts.length := by omega
  refine ⟨j / 3, hi, ?_⟩
  obtain ⟨k0, k1, k2⟩ := cellsAt (w := ((default : World).alloc (.cells (toksCells ts).toArray 34))) (b := (default : World).heap.size) (off := 0) (ts := ts)
    (fun q v hv => by rw [World.cell?_alloc_at _ _ _ _ rfl]; simpa using hv) hi
  have e : ∀ q, ((default : World).alloc (.cells (toksCells ts).toArray 34)).cell? ⟨(default : World).heap.size, 0 + q, none⟩ = (toksCells ts)[q]? := fun q => by
    rw [World.cell?_alloc_at _ _ _ _ rfl]; simp
  rcases (show j = j / 3 * 3 ∨ j = j / 3 * 3 + 1 ∨ j = j / 3 * 3 + 2 by omega) with h3 | h3 | h3
  · left
    refine ⟨h3, ?_⟩
    rw [e, ← h3, h] at k0
    exact Option.some.inj k0
  · right; left
    refine ⟨h3, ?_⟩
    rw [Nat.add_assoc, e, ← h3, h] at k1
    exact Option.some.inj k1
  · right; right
    refine ⟨h3, ?_⟩
    rw [Nat.add_assoc, e, ← h3, h] at k2
    exact Option.some.inj k2

theorem open_toks {H : Type} {enc : TypeId × Value → H} {W : World} {fuel : Nat} {ao : Option Addr} {len cap : Nat} {x : DataW H × List MemPlace} (h : DataW.trod enc Try.prog W 0 (fun _ => true) true fuel 22 [.slice ao len cap] = some x) :
    ∃ ts : List Tok, ts.length = len ∧ IsToks W (.slice ao len cap) ts ∧ (∀ t ∈ ts, t.text.size ≤ maxLen) ∧ (x.1 = .nil ∧ ts = [] ∨ ∃ el sp, x.1 = .slice el sp ∧ el.length = ts.length) := by
  rcases Deep.open_slice Try.underlying22 h with ⟨hcs, hx⟩ | ⟨a, len', cap', m, n, D, Pl, hcs, _, hl, hm, hmm, hx, hel⟩
  · simp at hcs
    obtain ⟨rfl, rfl, rfl⟩ := hcs
    exact ⟨[], rfl, ⟨none, 0, rfl, fun h => absurd rfl h⟩, by simp, Or.inl ⟨by rw [hx], rfl⟩⟩
  · simp at hcs
    obtain ⟨rfl, rfl, rfl⟩ := hcs
    simp only [if_true] at hmm
    rw [Try.cells34] at hel
    have hget : ∀ i, i < len → ∃ t : Int × Int × ByteArray, W.cells? 0 (a.add (i * 3)) 3 = some [.int .i64 t.1, .int .i64 t.2.1, .string t.2.2] ∧ t.2.2.size ≤ maxLen := fun i hi => by
      obtain ⟨cs', hc, htr⟩ := hel i (by omega)
      obtain ⟨t, rfl, ht⟩ := tok_parts htr
      exact ⟨t, hc, ht⟩
    obtain ⟨f, hf⟩ := Deep.choose_lt hget
    refine ⟨(List.range len).map fun i => ⟨(f i).1, (f i).2.1, (f i).2.2⟩, by simp, ⟨some a, cap, by simp, fun hne => ?_⟩, ?_, Or.inr ⟨_, _, by rw [hx], by simp⟩⟩
    · have h0 : 0 < len := by
        rcases Nat.eq_zero_or_pos len with h | h
        · subst h; simp at hne
        · exact h
      have hc0 := (World.cells?_some (hf 0 h0).1).2.2 0 (by omega)
      simp only [Nat.zero_mul, List.getElem?_cons_zero] at hc0
      have hsp : a.spot = none := by simpa [Addr.add] using World.cell?_spot hc0
      obtain ⟨b, off, sp⟩ := a
      simp only at hsp
      subst hsp
      refine ⟨b, off, rfl, fun j u hu => ?_⟩
      obtain ⟨i, hi, hcase⟩ := toksCells_get hu
      have hi' : i < len := by simpa using hi
      have hc := (World.cells?_some (hf i hi').1).2.2
      simp only [Addr.add_lit] at hc
      rcases hcase with ⟨rfl, rfl⟩ | ⟨rfl, rfl⟩ | ⟨rfl, rfl⟩
      · have := hc 0 (by omega)
        simpa using this
      · have := hc 1 (by omega)
        rw [← Nat.add_assoc]
        simpa using this
      · have := hc 2 (by omega)
        rw [← Nat.add_assoc]
        simpa using this
    · intro t ht
      obtain ⟨i, hi, rfl⟩ := List.mem_map.1 ht
      exact (hf i (List.mem_range.1 hi)).2
end Go.Proofs.Ytleaaflcnpmfdaa

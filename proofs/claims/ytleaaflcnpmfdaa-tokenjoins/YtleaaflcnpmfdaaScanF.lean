/- Plain: the tokens of a text, one behind the other, and where and why there are none. -/
import Derived.Test.YtleaaflcnpmfdaaNext
namespace Go.Proofs.Ytleaaflcnpmfdaa
open Go.RowKit
set_option linter.unusedVariables false

structure Tok where
  kind : Int
  pos : Int
  text : ByteArray

def tokCells (t : Tok) : List Value := [.int .i64 t.kind, .int .i64 t.pos, .string t.text]
def toksCells (ts : List Tok) : List Value := ts.flatMap tokCells

theorem toksCells_snoc (ts : List Tok) (t : Tok) : toksCells (ts ++ [t]) = toksCells ts ++ tokCells t := by simp [toksCells]
theorem toksCells_length (ts : List Tok) : (toksCells ts).length = ts.length * 3 := by
  induction ts with
  | nil => rfl
  | cons t ts ih =>
    have : (toksCells (t :: ts)).length = 3 + (toksCells ts).length := by simp [toksCells, tokCells]; omega
    rw [this, ih]; simp; omega

def tokAt (s : ByteArray) (j : Nat) : Tok := ⟨(tokKN s j).1, j, s.extract j (tokKN s j).2⟩

def scanF (s : ByteArray) : Nat → Bool → Nat → Sum (List Tok) (Nat × Nat)
  | 0, _, _ => .inl []
  | f + 1, note, i =>
    if skipL note s.data.toList i < s.size then
      if tokErr s (skipL note s.data.toList i) = 0 then
        match scanF s f false (tokKN s (skipL note s.data.toList i)).2 with
        | .inl ts => .inl (tokAt s (skipL note s.data.toList i) :: ts)
        | .inr x => .inr x
      else .inr (skipL note s.data.toList i, tokErr s (skipL note s.data.toList i))
    else .inl []

def pre (ts : List Tok) : Sum (List Tok) (Nat × Nat) → Sum (List Tok) (Nat × Nat)
  | .inl us => .inl (ts ++ us)
  | .inr x => .inr x

theorem pre_nil (r : Sum (List Tok) (Nat × Nat)) : pre [] r = r := by cases r <;> rfl

def scanS (s : ByteArray) : Sum (List Tok) (Nat × Nat) := scanF s (s.size + 1) false 0

/-- what is answered: tokens, where, why. -/
def scanToks (s : ByteArray) : List Tok := match scanS s with | .inl ts => ts | .inr _ => []
def scanPos (s : ByteArray) : Nat := match scanS s with | .inl _ => 0 | .inr x => x.1
def scanErr (s : ByteArray) : Nat := match scanS s with | .inl _ => 0 | .inr x => x.2

theorem tokKN_end {s : ByteArray} {j : Nat} (h : tokErr s j = 0) : j < (tokKN s j).2 ∧ (tokKN s j).2 ≤ s.size := by
  by_cases hj : j < s.size
  · have hl : j < s.data.toList.length := by simpa using hj
    have hg : s.data.toList[j] = s[j] := rfl
    by_cases hL : isL s[j] = true
    · have hk : tokKN s j = (1, spanL isN s.data.toList j) := by simp [tokKN, hj, hL]
      rw [hk]
      exact ⟨spanL_gt hl (by rw [hg]; simp [isN, hL]), by have := spanL_le (p := isN) (l := s.data.toList) (i := j) (by omega); simpa using this⟩
    by_cases hD : isD s[j] = true
    · have hk : tokKN s j = (2, spanL isD s.data.toList j) := by simp [tokKN, hj, hL, hD]
      rw [hk]
      exact ⟨spanL_gt hl (by rw [hg]; exact hD), by have := spanL_le (p := isD) (l := s.data.toList) (i := j) (by omega); simpa using this⟩
    by_cases hE : hasEqL s j = true
    · have hk : tokKN s j = (3, j + 2) := by simp [tokKN, hj, hL, hD, hE]
      rw [hk]
      have := hasEq_two ((hasEq_eq s j).trans hE)
      exact ⟨by simp, by simpa using this⟩
    by_cases hS : isS s[j] = true
    · have hk : tokKN s j = (3, j + 1) := by simp [tokKN, hj, hL, hD, hE, hS]
      rw [hk]
      exact ⟨by simp, by simp; omega⟩
    have hk : tokKN s j = (0, j) := by simp [tokKN, hj, hL, hD, hE, hS]
    simp [tokErr, hk] at h
  · have hk : tokKN s j = (0, j) := by simp [tokKN, hj]
    simp [tokErr, hk] at h

theorem tokKN_kind {s : ByteArray} {j : Nat} : (tokKN s j).1 ≤ 3 := by
  unfold tokKN
  repeat (first | split | simp)

theorem tokKN_ge (s : ByteArray) (j : Nat) : j ≤ (tokKN s j).2 := by
  unfold tokKN
  split
  · split
    · show j ≤ spanL isN s.data.toList j
      unfold spanL; omega
    · split
      · show j ≤ spanL isD s.data.toList j
        unfold spanL; omega
      · split
        · show j ≤ j + 2; omega
        · split
          · show j ≤ j + 1; omega
          · exact Nat.le_refl _
  · exact Nat.le_refl _

theorem tokKN_le {s : ByteArray} {i : Nat} (hi : i ≤ s.size) : (tokKN s i).2 ≤ s.size := by
  unfold tokKN
  split
  · rename_i h
    split
    · have := spanL_le (p := isN) (l := s.data.toList) (i := i) (by simpa using hi); simpa using this
    · split
      · have := spanL_le (p := isD) (l := s.data.toList) (i := i) (by simpa using hi); simpa using this
      · split
        · rename_i hE
          exact hasEq_two ((hasEq_eq s i).trans hE)
        · split
          · exact h
          · exact hi
  · exact hi

theorem scan_step {s : ByteArray} {f i : Nat} {note : Bool} {ts : List Tok} (h : scanS s = pre ts (scanF s (f + 1) note i)) (hlt : skipL note s.data.toList i < s.size)
    (he : tokErr s (skipL note s.data.toList i) = 0) : scanS s = pre (ts ++ [tokAt s (skipL note s.data.toList i)]) (scanF s f false (tokKN s (skipL note s.data.toList i)).2) := by
  rw [h]
  simp only [scanF, hlt, he, if_true]
  cases scanF s f false (tokKN s (skipL note s.data.toList i)).2 <;> simp [pre]

theorem scan_stop {s : ByteArray} {f i : Nat} {note : Bool} {ts : List Tok} (h : scanS s = pre ts (scanF s (f + 1) note i)) (hlt : skipL note s.data.toList i < s.size)
    (he : ¬ tokErr s (skipL note s.data.toList i) = 0) : scanS s = .inr (skipL note s.data.toList i, tokErr s (skipL note s.data.toList i)) := by
  rw [h]
  simp only [scanF, hlt, he, if_true, if_false]
  rfl

theorem scan_end {s : ByteArray} {f i : Nat} {note : Bool} {ts : List Tok} (h : scanS s = pre ts (scanF s (f + 1) note i)) (hlt : ¬ skipL note s.data.toList i < s.size) : scanS s = .inl ts := by
  rw [h]
  simp only [scanF, hlt, if_false]
  simp [pre]

theorem skipL_ge (note : Bool) (l : List UInt8) (i : Nat) : i ≤ skipL note l i := by unfold skipL; omega

theorem ownsRow_over {w w' : World} {base : Nat} {e : TypeId} {size : Nat} {v : Value} {n : Nat} {xs : List Value} (h : w.ownsRow base e size v n xs) (hb : Below w.heap.size w w') : w'.ownsRow base e size v n xs := by
  obtain ⟨h1, h2⟩ := h
  refine ⟨h1, ?_⟩
  rcases h2 with h2 | ⟨g, cap, cur, hv, hg, hh, r⟩
  · exact Or.inl h2
  · refine Or.inr ⟨g, cap, cur, hv, hg, ?_, r⟩
    rw [hb.block g ?_]
    · exact hh
    · exact (Array.getElem?_eq_some_iff.1 hh).1
end Go.Proofs.Ytleaaflcnpmfdaa

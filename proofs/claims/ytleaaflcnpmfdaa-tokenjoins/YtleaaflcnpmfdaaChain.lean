/- Plain: the tokens of a text stand in it one behind the other. -/
import Derived.Test.YtleaaflcnpmfdaaScanF
namespace Go.Proofs.Ytleaaflcnpmfdaa
open Go.RowKit
set_option linter.unusedVariables false

/-- tokens stand in a text from a place on, one behind the other. -/
def Chain (s : ByteArray) : Nat → List Tok → Prop
  | _, [] => True
  | a, t :: ts => ∃ p : Nat, t.pos = p ∧ a ≤ p ∧ 0 < t.text.size ∧ p + t.text.size ≤ s.size ∧ t.text = s.extract p (p + t.text.size) ∧ Chain s (p + t.text.size) ts

theorem chain_scan (s : ByteArray) : ∀ (f : Nat) (note : Bool) (i : Nat) (ts : List Tok), scanF s f note i = .inl ts → Chain s i ts := by
  intro f
  induction f with
  | zero => intro note i ts h; simp only [scanF, Sum.inl.injEq] at h; subst h; exact trivial
  | succ f ih =>
    intro note i ts h
    simp only [scanF] at h
    split at h
    · rename_i hlt
      split at h
      · rename_i he
        have hend := tokKN_end he
        cases hr : scanF s f false (tokKN s (skipL note s.data.toList i)).2 with
        | inl us =>
          rw [hr] at h
          simp only [Sum.inl.injEq] at h
          subst h
          have hsz : (s.extract (skipL note s.data.toList i) (tokKN s (skipL note s.data.toList i)).2).size = (tokKN s (skipL note s.data.toList i)).2 - skipL note s.data.toList i := by
            rw [ByteArray.size_extract, Nat.min_eq_left hend.2]
          have hpe : skipL note s.data.toList i + (s.extract (skipL note s.data.toList i) (tokKN s (skipL note s.data.toList i)).2).size = (tokKN s (skipL note s.data.toList i)).2 := by omega
          refine ⟨skipL note s.data.toList i, rfl, skipL_ge _ _ _, ?_, ?_, ?_, ?_⟩
          · show 0 < (s.extract _ _).size
            omega
          · show _ + (s.extract _ _).size ≤ _
            omega
          · show s.extract _ _ = s.extract _ (_ + (s.extract _ _).size)
            rw [hpe]
          · show Chain s (_ + (s.extract _ _).size) us
            rw [hpe]
            exact ih _ _ _ hr
        | inr x => rw [hr] at h; simp at h
      · simp at h
    · simp only [Sum.inl.injEq] at h; subst h; exact trivial

theorem chain_len (s : ByteArray) : ∀ (ts : List Tok) (a : Nat), Chain s a ts → a ≤ s.size → ts.length + a ≤ s.size := by
  intro ts
  induction ts with
  | nil => intro a _ h; simpa using h
  | cons t ts ih =>
    rintro a ⟨p, _, h1, h2, h3, _, h5⟩ _
    have := ih _ h5 h3
    simp only [List.length_cons]
    omega

theorem scanErr_inl {s : ByteArray} (h : scanErr s = 0) (hne : ∀ x, scanS s = .inr x → x.2 ≠ 0) : scanS s = .inl (scanToks s) := by
  cases hs : scanS s with
  | inl ts => simp [scanToks, hs]
  | inr x => simp [scanErr, hs] at h; exact absurd h (hne x hs)

theorem scanF_err (s : ByteArray) : ∀ (f : Nat) (note : Bool) (i : Nat) (x : Nat × Nat), scanF s f note i = .inr x → x.2 ≠ 0 := by
  intro f
  induction f with
  | zero => intro note i x h; simp [scanF] at h
  | succ f ih =>
    intro note i x h
    simp only [scanF] at h
    split at h
    · split at h
      · cases hr : scanF s f false (tokKN s (skipL note s.data.toList i)).2 with
        | inl us => rw [hr] at h; simp at h
        | inr y => rw [hr] at h; simp only [Sum.inr.injEq] at h; subst h; exact ih _ _ _ hr
      · rename_i he
        simp only [Sum.inr.injEq] at h
        subst h
        exact he
    · simp at h

theorem scan_ok {s : ByteArray} (h : scanErr s = 0) : scanS s = .inl (scanToks s) := scanErr_inl h fun x hx => scanF_err s _ _ _ x hx

theorem scan_bad {s : ByteArray} (h : ¬ scanErr s = 0) : scanToks s = [] := by
  cases hs : scanS s with
  | inl ts => simp [scanErr, hs] at h
  | inr x => simp [scanToks, hs]

theorem scan_length (s : ByteArray) (ts : List Tok) (h : scanS s = .inl ts) : ts.length ≤ s.size := by
  have := chain_len s ts 0 (chain_scan s _ _ _ _ h) (Nat.zero_le _)
  simpa using this
end Go.Proofs.Ytleaaflcnpmfdaa

/- Plain: who acts for whom: the least set that holds one and goes on along the grants; found by growing it one by one, or by going over all grants again and again. -/
import Derived.RowKit
namespace Go.Proofs.Ytekgnjifopgboaa
open Go.RowKit
set_option linter.unusedVariables false

/-- whom one acts for. -/
def Reach (gs : List (Nat × Nat)) (w k : Nat) : Prop := ∀ S : Nat → Prop, S w → (∀ g ∈ gs, S g.1 → S g.2) → S k

theorem reach_self (gs : List (Nat × Nat)) (w : Nat) : Reach gs w w := fun _ h _ => h
theorem reach_step {gs : List (Nat × Nat)} {w : Nat} {g : Nat × Nat} (hg : g ∈ gs) (h : Reach gs w g.1) : Reach gs w g.2 := fun S h0 hS => hS g hg (h S h0 hS)
theorem reach_trans {gs : List (Nat × Nat)} {a b c : Nat} (h : Reach gs a b) (h2 : Reach gs b c) : Reach gs a c := fun S h0 hS => h2 S (h S h0 hS) hS
theorem reach_more {gs hs : List (Nat × Nat)} {a b : Nat} (hm : ∀ g ∈ gs, g ∈ hs) (h : Reach gs a b) : Reach hs a b := fun S h0 hS => h S h0 fun g hg => hS g (hm g hg)

/-- those known so far are all reached, and one is known. -/
def Sound (gs : List (Nat × Nat)) (w : Nat) (l : List Bool) : Prop := l[w]? = some true ∧ ∀ k : Nat, l[k]? = some true → Reach gs w k
def Closed (gs : List (Nat × Nat)) (l : List Bool) : Prop := ∀ g ∈ gs, l[g.1]? = some true → l[g.2]? = some true

theorem sound_set {gs : List (Nat × Nat)} {w : Nat} {l : List Bool} {g : Nat × Nat} (h : Sound gs w l) (hg : g ∈ gs) (hk : l[g.1]? = some true) : Sound gs w (l.set g.2 true) := by
  refine ⟨?_, fun k hk2 => ?_⟩
  · rw [List.getElem?_set]
    split
    · split
      · rfl
      · rename_i e h1
        subst e
        have h0 := h.1
        rw [List.getElem?_eq_none (by omega)] at h0
        cases h0
    · exact h.1
  · rw [List.getElem?_set] at hk2
    split at hk2
    · rename_i e
      subst e
      exact reach_step hg (h.2 _ hk)
    · exact h.2 k hk2

theorem known_iff {gs : List (Nat × Nat)} {w : Nat} {l : List Bool} (h : Sound gs w l) (hc : Closed gs l) (k : Nat) : l[k]? = some true ↔ Reach gs w k :=
  ⟨fun e => h.2 k e, fun hr => hr (fun k => l[k]? = some true) h.1 hc⟩

theorem known_one {gs : List (Nat × Nat)} {w : Nat} {l m : List Bool} (h : Sound gs w l) (hc : Closed gs l) (h2 : Sound gs w m) (hc2 : Closed gs m) (hl : l.length = m.length) : l = m := by
  apply List.ext_getElem? 
  intro k
  have e := (known_iff h hc k).trans (known_iff h2 hc2 k).symm
  by_cases hk : k < l.length
  · have hk2 : k < m.length := by omega
    rw [List.getElem?_eq_getElem hk, List.getElem?_eq_getElem hk2] at e ⊢
    simp only [Option.some.injEq] at e ⊢
    exact Bool.eq_iff_iff.2 e
  · rw [List.getElem?_eq_none (by omega), List.getElem?_eq_none (by omega)]

/-- one round over all grants. -/
def stepG (l : List Bool) (g : Nat × Nat) : List Bool := if l[g.1]? = some true then l.set g.2 true else l
def pass (gs : List (Nat × Nat)) (l : List Bool) : List Bool := gs.foldl stepG l

theorem stepG_length (l : List Bool) (g : Nat × Nat) : (stepG l g).length = l.length := by
  unfold stepG; split <;> simp
theorem pass_length (gs : List (Nat × Nat)) (l : List Bool) : (pass gs l).length = l.length := by
  unfold pass
  induction gs generalizing l with
  | nil => rfl
  | cons g gs ih => rw [List.foldl_cons, ih, stepG_length]

theorem stepG_count (l : List Bool) (g : Nat × Nat) : stepG l g = l ∨ l.count true < (stepG l g).count true := by
  unfold stepG
  split
  · by_cases h : g.2 < l.length
    · by_cases hb : l[g.2] = true
      · left
        rw [← hb]
        exact List.set_getElem_self h
      · right
        have hb' : l[g.2] = false := by simpa using hb
        rw [List.count_set h]
        rw [hb']
        simp
    · left
      exact List.set_eq_of_length_le (by omega)
  · exact Or.inl rfl

theorem pass_count (gs : List (Nat × Nat)) (l : List Bool) : (pass gs l = l ∧ ∀ g ∈ gs, stepG l g = l) ∨ l.count true < (pass gs l).count true := by
  unfold pass
  induction gs generalizing l with
  | nil => exact Or.inl ⟨rfl, by simp⟩
  | cons g gs ih =>
    rw [List.foldl_cons]
    rcases stepG_count l g with h | h
    · rw [h]
      rcases ih l with ⟨h1, h2⟩ | h1
      · left
        refine ⟨h1, fun g' hg' => ?_⟩
        rcases List.mem_cons.1 hg' with rfl | hg'
        · exact h
        · exact h2 g' hg'
      · exact Or.inr h1
    · right
      rcases ih (stepG l g) with ⟨h1, _⟩ | h1
      · rw [h1]; exact h
      · omega

theorem closed_of_steps {gs : List (Nat × Nat)} {l : List Bool} (hb : ∀ g ∈ gs, g.2 < l.length) (h : ∀ g ∈ gs, stepG l g = l) : Closed gs l := fun g hg hk => by
  have := h g hg
  unfold stepG at this
  rw [if_pos hk] at this
  rw [← this, List.getElem?_set_self (hb g hg)]

theorem pass_sound {gs hs : List (Nat × Nat)} {w : Nat} {l : List Bool} (h : Sound gs w l) (hm : ∀ g ∈ hs, g ∈ gs) : Sound gs w (pass hs l) := by
  unfold pass
  induction hs generalizing l with
  | nil => exact h
  | cons g hs ih =>
    rw [List.foldl_cons]
    refine ih ?_ fun g' hg' => hm g' (List.mem_cons_of_mem _ hg')
    unfold stepG
    split
    · rename_i hk
      exact sound_set h (hm g (by simp)) hk
    · exact h

def passes (gs : List (Nat × Nat)) : Nat → List Bool → List Bool
  | 0, l => l
  | n + 1, l => pass gs (passes gs n l)

theorem passes_length (gs : List (Nat × Nat)) (n : Nat) (l : List Bool) : (passes gs n l).length = l.length := by
  induction n with
  | zero => rfl
  | succ n ih => rw [passes, pass_length, ih]

theorem passes_sound {gs : List (Nat × Nat)} {w n : Nat} {l : List Bool} (h : Sound gs w l) : Sound gs w (passes gs n l) := by
  induction n with
  | zero => exact h
  | succ n ih => exact pass_sound ih fun _ h => h

theorem passes_count (gs : List (Nat × Nat)) (n : Nat) (l : List Bool) (hb : ∀ g ∈ gs, g.2 < l.length) : Closed gs (passes gs n l) ∨ l.count true + n ≤ (passes gs n l).count true := by
  induction n with
  | zero => right; simp [passes]
  | succ n ih =>
    rw [passes]
    have hb' : ∀ g ∈ gs, g.2 < (passes gs n l).length := by rw [passes_length]; exact hb
    rcases pass_count gs (passes gs n l) with ⟨h1, h2⟩ | h1
    · left
      rw [h1]
      exact closed_of_steps hb' h2
    · rcases ih with ih | ih
      · left
        have hst : ∀ g ∈ gs, stepG (passes gs n l) g = passes gs n l := fun g hg => by
          unfold stepG
          split
          · rename_i hk
            have := ih g hg hk
            obtain ⟨hl, he⟩ := List.getElem?_eq_some_iff.1 this
            rw [← he]
            exact List.set_getElem_self hl
          · rfl
        have : pass gs (passes gs n l) = passes gs n l := by
          generalize passes gs n l = m at hst
          unfold pass
          clear h1 ih hb hb'
          induction gs with
          | nil => rfl
          | cons g gs ih2 =>
            rw [List.foldl_cons, hst g (by simp)]
            exact ih2 fun g' hg' => hst g' (List.mem_cons_of_mem _ hg')
        rw [this]
        exact ih
      · right; omega

theorem passes_closed {gs : List (Nat × Nat)} {w : Nat} {l : List Bool} (h : Sound gs w l) (hb : ∀ g ∈ gs, g.2 < l.length) : Closed gs (passes gs l.length l) := by
  rcases passes_count gs l.length l hb with h1 | h1
  · exact h1
  · have h2 := List.count_le_length (a := true) (l := passes gs l.length l)
    rw [passes_length] at h2
    have h3 : 0 < l.count true := List.count_pos_iff.2 (List.mem_of_getElem? h.1)
    omega

/-- none is known but one. -/
def start (n w : Nat) : List Bool := (List.replicate n false).set w true
theorem start_sound (gs : List (Nat × Nat)) {n w : Nat} (h : w < n) : Sound gs w (start n w) := by
  unfold start
  refine ⟨by rw [List.getElem?_set_self (by simpa using h)], fun k hk => ?_⟩
  rw [List.getElem?_set] at hk
  split at hk
  · rename_i e; subst e; exact reach_self _ _
  · rw [List.getElem?_replicate] at hk
    split at hk <;> cases hk

/-- whom one acts for, of so many. -/
def acts (gs : List (Nat × Nat)) (n w : Nat) : List Bool := passes gs n (start n w)

theorem start_length (n w : Nat) : (start n w).length = n := by simp [start]

theorem acts_length (gs : List (Nat × Nat)) (n w : Nat) : (acts gs n w).length = n := by rw [acts, passes_length, start_length]
theorem acts_sound (gs : List (Nat × Nat)) {n w : Nat} (h : w < n) : Sound gs w (acts gs n w) := passes_sound (start_sound gs h)
theorem acts_closed {gs : List (Nat × Nat)} {n w : Nat} (h : w < n) (hb : ∀ g ∈ gs, g.2 < n) : Closed gs (acts gs n w) := by
  have := passes_closed (gs := gs) (start_sound gs h) (by rw [start_length]; exact hb)
  rw [start_length] at this
  exact this
theorem acts_one {gs : List (Nat × Nat)} {n w : Nat} (h : w < n) (hb : ∀ g ∈ gs, g.2 < n) {l : List Bool} (hl : l.length = n) (h1 : Sound gs w l) (h2 : Closed gs l) : l = acts gs n w :=
  known_one h1 h2 (acts_sound gs h) (acts_closed h hb) (by rw [hl, acts_length])
theorem acts_iff {gs : List (Nat × Nat)} {n w : Nat} (h : w < n) (hb : ∀ g ∈ gs, g.2 < n) (k : Nat) : (acts gs n w)[k]? = some true ↔ Reach gs w k :=
  known_iff (acts_sound gs h) (acts_closed h hb) k
end Go.Proofs.Ytekgnjifopgboaa

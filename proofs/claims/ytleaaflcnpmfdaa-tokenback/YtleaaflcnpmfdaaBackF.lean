/- Plain: what is joined is scanned as it was, and each token that is scanned is alone in its text. -/
import Derived.Test.YtleaaflcnpmfdaaIsToken
import Derived.Test.YtleaaflcnpmfdaaJoin
import Derived.Test.YtleaaflcnpmfdaaScanOf
namespace Go.Proofs.Ytleaaflcnpmfdaa
open Go.RowKit
set_option linter.unusedVariables false

/-- the token at the head of bytes: its kind, and how long it is. -/
def tk : List UInt8 → Nat × Nat
  | [] => (0, 0)
  | c :: m =>
    if isL c = true then (1, ((c :: m).takeWhile isN).length)
    else if isD c = true then (2, ((c :: m).takeWhile isD).length)
    else if (c :: m).take 2 == [61, 61] then (3, 2)
    else if isS c = true then (3, 1)
    else (0, 0)

def te (m : List UInt8) : Nat :=
  if (tk m).1 = 0 then 1
  else if (tk m).1 = 1 ∧ 12 < (tk m).2 ∨ (tk m).1 = 2 ∧ 7 < (tk m).2 then 2
  else if (tk m).1 = 2 ∧ 1 < (tk m).2 ∧ m[0]? = some 48 then 1
  else 0

theorem tokKN_tk (s : ByteArray) (i : Nat) : tokKN s i = ((tk (s.data.toList.drop i)).1, i + (tk (s.data.toList.drop i)).2) := by
  unfold tokKN
  by_cases h : i < s.size
  · rw [dif_pos h]
    have hl : i < s.data.toList.length := by simpa using h
    have hg : s.data.toList[i] = s[i] := rfl
    unfold hasEqL spanL
    rw [List.drop_eq_getElem_cons hl, hg]
    simp only [tk]
    split
    · rfl
    · split
      · rfl
      · split
        · rfl
        · split <;> rfl
  · rw [dif_neg h, List.drop_of_length_le (by simp; omega)]
    rfl

theorem tokErr_te (s : ByteArray) (i : Nat) : tokErr s i = te (s.data.toList.drop i) := by
  unfold tokErr te
  rw [tokKN_tk]
  simp only [Nat.add_sub_cancel_left, List.getElem?_drop, Nat.add_zero]

theorem takeWhile_all {p : UInt8 → Bool} {l : List UInt8} (h : (l.takeWhile p).length = l.length) : l.takeWhile p = l :=
  (List.takeWhile_prefix p).eq_of_length h

theorem takeWhile_app {p : UInt8 → Bool} {x r : List UInt8} (h : x.takeWhile p = x) (hr : r = [] ∨ ∃ m, r = 32 :: m) (h32 : p 32 = false) : (x ++ r).takeWhile p = x := by
  induction x with
  | nil =>
    rcases hr with rfl | ⟨m, rfl⟩
    · rfl
    · simp [h32]
  | cons c x ih =>
    rw [List.takeWhile_cons] at h
    split at h
    · rename_i hc
      simp only [List.cons.injEq, true_and] at h
      rw [List.cons_append, List.takeWhile_cons, if_pos hc, ih h]
    · cases h

theorem takeWhile_take {p : UInt8 → Bool} (l : List UInt8) : (l.take (l.takeWhile p).length).takeWhile p = l.take (l.takeWhile p).length := by
  have h : l.take (l.takeWhile p).length = l.takeWhile p := (List.prefix_iff_eq_take.1 (List.takeWhile_prefix p)).symm
  rw [h]
  induction l with
  | nil => rfl
  | cons c l ih =>
    rw [List.takeWhile_cons]
    split
    · rename_i hc
      rw [List.takeWhile_cons, if_pos hc]
      congr 1
      exact ih ((List.prefix_iff_eq_take.1 (List.takeWhile_prefix p)).symm)
    · rfl

/-- cut out, it is what it was. -/
theorem tk_take {m : List UInt8} (h : te m = 0) : tk (m.take (tk m).2) = tk m ∧ te (m.take (tk m).2) = 0 ∧ (m.take (tk m).2).length = (tk m).2 ∧ 0 < (tk m).2 := by
  have key : tk (m.take (tk m).2) = tk m ∧ (m.take (tk m).2).length = (tk m).2 ∧ 0 < (tk m).2 ∧ (m.take (tk m).2)[0]? = m[0]? := by
    cases m with
    | nil => simp [te, tk] at h
    | cons c m =>
      by_cases hL : isL c = true
      · have e : tk (c :: m) = (1, ((c :: m).takeWhile isN).length) := by simp [tk, hL]
        have hw : (c :: m).takeWhile isN = c :: m.takeWhile isN := by rw [List.takeWhile_cons, if_pos (by simp [isN, hL])]
        have ht : (c :: m).take ((c :: m).takeWhile isN).length = c :: m.take (m.takeWhile isN).length := by rw [hw]; simp
        rw [e]
        simp only
        refine ⟨?_, ?_, by rw [hw]; simp, by rw [ht]; simp⟩
        · have hh := takeWhile_take (p := isN) (c :: m)
          rw [ht] at hh ⊢
          simp only [tk, hL, if_true]
          rw [hh, ← ht, List.length_take, Nat.min_eq_left (List.takeWhile_prefix _).length_le]
        · rw [List.length_take, Nat.min_eq_left (List.takeWhile_prefix _).length_le]
      have hL' : isL c = false := by simpa using hL
      by_cases hD : isD c = true
      · have e : tk (c :: m) = (2, ((c :: m).takeWhile isD).length) := by simp [tk, hL', hD]
        have hw : (c :: m).takeWhile isD = c :: m.takeWhile isD := by rw [List.takeWhile_cons, if_pos hD]
        have ht : (c :: m).take ((c :: m).takeWhile isD).length = c :: m.take (m.takeWhile isD).length := by rw [hw]; simp
        rw [e]
        simp only
        refine ⟨?_, ?_, by rw [hw]; simp, by rw [ht]; simp⟩
        · have hh := takeWhile_take (p := isD) (c :: m)
          rw [ht] at hh ⊢
          simp only [tk, hL', hD, if_true]
          rw [hh, ← ht, List.length_take, Nat.min_eq_left (List.takeWhile_prefix _).length_le]
          rfl
        · rw [List.length_take, Nat.min_eq_left (List.takeWhile_prefix _).length_le]
      have hD' : isD c = false := by simpa using hD
      by_cases hE : ((c :: m).take 2 == [61, 61]) = true
      · have e : tk (c :: m) = (3, 2) := by simp only [tk, hL', hD', hE]; rfl
        rw [e]
        simp only
        have h2 := beq_iff_eq.1 hE
        rw [h2]
        refine ⟨by rfl, rfl, by decide, ?_⟩
        cases m with
        | nil => simp at h2
        | cons d m => simp at h2; simp [h2.1]
      have hE' : ((c :: m).take 2 == [61, 61]) = false := by simpa using hE
      by_cases hS : isS c = true
      · have e : tk (c :: m) = (3, 1) := by simp only [tk, hL', hD', hE', hS]; rfl
        rw [e]
        simp only
        refine ⟨?_, by simp, by decide, by simp⟩
        simp [tk, hL', hD', hS]
      · have hS' : isS c = false := by simpa using hS
        have e : tk (c :: m) = (0, 0) := by simp only [tk, hL', hD', hE', hS']; rfl
        simp [te, e] at h
  obtain ⟨k1, k2, k3, k4⟩ := key
  refine ⟨k1, ?_, k2, k3⟩
  rw [← h]
  unfold te
  rw [k1, k4]

/-- a blank behind it, it is what it was. -/
theorem tk_app {x r : List UInt8} (h : te x = 0) (hn : (tk x).2 = x.length) (hr : r = [] ∨ ∃ m, r = 32 :: m) : tk (x ++ r) = tk x ∧ te (x ++ r) = 0 := by
  have key : tk (x ++ r) = tk x ∧ (x ++ r)[0]? = x[0]? := by
    cases x with
    | nil => simp [te, tk] at h
    | cons c x =>
      refine ⟨?_, by simp⟩
      by_cases hL : isL c = true
      · have e : tk (c :: x) = (1, ((c :: x).takeWhile isN).length) := by simp [tk, hL]
        rw [e] at hn
        have hw := takeWhile_all hn
        have ha := takeWhile_app hw hr (by decide)
        rw [e, hw]
        rw [List.cons_append] at ha ⊢
        simp only [tk, hL, if_true, ha]
      have hL' : isL c = false := by simpa using hL
      by_cases hD : isD c = true
      · have e : tk (c :: x) = (2, ((c :: x).takeWhile isD).length) := by simp [tk, hL', hD]
        rw [e] at hn
        have hw := takeWhile_all hn
        have ha := takeWhile_app hw hr (by decide)
        rw [e, hw]
        rw [List.cons_append] at ha ⊢
        simp only [tk, hL', hD, if_true, ha]
        rfl
      have hD' : isD c = false := by simpa using hD
      by_cases hE : ((c :: x).take 2 == [61, 61]) = true
      · have e : tk (c :: x) = (3, 2) := by simp only [tk, hL', hD', hE]; rfl
        have h2 := beq_iff_eq.1 hE
        rw [e] at hn ⊢
        match x, hn, h2 with
        | [d], _, h2 =>
          simp at h2
          obtain ⟨rfl, rfl⟩ := h2
          rfl
      have hE' : ((c :: x).take 2 == [61, 61]) = false := by simpa using hE
      by_cases hS : isS c = true
      · have e : tk (c :: x) = (3, 1) := by simp only [tk, hL', hD', hE', hS]; rfl
        rw [e] at hn ⊢
        match x, hn with
        | [], _ =>
          have hE2 : ((c :: ([] ++ r)).take 2 == [61, 61]) = false := by
            rcases hr with rfl | ⟨m, rfl⟩
            · simp
            · simp
          show tk (c :: ([] ++ r)) = _
          simp only [tk, hL', hD', hE2, hS]
          rfl
      · have hS' : isS c = false := by simpa using hS
        have e : tk (c :: x) = (0, 0) := by simp only [tk, hL', hD', hE', hS']; rfl
        simp [te, e] at h
  obtain ⟨k1, k2⟩ := key
  refine ⟨k1, ?_⟩
  rw [← h]
  unfold te
  rw [k1, k2]

theorem isAlone_tk (k a : Int) (x : ByteArray) : isAlone ⟨k, a, x⟩ = true ↔ x.size ≤ 6000 ∧ te x.data.toList = 0 ∧ ((tk x.data.toList).1 : Int) = k ∧ (tk x.data.toList).2 = x.data.toList.length := by
  rw [isAlone_iff, tokErr_te, tokKN_tk, List.drop_zero]
  simp only [Nat.zero_add]
  constructor
  · rintro ⟨_, h2, h3, h4, h5⟩
    exact ⟨h2, h3, h4, by rw [h5]; rfl⟩
  · rintro ⟨h2, h3, h4, h5⟩
    have := (tk_take h3).2.2.2
    refine ⟨?_, h2, h3, h4, by rw [h5]; rfl⟩
    have e : x.data.toList.length = x.size := rfl
    omega

def tkey (t : Tok) : Int × ByteArray := (t.kind, t.text)

/-- a token begins where its text stands, a blank or nothing behind it. -/
theorem scan_one {s : ByteArray} {i : Nat} {t : Tok} {r : List UInt8} (ha : isAlone t = true) (hd : s.data.toList.drop i = t.text.data.toList ++ r) (hr : r = [] ∨ ∃ m, r = 32 :: m) :
    tokErr s i = 0 ∧ i < s.size ∧ (tokKN s i).2 = i + t.text.size ∧ tkey (tokAt s i) = tkey t ∧ skipL false s.data.toList i = i := by
  obtain ⟨k, a, x⟩ := t
  obtain ⟨_, h3, h4, h5⟩ := (isAlone_tk k a x).1 ha
  simp only at hd ⊢
  obtain ⟨e1, e2⟩ := tk_app h3 h5 hr
  have hpos := (tk_take h3).2.2.2
  have hxl : x.data.toList.length = x.size := rfl
  have hE : tokErr s i = 0 := by rw [tokErr_te, hd]; exact e2
  have hK : tokKN s i = ((tk x.data.toList).1, i + x.size) := by rw [tokKN_tk, hd, e1, h5, hxl]
  have hlt : i < s.size := by
    rcases Nat.lt_or_ge i s.size with h | h
    · exact h
    · have := congrArg List.length hd
      rw [List.length_drop, List.length_append] at this
      have e : s.data.toList.length = s.size := rfl
      omega
  refine ⟨hE, hlt, by rw [hK], ?_, ?_⟩
  · unfold tokAt tkey
    rw [hK]
    simp only [Prod.mk.injEq]
    refine ⟨h4, ?_⟩
    apply ByteArray.ext
    apply Array.toList_inj.1
    rw [Lib.extract_data, hd, Nat.add_sub_cancel_left, ← hxl]
    simp
  · have hl : i < s.data.toList.length := hlt
    unfold skipL
    rw [hd]
    have hnz : ¬ (tk x.data.toList).1 = 0 := fun h0 => by simp [te, h0] at h3
    generalize hX : x.data.toList = X at h3 hpos hnz
    match X, h3, hpos, hnz with
    | c :: X, h3, hpos, hnz =>
      have h35 : ¬ c.toNat = 35 := fun h => by
        obtain rfl : c = 35 := (byte_eq_iff _ _).2 h
        apply hnz
        rfl
      have hb : ¬ blank c = true := fun h => by
        simp only [blank, decide_eq_true_eq] at h
        apply hnz
        rcases h with h | h | h
        · obtain rfl : c = 32 := (byte_eq_iff _ _).2 h
          rfl
        · obtain rfl : c = 9 := (byte_eq_iff _ _).2 h
          rfl
        · obtain rfl : c = 10 := (byte_eq_iff _ _).2 h
          rfl
      simp [skipN, h35, hb]

/-- what is joined is scanned as it was. -/
theorem scan_glue (s : ByteArray) : ∀ (us : List Tok) (f i : Nat), us.all isAlone = true → s.data.toList.drop i = glueL us → i ≤ s.size → us.length < f → ∃ ts, scanF s f false i = .inl ts ∧ ts.map tkey = us.map tkey := by
  intro us
  induction us with
  | nil =>
    intro f i _ hd hi hf
    obtain ⟨f', rfl⟩ : ∃ f', f = f' + 1 := ⟨f - 1, by omega⟩
    have hlen := congrArg List.length hd
    rw [List.length_drop] at hlen
    have e : s.data.toList.length = s.size := rfl
    refine ⟨[], ?_, rfl⟩
    simp only [scanF]
    rw [if_neg]
    have := skipL_ge false s.data.toList i
    simp [glueL] at hlen
    have h2 : s.size - i = 0 := hlen
    omega
  | cons u us ih =>
    intro f i hall hd hi hf
    simp only [List.all_cons, Bool.and_eq_true] at hall
    obtain ⟨f', rfl⟩ : ∃ f', f = f' + 1 := ⟨f - 1, by omega⟩
    cases us with
    | nil =>
      have hd' : s.data.toList.drop i = u.text.data.toList ++ [] := by rw [hd]; simp [glueL]
      obtain ⟨h1, h2, h3, h4, h5⟩ := scan_one hall.1 hd' (Or.inl rfl)
      have hlen := congrArg List.length hd'
      rw [List.length_drop, List.length_append] at hlen
      have e : s.data.toList.length = s.size := rfl
      have e2 : u.text.data.toList.length = u.text.size := rfl
      simp only [List.length_nil] at hlen
      have hend : s.data.toList.drop (i + u.text.size) = glueL [] := by
        rw [List.drop_of_length_le (by omega)]; rfl
      obtain ⟨ts, h6, h7⟩ := ih f' (i + u.text.size) rfl hend (by omega) (by simp at hf ⊢; omega)
      refine ⟨tokAt s i :: ts, ?_, by simp [h4, h7]⟩
      simp only [scanF, h5, h2, h1, if_true, h3, h6]
    | cons v us =>
      have hd' : s.data.toList.drop i = u.text.data.toList ++ 32 :: glueL (v :: us) := by rw [hd]; rfl
      obtain ⟨h1, h2, h3, h4, h5⟩ := scan_one hall.1 hd' (Or.inr ⟨_, rfl⟩)
      have e : s.data.toList.length = s.size := rfl
      have e2 : u.text.data.toList.length = u.text.size := rfl
      have hlen := congrArg List.length hd'
      rw [List.length_drop, List.length_append, List.length_cons] at hlen
      have hb : s.data.toList.drop (i + u.text.size) = 32 :: glueL (v :: us) := by
        rw [← List.drop_drop, hd', ← e2, List.drop_left]
      have hnx : s.data.toList.drop (i + u.text.size + 1) = glueL (v :: us) := by
        rw [← List.drop_drop, hb]; rfl
      obtain ⟨ts, h6, h7⟩ := ih f' (i + u.text.size + 1) hall.2 hnx (by omega) (by simp at hf ⊢; omega)
      have hlb : i + u.text.size < s.data.toList.length := by omega
      have hc : s.data.toList[i + u.text.size] = 32 := by
        have := List.drop_eq_getElem_cons hlb
        rw [hb] at this
        exact (List.cons.inj this).1.symm
      have hsh : scanF s f' false (i + u.text.size) = scanF s f' false (i + u.text.size + 1) := scanF_shift (skipL_blank hlb (by rw [hc]; decide) (by rw [hc]; decide))
      refine ⟨tokAt s i :: ts, ?_, by simp [h4, h7]⟩
      simp only [scanF, h5, h2, h1, if_true, h3, hsh, h6]

theorem glue_scanned {us : List Tok} (hall : us.all isAlone = true) (hs : sizes us ≤ 6001) : ∃ ts, scanS ⟨(glueL us).toArray⟩ = .inl ts ∧ ts.map tkey = us.map tkey := by
  have hn : us.length ≤ (glueL us).length + 1 := by
    rcases glueL_length us with h | h
    · have : ∀ l : List Tok, l.length ≤ sizes l := by
        intro l
        induction l with
        | nil => simp [sizes]
        | cons u l ih => simp [sizes] at ih ⊢; omega
      have := this us
      omega
    · rw [h]; simp
  have hsz : (⟨(glueL us).toArray⟩ : ByteArray).size = (glueL us).length := by show (glueL us).toArray.size = _; simp
  by_cases h0 : us = []
  · subst h0
    exact ⟨[], rfl, rfl⟩
  · have hn2 : us.length ≤ (glueL us).length := by
      have hl := (glueL_length us).resolve_right h0
      have : ∀ l : List Tok, l.all isAlone = true → 2 * l.length ≤ sizes l := by
        intro l
        induction l with
        | nil => intro _; simp [sizes]
        | cons u l ih =>
          intro h
          simp only [List.all_cons, Bool.and_eq_true] at h
          have h1 := ih h.2
          have h2 := ((isAlone_iff u.kind u.pos u.text).1 h.1).1
          simp [sizes] at h1 ⊢
          omega
      have h2 := this us hall
      cases us with
      | nil => exact absurd rfl h0
      | cons u us => simp at h2 ⊢; omega
    exact scan_glue _ us _ 0 hall rfl (Nat.zero_le _) (by rw [hsz]; omega)

/-- each token that is scanned is alone in its text. -/
theorem scanned_alone (s : ByteArray) (hs : s.size ≤ 6000) : ∀ (f : Nat) (note : Bool) (i : Nat) (ts : List Tok), scanF s f note i = .inl ts → ts.all isAlone = true := by
  intro f
  induction f with
  | zero => intro note i ts h; simp only [scanF, Sum.inl.injEq] at h; subst h; rfl
  | succ f ih =>
    intro note i ts h
    simp only [scanF] at h
    split at h
    · split at h
      · rename_i hlt he
        generalize skipL note s.data.toList i = j at hlt he h
        cases hr : scanF s f false (tokKN s j).2 with
        | inl us =>
          rw [hr] at h
          simp only [Sum.inl.injEq] at h
          subst h
          rw [List.all_cons, ih _ _ _ hr, Bool.and_true]
          have hte : te (s.data.toList.drop j) = 0 := by rw [← tokErr_te]; exact he
          obtain ⟨h1, h2, h3, h4⟩ := tk_take hte
          have hx : (s.extract j (tokKN s j).2).data.toList = (s.data.toList.drop j).take (tk (s.data.toList.drop j)).2 := by
            rw [Lib.extract_data, tokKN_tk]
            simp only [Nat.add_sub_cancel_left]
          refine (isAlone_tk _ _ _).2 ⟨?_, ?_, ?_, ?_⟩
          · have := tokKN_le (s := s) (i := j) (by omega)
            rw [ByteArray.size_extract]
            omega
          · rw [hx]; exact h2
          · rw [hx, h1, tokKN_tk]
          · rw [hx, h1, h3]
        | inr x => rw [hr] at h; simp at h
      · simp at h
    · simp only [Sum.inl.injEq] at h; subst h; rfl
end Go.Proofs.Ytleaaflcnpmfdaa

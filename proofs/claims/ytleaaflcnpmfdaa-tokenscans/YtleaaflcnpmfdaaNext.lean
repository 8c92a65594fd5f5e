/- token.next answers the token that begins at a place, or gives up there, over any text of at most 6000 bytes. -/
import Derived.Test.YtleaaflcnpmfdaaCut
namespace Go.Proofs.Ytleaaflcnpmfdaa
open Go.RowKit
set_option linter.unusedVariables false

set_option maxHeartbeats 400000 in
theorem sign_one (s : ByteArray) (a : Nat) (ha : a < s.size) (hs : s.size ≤ 6000) (h : hasEq s a = false) (hS : isS s[a] = true) (w : World) :
    Calls Try.prog 32 #[.string s, .int .i64 (a : Int)] w fun e w' => e = .returned (tokVal 3 a (s.extract a (a + 1))) ∧ Below w.heap.size w w' := by
  have hp := hasPrefix_any (s.extract a s.size) eqeq (by simp; omega) (by decide)
  have e : (decide (eqeq.size ≤ (s.extract a s.size).size) && (((s.extract a s.size).extract 0 eqeq.size).toList == eqeq.toList)) = false := h
  rw [e] at hp
  unfold eqeq at hp
  have HP := hide hp
  have hi := indexByte_any signsB s[a]
  obtain ⟨q, hq⟩ : ∃ q, q = Lib.indexByte signsB.data.toList s[a] := ⟨_, rfl⟩
  rw [← hq] at hi
  have hq0 : 0 ≤ q := by rw [hq]; simpa [isS] using hS
  unfold signsB at hi
  have HI := hide hi
  clear hp e h hi hq hS
  go_enter Try.func32, Try.ntmps32
  go_wp2_with fail
  refine (HP.out _).mono ?_
  rintro e w' ⟨rfl, rfl⟩
  go_wp2_with fail
  refine (HI.out _).mono ?_
  rintro e w' ⟨rfl, rfl⟩
  go_wp2_with fail
  refine (cut_any s 3 a (a + 1) hs (by omega) (by omega) _).mono ?_
  rintro e w1 ⟨rfl, hb1⟩
  obtain ⟨hc, hf⟩ := bcell hb1
  have hz : w.heap.size < w1.heap.size := by have := hb1.size; simp at this; omega
  go_wp2_with fail
  refine bodyPost_ret (v := tokVal 3 a (s.extract a (a + 1))) (by simp [tokVal, results, Try.results32, go_sem, hc]) rfl ⟨rfl, ?_⟩
  have hb0 : Below w.heap.size w w1 := ((Below.refl _ w).alloc (Nat.le_refl _) _).trans (hb1.mono (by simp))
  exact ((hb0.setCell (by simp) _).setCell (by simp) _).setCell (by simp) _

set_option maxHeartbeats 400000 in
theorem sign_none (s : ByteArray) (a : Nat) (ha : a < s.size) (hs : s.size ≤ 6000) (h : hasEq s a = false) (hS : isS s[a] = false) (w : World) :
    Calls Try.prog 32 #[.string s, .int .i64 (a : Int)] w fun e w' => e = gaveUp a 1 ∧ Below w.heap.size w w' := by
  have hp := hasPrefix_any (s.extract a s.size) eqeq (by simp; omega) (by decide)
  have e : (decide (eqeq.size ≤ (s.extract a s.size).size) && (((s.extract a s.size).extract 0 eqeq.size).toList == eqeq.toList)) = false := h
  rw [e] at hp
  unfold eqeq at hp
  have HP := hide hp
  have hi := indexByte_any signsB s[a]
  obtain ⟨q, hq⟩ : ∃ q, q = Lib.indexByte signsB.data.toList s[a] := ⟨_, rfl⟩
  rw [← hq] at hi
  have hq0 : q < 0 := by rw [hq]; simpa [isS] using hS
  unfold signsB at hi
  have HI := hide hi
  clear hp e h hi hq hS
  go_enter Try.func32, Try.ntmps32
  go_wp2_with fail
  refine (HP.out _).mono ?_
  rintro e w' ⟨rfl, rfl⟩
  go_wp2_with fail
  refine (HI.out _).mono ?_
  rintro e w' ⟨rfl, rfl⟩
  go_wp2_with fail
  exact ⟨rfl, rfl, (Below.refl _ w).alloc (Nat.le_refl _) _⟩

def hasEqL (s : ByteArray) (a : Nat) : Bool := (s.data.toList.drop a).take 2 == [61, 61]

theorem hasEq_eq (s : ByteArray) (a : Nat) : hasEq s a = hasEqL s a := by
  have h1 : (s.extract a s.size).data.toList = s.data.toList.drop a := by
    rw [Lib.extract_data, List.take_of_length_le]
    rw [List.length_drop, Array.length_toList]
    exact Nat.le_refl _
  have h2 : eqeq.size = 2 := rfl
  have h3 : eqeq.toList = [61, 61] := by rw [ByteArray.toList_eq]; rfl
  have h4 : ((s.extract a s.size).extract 0 2).toList = (s.data.toList.drop a).take 2 := by rw [Lib.extract_toList, h1]; rfl
  have h5 : (s.extract a s.size).size = (s.data.toList.drop a).length := by rw [← h1]; rfl
  simp only [hasEq, hasEqL, h2, h3, h4, h5]
  by_cases h : (List.take 2 (List.drop a s.data.toList) == [61, 61]) = true
  · have h' := beq_iff_eq.1 h
    have hl := congrArg List.length h'
    rw [List.length_take] at hl
    simp only [List.length_cons, List.length_nil] at hl
    rw [h]
    simp
    simp at hl
    omega
  · have h' : (List.take 2 (List.drop a s.data.toList) == [61, 61]) = false := by simpa using h
    rw [h']
    simp

/-- the kind of the token that begins at a place, and where it ends; 0: none does. -/
def tokKN (s : ByteArray) (i : Nat) : Nat × Nat :=
  if h : i < s.size then
    if isL s[i] = true then (1, spanL isN s.data.toList i)
    else if isD s[i] = true then (2, spanL isD s.data.toList i)
    else if hasEqL s i = true then (3, i + 2)
    else if isS s[i] = true then (3, i + 1)
    else (0, i)
  else (0, i)

/-- why it is none; 0: it is one. -/
def tokErr (s : ByteArray) (i : Nat) : Nat :=
  if (tokKN s i).1 = 0 then 1
  else if (tokKN s i).1 = 1 ∧ 12 < (tokKN s i).2 - i ∨ (tokKN s i).1 = 2 ∧ 7 < (tokKN s i).2 - i then 2
  else if (tokKN s i).1 = 2 ∧ 1 < (tokKN s i).2 - i ∧ s.data.toList[i]? = some 48 then 1
  else 0

def nextSaid (s : ByteArray) (a : Nat) : Ending :=
  if tokErr s a = 0 then .returned (tokVal (tokKN s a).1 a (s.extract a (tokKN s a).2)) else gaveUp a (tokErr s a)

theorem byte_eq_iff (c d : UInt8) : c = d ↔ c.toNat = d.toNat := by
  constructor
  · intro h; rw [h]
  · intro h; exact UInt8.toNat_inj.1 h

theorem getQ {s : ByteArray} {a : Nat} (ha : a < s.size) : s.data.toList[a]? = some s[a] := by
  rw [List.getElem?_eq_getElem (by simpa using ha)]
  rfl

set_option maxHeartbeats 400000 in
theorem next_name_ok (s : ByteArray) (a : Nat) (ha : a < s.size) (x : ByteArray) (hL : isL s[a] = true)
    (HN : Hid (∀ w, Calls Try.prog 29 #[.string s, .int .i64 (a : Int)] w fun e w' => e = .returned (tokVal 1 a x) ∧ Below w.heap.size w w')) (w : World) :
    Calls Try.prog 20 #[.string s, .int .i64 (a : Int)] w fun e w' => e = .returned (tokVal 1 a x) ∧ Below w.heap.size w w' := by
  have hl := isLetter_any s[a]
  rw [hL] at hl
  have HL := hide hl
  clear hl hL
  go_enter Try.func20, Try.ntmps20
  go_wp2_with fail
  refine (HL.out _).mono ?_
  rintro e w' ⟨rfl, rfl⟩
  go_wp2_with fail
  refine (HN.out _).mono ?_
  rintro e w1 ⟨rfl, hb1⟩
  unfold tokVal
  obtain ⟨hc, hf⟩ := bcell hb1
  have hz : w.heap.size < w1.heap.size := by have := hb1.size; simp at this; omega
  go_wp2_with fail
  refine bodyPost_ret (v := tokVal 1 a x) (by simp [tokVal, results, Try.results20, go_sem, hc]) rfl ⟨rfl, ?_⟩
  have hb0 : Below w.heap.size w w1 := ((Below.refl _ w).alloc (Nat.le_refl _) _).trans (hb1.mono (by simp))
  exact ((hb0.setCell (by simp) _).setCell (by simp) _).setCell (by simp) _

set_option maxHeartbeats 400000 in
theorem next_name_bad (s : ByteArray) (a : Nat) (ha : a < s.size) (x : Int) (hL : isL s[a] = true)
    (HN : Hid (∀ w, Calls Try.prog 29 #[.string s, .int .i64 (a : Int)] w fun e w' => e = gaveUp a x ∧ Below w.heap.size w w')) (w : World) :
    Calls Try.prog 20 #[.string s, .int .i64 (a : Int)] w fun e w' => e = gaveUp a x ∧ Below w.heap.size w w' := by
  have hl := isLetter_any s[a]
  rw [hL] at hl
  have HL := hide hl
  clear hl hL
  go_enter Try.func20, Try.ntmps20
  go_wp2_with fail
  refine (HL.out _).mono ?_
  rintro e w' ⟨rfl, rfl⟩
  go_wp2_with fail
  refine (HN.out _).mono ?_
  rintro e w1 ⟨rfl, hb1⟩
  have hb0 : Below w.heap.size w w1 := ((Below.refl _ w).alloc (Nat.le_refl _) _).trans (hb1.mono (by simp))
  unfold gaveUp
  go_wp2_with fail
  exact ⟨rfl, rfl, hb0⟩

set_option maxHeartbeats 400000 in
theorem next_number_ok (s : ByteArray) (a : Nat) (ha : a < s.size) (x : ByteArray) (hL : isL s[a] = false) (hD : isD s[a] = true)
    (HN : Hid (∀ w, Calls Try.prog 31 #[.string s, .int .i64 (a : Int)] w fun e w' => e = .returned (tokVal 2 a x) ∧ Below w.heap.size w w')) (w : World) :
    Calls Try.prog 20 #[.string s, .int .i64 (a : Int)] w fun e w' => e = .returned (tokVal 2 a x) ∧ Below w.heap.size w w' := by
  have hl := isLetter_any s[a]
  rw [hL] at hl
  have HL := hide hl
  clear hl hL
  have hd := isDigit_any s[a]
  rw [hD] at hd
  have HD := hide hd
  clear hd hD
  go_enter Try.func20, Try.ntmps20
  go_wp2_with fail
  refine (HL.out _).mono ?_
  rintro e w' ⟨rfl, rfl⟩
  go_wp2_with fail
  refine (HD.out _).mono ?_
  rintro e w' ⟨rfl, rfl⟩
  go_wp2_with fail
  refine (HN.out _).mono ?_
  rintro e w1 ⟨rfl, hb1⟩
  unfold tokVal
  obtain ⟨hc, hf⟩ := bcell hb1
  have hz : w.heap.size < w1.heap.size := by have := hb1.size; simp at this; omega
  go_wp2_with fail
  refine bodyPost_ret (v := tokVal 2 a x) (by simp [tokVal, results, Try.results20, go_sem, hc]) rfl ⟨rfl, ?_⟩
  have hb0 : Below w.heap.size w w1 := ((Below.refl _ w).alloc (Nat.le_refl _) _).trans (hb1.mono (by simp))
  exact ((hb0.setCell (by simp) _).setCell (by simp) _).setCell (by simp) _

set_option maxHeartbeats 400000 in
theorem next_number_bad (s : ByteArray) (a : Nat) (ha : a < s.size) (x : Int) (hL : isL s[a] = false) (hD : isD s[a] = true)
    (HN : Hid (∀ w, Calls Try.prog 31 #[.string s, .int .i64 (a : Int)] w fun e w' => e = gaveUp a x ∧ Below w.heap.size w w')) (w : World) :
    Calls Try.prog 20 #[.string s, .int .i64 (a : Int)] w fun e w' => e = gaveUp a x ∧ Below w.heap.size w w' := by
  have hl := isLetter_any s[a]
  rw [hL] at hl
  have HL := hide hl
  clear hl hL
  have hd := isDigit_any s[a]
  rw [hD] at hd
  have HD := hide hd
  clear hd hD
  go_enter Try.func20, Try.ntmps20
  go_wp2_with fail
  refine (HL.out _).mono ?_
  rintro e w' ⟨rfl, rfl⟩
  go_wp2_with fail
  refine (HD.out _).mono ?_
  rintro e w' ⟨rfl, rfl⟩
  go_wp2_with fail
  refine (HN.out _).mono ?_
  rintro e w1 ⟨rfl, hb1⟩
  have hb0 : Below w.heap.size w w1 := ((Below.refl _ w).alloc (Nat.le_refl _) _).trans (hb1.mono (by simp))
  unfold gaveUp
  go_wp2_with fail
  exact ⟨rfl, rfl, hb0⟩

set_option maxHeartbeats 400000 in
theorem next_sign_ok (s : ByteArray) (a : Nat) (ha : a < s.size) (x : ByteArray) (hL : isL s[a] = false) (hD : isD s[a] = false)
    (HN : Hid (∀ w, Calls Try.prog 32 #[.string s, .int .i64 (a : Int)] w fun e w' => e = .returned (tokVal 3 a x) ∧ Below w.heap.size w w')) (w : World) :
    Calls Try.prog 20 #[.string s, .int .i64 (a : Int)] w fun e w' => e = .returned (tokVal 3 a x) ∧ Below w.heap.size w w' := by
  have hl := isLetter_any s[a]
  rw [hL] at hl
  have HL := hide hl
  clear hl hL
  have hd := isDigit_any s[a]
  rw [hD] at hd
  have HD := hide hd
  clear hd hD
  go_enter Try.func20, Try.ntmps20
  go_wp2_with fail
  refine (HL.out _).mono ?_
  rintro e w' ⟨rfl, rfl⟩
  go_wp2_with fail
  refine (HD.out _).mono ?_
  rintro e w' ⟨rfl, rfl⟩
  go_wp2_with fail
  refine (HN.out _).mono ?_
  rintro e w1 ⟨rfl, hb1⟩
  unfold tokVal
  obtain ⟨hc, hf⟩ := bcell hb1
  have hz : w.heap.size < w1.heap.size := by have := hb1.size; simp at this; omega
  go_wp2_with fail
  refine bodyPost_ret (v := tokVal 3 a x) (by simp [tokVal, results, Try.results20, go_sem, hc]) rfl ⟨rfl, ?_⟩
  have hb0 : Below w.heap.size w w1 := ((Below.refl _ w).alloc (Nat.le_refl _) _).trans (hb1.mono (by simp))
  exact ((hb0.setCell (by simp) _).setCell (by simp) _).setCell (by simp) _

set_option maxHeartbeats 400000 in
theorem next_sign_bad (s : ByteArray) (a : Nat) (ha : a < s.size) (x : Int) (hL : isL s[a] = false) (hD : isD s[a] = false)
    (HN : Hid (∀ w, Calls Try.prog 32 #[.string s, .int .i64 (a : Int)] w fun e w' => e = gaveUp a x ∧ Below w.heap.size w w')) (w : World) :
    Calls Try.prog 20 #[.string s, .int .i64 (a : Int)] w fun e w' => e = gaveUp a x ∧ Below w.heap.size w w' := by
  have hl := isLetter_any s[a]
  rw [hL] at hl
  have HL := hide hl
  clear hl hL
  have hd := isDigit_any s[a]
  rw [hD] at hd
  have HD := hide hd
  clear hd hD
  go_enter Try.func20, Try.ntmps20
  go_wp2_with fail
  refine (HL.out _).mono ?_
  rintro e w' ⟨rfl, rfl⟩
  go_wp2_with fail
  refine (HD.out _).mono ?_
  rintro e w' ⟨rfl, rfl⟩
  go_wp2_with fail
  refine (HN.out _).mono ?_
  rintro e w1 ⟨rfl, hb1⟩
  have hb0 : Below w.heap.size w w1 := ((Below.refl _ w).alloc (Nat.le_refl _) _).trans (hb1.mono (by simp))
  unfold gaveUp
  go_wp2_with fail
  exact ⟨rfl, rfl, hb0⟩

theorem next_any (s : ByteArray) (a : Nat) (ha : a < s.size) (hs : s.size ≤ 6000) (w : World) :
    Calls Try.prog 20 #[.string s, .int .i64 (a : Int)] w fun e w' => e = nextSaid s a ∧ Below w.heap.size w w' := by
  by_cases hL : isL s[a] = true
  · have hk : tokKN s a = (1, spanL isN s.data.toList a) := by simp [tokKN, ha, hL]
    by_cases h12 : spanL isN s.data.toList a - a ≤ 12
    · have hN : nextSaid s a = .returned (tokVal 1 a (s.extract a (spanL isN s.data.toList a))) := by
        have : tokErr s a = 0 := by simp [tokErr, hk]; omega
        simp [nextSaid, this, hk]
      rw [hN]
      exact next_name_ok s a ha _ hL (hide (name_ok s a (by omega) hs h12)) w
    · have hN : nextSaid s a = gaveUp a 2 := by
        have : tokErr s a = 2 := by simp [tokErr, hk]; omega
        simp [nextSaid, this]
      rw [hN]
      exact next_name_bad s a ha _ hL (hide (name_bad s a (by omega) hs (by omega))) w
  have hL' : isL s[a] = false := by simpa using hL
  by_cases hD : isD s[a] = true
  · have hk : tokKN s a = (2, spanL isD s.data.toList a) := by simp [tokKN, ha, hL', hD]
    by_cases h7 : spanL isD s.data.toList a - a ≤ 7
    · by_cases h48 : s[a].toNat = 48 ∧ 1 < spanL isD s.data.toList a - a
      · have hN : nextSaid s a = gaveUp a 1 := by
          have h48' : s[a] = 48 := (byte_eq_iff _ _).2 h48.1
          have : tokErr s a = 1 := by
            simp only [tokErr, hk, getQ ha, h48']
            rw [if_neg (by omega), if_neg (by omega), if_pos ⟨trivial, h48.2, trivial⟩]
          simp [nextSaid, this]
        rw [hN]
        exact next_number_bad s a ha _ hL' hD (hide (number_nought s a ha hs h7 h48.2 h48.1)) w
      · have hN : nextSaid s a = .returned (tokVal 2 a (s.extract a (spanL isD s.data.toList a))) := by
          have : tokErr s a = 0 := by
            simp only [tokErr, hk, getQ ha]
            rw [if_neg (by omega), if_neg (by omega), if_neg]
            rintro ⟨_, h1, h2⟩
            exact h48 ⟨(byte_eq_iff _ _).1 (Option.some.inj h2), h1⟩
          simp [nextSaid, this, hk]
        rw [hN]
        exact next_number_ok s a ha _ hL' hD (hide (number_ok s a ha hs h7 (fun h => by omega))) w
    · have hN : nextSaid s a = gaveUp a 2 := by
        have : tokErr s a = 2 := by simp [tokErr, hk]; omega
        simp [nextSaid, this]
      rw [hN]
      exact next_number_bad s a ha _ hL' hD (hide (number_long s a ha hs (by omega))) w
  have hD' : isD s[a] = false := by simpa using hD
  by_cases hE : hasEqL s a = true
  · have hk : tokKN s a = (3, a + 2) := by simp [tokKN, ha, hL', hD', hE]
    have hN : nextSaid s a = .returned (tokVal 3 a (s.extract a (a + 2))) := by
      have : tokErr s a = 0 := by simp [tokErr, hk]
      simp [nextSaid, this, hk]
    rw [hN]
    exact next_sign_ok s a ha _ hL' hD' (hide (sign_two s a ha hs (by rw [hasEq_eq]; exact hE))) w
  have hE' : hasEqL s a = false := by simpa using hE
  by_cases hS : isS s[a] = true
  · have hk : tokKN s a = (3, a + 1) := by simp [tokKN, ha, hL', hD', hE', hS]
    have hN : nextSaid s a = .returned (tokVal 3 a (s.extract a (a + 1))) := by
      have : tokErr s a = 0 := by simp [tokErr, hk]
      simp [nextSaid, this, hk]
    rw [hN]
    exact next_sign_ok s a ha _ hL' hD' (hide (sign_one s a ha hs (by rw [hasEq_eq]; exact hE') hS)) w
  have hS' : isS s[a] = false := by simpa using hS
  have hk : tokKN s a = (0, a) := by simp [tokKN, ha, hL', hD', hE', hS']
  have hN : nextSaid s a = gaveUp a 1 := by
    have : tokErr s a = 1 := by simp [tokErr, hk]
    simp [nextSaid, this]
  rw [hN]
  exact next_sign_bad s a ha _ hL' hD' (hide (sign_none s a ha hs (by rw [hasEq_eq]; exact hE') hS')) w
end Go.Proofs.Ytleaaflcnpmfdaa

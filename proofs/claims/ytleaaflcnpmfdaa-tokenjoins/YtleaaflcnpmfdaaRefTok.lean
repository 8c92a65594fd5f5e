/- The document's own words on tokens: veilworkref.TokenAt answers the kind of the token that begins at a place, and how long it is. -/
import Derived.Test.YtleaaflcnpmfdaaScanF
namespace Go.Proofs.Ytleaaflcnpmfdaa
open Go.RowKit
set_option linter.unusedVariables false

set_option maxHeartbeats 400000 in
theorem between_any (n a b : Int) (w : World) :
    Calls Try.prog 33 #[.int .i64 n, .int .i64 a, .int .i64 b] w fun e w' => e = .returned (.bool (decide (a ≤ n ∧ n ≤ b))) ∧ w' = w := by
  by_cases h1 : a ≤ n
  · go_enter Try.func33, Try.ntmps33
    go_wp2
    go_ret
    exact ⟨by simp [h1], rfl⟩
  · go_enter Try.func33, Try.ntmps33
    go_wp2
    go_ret
    exact ⟨by simp; omega, rfl⟩

theorem byte_lt (c : UInt8) : c.toNat < 256 := c.toNat_lt

set_option maxHeartbeats 400000 in
theorem refLetter_any (c : UInt8) (w : World) :
    Calls Try.prog 21 #[.int .u8 (c.toNat : Int)] w fun e w' => e = .returned (.bool (isL c)) ∧ w' = w := by
  have hc := byte_lt c
  have e : decide ((97 : Int) ≤ (c.toNat : Int) ∧ (c.toNat : Int) ≤ 122) = isL c := by
    unfold isL
    rw [decide_eq_decide]
    omega
  have hb := fun w => between_any (c.toNat : Int) 97 122 w
  rw [e] at hb
  have HB := hide hb
  clear hb e
  go_enter Try.func21, Try.ntmps21
  go_wp2_with fail
  refine (HB.out _).mono ?_
  rintro e w' ⟨rfl, rfl⟩
  go_wp2_with fail
  go_ret
  exact ⟨rfl, rfl⟩

set_option maxHeartbeats 400000 in
theorem refDigit_any (c : UInt8) (w : World) :
    Calls Try.prog 22 #[.int .u8 (c.toNat : Int)] w fun e w' => e = .returned (.bool (isD c)) ∧ w' = w := by
  have hc := byte_lt c
  have e : decide ((48 : Int) ≤ (c.toNat : Int) ∧ (c.toNat : Int) ≤ 57) = isD c := by
    unfold isD
    rw [decide_eq_decide]
    omega
  have hb := fun w => between_any (c.toNat : Int) 48 57 w
  rw [e] at hb
  have HB := hide hb
  clear hb e
  go_enter Try.func22, Try.ntmps22
  go_wp2_with fail
  refine (HB.out _).mono ?_
  rintro e w' ⟨rfl, rfl⟩
  go_wp2_with fail
  go_ret
  exact ⟨rfl, rfl⟩

set_option maxHeartbeats 1000000 in
theorem tokenAt_name (s : ByteArray) (a : Nat) (ha : a < s.size) (hs : s.size ≤ 6000) (hL : isL s[a] = true) (w : World) :
    Calls Try.prog 14 #[.string s, .int .i64 (a : Int)] w fun e w' => e = .returned (.tuple #[.int .i64 1, .int .i64 ((spanL isN s.data.toList a - a : Nat) : Int)]) ∧ w' = w := by
  have hl := refLetter_any s[a]
  rw [hL] at hl
  have HL := hide hl
  have hstart : spanL isN s.data.toList (a + 1) = spanL isN s.data.toList a := (spanL_step (by simpa using ha) (by show isN s[a] = true; simp [isN, hL])).symm
  clear hl hL
  go_enter Try.func14, Try.ntmps14
  go_wp2_with fail
  refine (HL.out _).mono ?_
  rintro e w' ⟨rfl, rfl⟩
  go_wp2_with fail
  go_loop [7] (fun n => ∃ k : Nat, 1 ≤ k ∧ a + k ≤ s.size ∧ n = .int .i64 k ∧ Hid (spanL isN s.data.toList (a + k) = spanL isN s.data.toList a)) (fun n => s.size - (intOf n).toNat)
  case atStart => exact ⟨1, Nat.le_refl _, by omega, rfl, hstart⟩
  case round =>
    obtain ⟨k, hk1, hk, rfl, HS⟩ := hrel
    clear hstart HL
    by_cases hlt : a + k < s.size
    · have hstep : isN s[a + k] = true → spanL isN s.data.toList (a + (k + 1)) = spanL isN s.data.toList a := fun h => by
        rw [← HS.out]
        exact (spanL_step (by simpa using hlt) h).symm
      have hstop : isN s[a + k] = false → spanL isN s.data.toList a = a + k := fun h => by
        rw [← HS.out]
        exact spanL_stop (by simpa using hlt) h
      have HST := hide hstep
      have HSP := hide hstop
      clear hstep hstop
      by_cases hL : isL s[a + k] = true
      · have hl := refLetter_any s[a + k]
        rw [hL] at hl
        have HL := hide hl
        have hN : isN s[a + k] = true := by simp [isN, hL]
        have HN := hide hN
        clear hl hL hN
        go_wp2_with fail
        refine (HL.out _).mono ?_
        rintro e w' ⟨rfl, rfl⟩
        go_wp2_with fail
        exact ⟨⟨k + 1, by omega, by omega, by go_num, HST.out HN.out⟩, by simp [intOf]; omega⟩
      have hL' : isL s[a + k] = false := by simpa using hL
      have hl := refLetter_any s[a + k]
      rw [hL'] at hl
      have HL := hide hl
      clear hl hL
      by_cases hD : isD s[a + k] = true
      · have hd := refDigit_any s[a + k]
        rw [hD] at hd
        have HD := hide hd
        have hN : isN s[a + k] = true := by simp [isN, hD]
        have HN := hide hN
        clear hd hD hN hL'
        go_wp2_with fail
        refine (HL.out _).mono ?_
        rintro e w' ⟨rfl, rfl⟩
        go_wp2_with fail
        refine (HD.out _).mono ?_
        rintro e w' ⟨rfl, rfl⟩
        go_wp2_with fail
        exact ⟨⟨k + 1, by omega, by omega, by go_num, HST.out HN.out⟩, by simp [intOf]; omega⟩
      · have hD' : isD s[a + k] = false := by simpa using hD
        have hd := refDigit_any s[a + k]
        rw [hD'] at hd
        have HD := hide hd
        have hN : isN s[a + k] = false := by simp [isN, hD', hL']
        have hfin := HSP.out hN
        have HF := hide hfin
        clear hd hD hD' hN hL' hfin
        go_wp2_with fail
        refine (HL.out _).mono ?_
        rintro e w' ⟨rfl, rfl⟩
        go_wp2_with fail
        refine (HD.out _).mono ?_
        rintro e w' ⟨rfl, rfl⟩
        go_wp2_with fail
        go_ret2
        exact ⟨by rw [HF.out, Nat.add_sub_cancel_left]; rfl, rfl⟩
    · have hfin : spanL isN s.data.toList a = a + k := by
        rw [← HS.out]
        exact spanL_end (by simp; omega)
      have HF := hide hfin
      clear hfin
      go_wp2_with fail
      go_ret2
      exact ⟨by rw [HF.out, Nat.add_sub_cancel_left]; rfl, rfl⟩

set_option maxHeartbeats 1000000 in
theorem tokenAt_number (s : ByteArray) (a : Nat) (ha : a < s.size) (hs : s.size ≤ 6000) (hL : isL s[a] = false) (hD : isD s[a] = true) (w : World) :
    Calls Try.prog 14 #[.string s, .int .i64 (a : Int)] w fun e w' => e = .returned (.tuple #[.int .i64 2, .int .i64 ((spanL isD s.data.toList a - a : Nat) : Int)]) ∧ w' = w := by
  have hl := refLetter_any s[a]
  rw [hL] at hl
  have HL := hide hl
  have hd := refDigit_any s[a]
  rw [hD] at hd
  have HD := hide hd
  have hstart : spanL isD s.data.toList (a + 1) = spanL isD s.data.toList a := (spanL_step (by simpa using ha) hD).symm
  clear hl hL hd hD
  go_enter Try.func14, Try.ntmps14
  go_wp2_with fail
  refine (HL.out _).mono ?_
  rintro e w' ⟨rfl, rfl⟩
  go_wp2_with fail
  refine (HD.out _).mono ?_
  rintro e w' ⟨rfl, rfl⟩
  go_wp2_with fail
  go_loop [7] (fun n => ∃ k : Nat, 1 ≤ k ∧ a + k ≤ s.size ∧ n = .int .i64 k ∧ Hid (spanL isD s.data.toList (a + k) = spanL isD s.data.toList a)) (fun n => s.size - (intOf n).toNat)
  case atStart => exact ⟨1, Nat.le_refl _, by omega, rfl, hstart⟩
  case round =>
    obtain ⟨k, hk1, hk, rfl, HS⟩ := hrel
    clear hstart HL HD
    by_cases hlt : a + k < s.size
    · have hstep : isD s[a + k] = true → spanL isD s.data.toList (a + (k + 1)) = spanL isD s.data.toList a := fun h => by
        rw [← HS.out]
        exact (spanL_step (by simpa using hlt) h).symm
      have hstop : isD s[a + k] = false → spanL isD s.data.toList a = a + k := fun h => by
        rw [← HS.out]
        exact spanL_stop (by simpa using hlt) h
      have HST := hide hstep
      have HSP := hide hstop
      clear hstep hstop
      by_cases hD : isD s[a + k] = true
      · have hd := refDigit_any s[a + k]
        rw [hD] at hd
        have HD := hide hd
        have hN := HST.out hD
        have HN := hide hN
        clear hd hD hN
        go_wp2_with fail
        refine (HD.out _).mono ?_
        rintro e w' ⟨rfl, rfl⟩
        go_wp2_with fail
        exact ⟨⟨k + 1, by omega, by omega, by go_num, HN.out⟩, by simp [intOf]; omega⟩
      · have hD' : isD s[a + k] = false := by simpa using hD
        have hd := refDigit_any s[a + k]
        rw [hD'] at hd
        have HD := hide hd
        have hfin := HSP.out hD'
        have HF := hide hfin
        clear hd hD hD' hfin
        go_wp2_with fail
        refine (HD.out _).mono ?_
        rintro e w' ⟨rfl, rfl⟩
        go_wp2_with fail
        go_ret2
        exact ⟨by rw [HF.out, Nat.add_sub_cancel_left]; rfl, rfl⟩
    · have hfin : spanL isD s.data.toList a = a + k := by
        rw [← HS.out]
        exact spanL_end (by simp; omega)
      have HF := hide hfin
      clear hfin
      go_wp2_with fail
      go_ret2
      exact ⟨by rw [HF.out, Nat.add_sub_cancel_left]; rfl, rfl⟩

theorem hasEqL_iff (s : ByteArray) (a : Nat) (ha : a < s.size) : hasEqL s a = true ↔ s[a].toNat = 61 ∧ ∃ h : a + 1 < s.size, s[a + 1].toNat = 61 := by
  have hl : a < s.data.toList.length := by simpa using ha
  have hg : s.data.toList[a] = s[a] := rfl
  unfold hasEqL
  rw [List.drop_eq_getElem_cons hl, hg, beq_iff_eq]
  by_cases h1 : a + 1 < s.size
  · have hl1 : a + 1 < s.data.toList.length := by simpa using h1
    have hg1 : s.data.toList[a + 1] = s[a + 1] := rfl
    rw [List.drop_eq_getElem_cons hl1, hg1]
    simp only [List.take_succ_cons, List.take_zero, List.cons.injEq, and_true]
    rw [byte_eq_iff, byte_eq_iff]
    constructor
    · rintro ⟨h2, h3⟩; exact ⟨h2, h1, h3⟩
    · rintro ⟨h2, _, h3⟩; exact ⟨h2, h3⟩
  · rw [List.drop_of_length_le (l := s.data.toList) (by simp; omega)]
    constructor
    · intro h; simp at h
    · rintro ⟨_, h, _⟩; exact absurd h h1

theorem indexByte_mem (l : List UInt8) (c : UInt8) : 0 ≤ Lib.indexByte l c ↔ c ∈ l := by
  induction l with
  | nil => simp [Lib.indexByte]
  | cons b l ih =>
    have hge := Lib.indexByte_ge l c
    unfold Lib.indexByte
    by_cases h : (b == c) = true
    · rw [if_pos h]
      have := beq_iff_eq.1 h
      simp [this]
    · rw [if_neg h]
      have hne : ¬ c = b := fun e => h (by simp [e])
      by_cases h2 : (Lib.indexByte l c == -1) = true
      · rw [if_pos h2]
        have h3 : Lib.indexByte l c = -1 := beq_iff_eq.1 h2
        rw [h3] at ih
        simp only [List.mem_cons, hne, false_or]
        rw [← ih]
      · rw [if_neg h2]
        have h3 : ¬ Lib.indexByte l c = -1 := fun e => h2 (by simp [e])
        simp only [List.mem_cons, hne, false_or]
        rw [← ih]
        omega

theorem isS_mem (c : UInt8) : isS c = true ↔ c ∈ signsB.data.toList := by
  unfold isS
  rw [decide_eq_true_eq, indexByte_mem]

set_option maxHeartbeats 1000000 in
theorem tokenAt_two (s : ByteArray) (a : Nat) (ha : a < s.size) (hs : s.size ≤ 6000) (hL : isL s[a] = false) (hD : isD s[a] = false) (hE : hasEqL s a = true) (w : World) :
    Calls Try.prog 14 #[.string s, .int .i64 (a : Int)] w fun e w' => e = .returned (.tuple #[.int .i64 3, .int .i64 2]) ∧ w' = w := by
  have hl := refLetter_any s[a]
  rw [hL] at hl
  have HL := hide hl
  have hd := refDigit_any s[a]
  rw [hD] at hd
  have HD := hide hd
  obtain ⟨h1, hlt, h2⟩ := (hasEqL_iff s a ha).1 hE
  have b1 : ((s[a].toNat : Int) == 61) = true := beq_iff_eq.2 (by omega)
  have b2 : ((s[a + 1].toNat : Int) == 61) = true := beq_iff_eq.2 (by omega)
  clear hl hL hd hD h1 h2 hE
  go_enter Try.func14, Try.ntmps14
  go_wp2_with fail
  refine (HL.out _).mono ?_
  rintro e w' ⟨rfl, rfl⟩
  go_wp2_with fail
  refine (HD.out _).mono ?_
  rintro e w' ⟨rfl, rfl⟩
  go_wp2_with fail
  go_ret2
  exact ⟨rfl, rfl⟩

set_option maxHeartbeats 1000000 in
theorem tokenAt_rest (s : ByteArray) (a : Nat) (ha : a < s.size) (hs : s.size ≤ 6000) (hL : isL s[a] = false) (hD : isD s[a] = false) (hE : hasEqL s a = false) (kd ln : Int) (H3 : Hid (isS s[a] = true → kd = 3 ∧ ln = 1)) (H0 : Hid (isS s[a] = false → kd = 0 ∧ ln = 0)) (w : World) :
    Calls Try.prog 14 #[.string s, .int .i64 (a : Int)] w fun e w' => e = .returned (.tuple #[.int .i64 kd, .int .i64 ln]) ∧ w' = w := by
  have hl := refLetter_any s[a]
  rw [hL] at hl
  have HL := hide hl
  have hd := refDigit_any s[a]
  rw [hD] at hd
  have HD := hide hd
  clear hl hL hd hD
  go_enter Try.func14, Try.ntmps14
  go_wp2_with fail
  refine (HL.out _).mono ?_
  rintro e w' ⟨rfl, rfl⟩
  go_wp2_with fail
  refine (HD.out _).mono ?_
  rintro e w' ⟨rfl, rfl⟩
  clear HL HD
  obtain ⟨sg, hsg⟩ : ∃ sg, sg = signsB := ⟨_, rfl⟩
  have hsz : sg.size ≤ 13 := by rw [hsg]; decide
  have HSG := hide hsg
  clear hsg
  by_cases h1 : s[a].toNat = 61
  · have b1 : ((s[a].toNat : Int) == 61) = true := beq_iff_eq.2 (by omega)
    by_cases hlt : a + 1 < s.size
    · have hn : ¬ s[a + 1].toNat = 61 := fun h => by
        have := (hasEqL_iff s a ha).2 ⟨h1, hlt, h⟩
        rw [hE] at this
        cases this
      have b2 : ((s[a + 1].toNat : Int) == 61) = false := beq_eq_false_iff_ne.2 (by omega)
      clear hn h1 hE
      go_wp2_with fail
      rw [show (ByteArray.mk #[123, 125, 40, 41, 59, 58, 33, 44, 61, 43, 45, 42, 60]) = sg from HSG.out.symm]
      go_loop [9] (fun i => ∃ k : Nat, k ≤ sg.size ∧ i = .int .i64 k ∧ Hid (∀ j (h : j < sg.size), j < k → sg[j] ≠ s[a])) (fun i => sg.size - (intOf i).toNat)
      case atStart => exact ⟨0, Nat.zero_le _, rfl, fun j h h' => absurd h' (Nat.not_lt_zero _)⟩
      case round =>
        obtain ⟨k, hk, rfl, HN⟩ := hrel
        by_cases hkl : k < sg.size
        · by_cases hc : sg[k] = s[a]
          · have b3 : ((sg[k].toNat : Int) == (s[a].toNat : Int)) = true := beq_iff_eq.2 (by rw [hc])
            have hS : isS s[a] = true := (isS_mem _).2 (by rw [← HSG.out, ← hc]; exact List.getElem_mem (l := sg.data.toList) (by simpa using hkl))
            have HS := hide hS
            clear hc hS
            go_wp2_with fail
            go_ret2
            exact ⟨by obtain ⟨rfl, rfl⟩ := H3.out HS.out; rfl, rfl⟩
          · have b3 : ((sg[k].toNat : Int) == (s[a].toNat : Int)) = false := beq_eq_false_iff_ne.2 (fun h => hc ((byte_eq_iff _ _).2 (by omega)))
            have hN : ∀ j (h : j < sg.size), j < k + 1 → sg[j] ≠ s[a] := fun j h h' => by
              rcases Nat.lt_or_ge j k with h3 | h3
              · exact HN.out j h h3
              · obtain rfl : j = k := by omega
                exact hc
            have HN2 := hide hN
            clear hc hN HN
            go_wp2_with fail
            exact ⟨⟨k + 1, by omega, by go_num, HN2⟩, by simp [intOf]; omega⟩
        · have hS : isS s[a] = false := by
            rw [← Bool.not_eq_true, isS_mem]
            intro hm
            rw [← HSG.out] at hm
            obtain ⟨j, hj, he⟩ := List.getElem_of_mem hm
            exact HN.out j (by simpa using hj) (by simp at hj; omega) he
          have HS := hide hS
          clear hS HN
          go_wp2_with fail
          go_ret2
          exact ⟨by obtain ⟨rfl, rfl⟩ := H0.out HS.out; rfl, rfl⟩
    · clear h1 hE
      go_wp2_with fail
      rw [show (ByteArray.mk #[123, 125, 40, 41, 59, 58, 33, 44, 61, 43, 45, 42, 60]) = sg from HSG.out.symm]
      go_loop [9] (fun i => ∃ k : Nat, k ≤ sg.size ∧ i = .int .i64 k ∧ Hid (∀ j (h : j < sg.size), j < k → sg[j] ≠ s[a])) (fun i => sg.size - (intOf i).toNat)
      case atStart => exact ⟨0, Nat.zero_le _, rfl, fun j h h' => absurd h' (Nat.not_lt_zero _)⟩
      case round =>
        obtain ⟨k, hk, rfl, HN⟩ := hrel
        by_cases hkl : k < sg.size
        · by_cases hc : sg[k] = s[a]
          · have b3 : ((sg[k].toNat : Int) == (s[a].toNat : Int)) = true := beq_iff_eq.2 (by rw [hc])
            have hS : isS s[a] = true := (isS_mem _).2 (by rw [← HSG.out, ← hc]; exact List.getElem_mem (l := sg.data.toList) (by simpa using hkl))
            have HS := hide hS
            clear hc hS
            go_wp2_with fail
            go_ret2
            exact ⟨by obtain ⟨rfl, rfl⟩ := H3.out HS.out; rfl, rfl⟩
          · have b3 : ((sg[k].toNat : Int) == (s[a].toNat : Int)) = false := beq_eq_false_iff_ne.2 (fun h => hc ((byte_eq_iff _ _).2 (by omega)))
            have hN : ∀ j (h : j < sg.size), j < k + 1 → sg[j] ≠ s[a] := fun j h h' => by
              rcases Nat.lt_or_ge j k with h3 | h3
              · exact HN.out j h h3
              · obtain rfl : j = k := by omega
                exact hc
            have HN2 := hide hN
            clear hc hN HN
            go_wp2_with fail
            exact ⟨⟨k + 1, by omega, by go_num, HN2⟩, by simp [intOf]; omega⟩
        · have hS : isS s[a] = false := by
            rw [← Bool.not_eq_true, isS_mem]
            intro hm
            rw [← HSG.out] at hm
            obtain ⟨j, hj, he⟩ := List.getElem_of_mem hm
            exact HN.out j (by simpa using hj) (by simp at hj; omega) he
          have HS := hide hS
          clear hS HN
          go_wp2_with fail
          go_ret2
          exact ⟨by obtain ⟨rfl, rfl⟩ := H0.out HS.out; rfl, rfl⟩
  · have b1 : ((s[a].toNat : Int) == 61) = false := beq_eq_false_iff_ne.2 (by omega)
    clear h1 hE
    go_wp2_with fail
    rw [show (ByteArray.mk #[123, 125, 40, 41, 59, 58, 33, 44, 61, 43, 45, 42, 60]) = sg from HSG.out.symm]
    go_loop [9] (fun i => ∃ k : Nat, k ≤ sg.size ∧ i = .int .i64 k ∧ Hid (∀ j (h : j < sg.size), j < k → sg[j] ≠ s[a])) (fun i => sg.size - (intOf i).toNat)
    case atStart => exact ⟨0, Nat.zero_le _, rfl, fun j h h' => absurd h' (Nat.not_lt_zero _)⟩
    case round =>
      obtain ⟨k, hk, rfl, HN⟩ := hrel
      by_cases hkl : k < sg.size
      · by_cases hc : sg[k] = s[a]
        · have b3 : ((sg[k].toNat : Int) == (s[a].toNat : Int)) = true := beq_iff_eq.2 (by rw [hc])
          have hS : isS s[a] = true := (isS_mem _).2 (by rw [← HSG.out, ← hc]; exact List.getElem_mem (l := sg.data.toList) (by simpa using hkl))
          have HS := hide hS
          clear hc hS
          go_wp2_with fail
          go_ret2
          exact ⟨by obtain ⟨rfl, rfl⟩ := H3.out HS.out; rfl, rfl⟩
        · have b3 : ((sg[k].toNat : Int) == (s[a].toNat : Int)) = false := beq_eq_false_iff_ne.2 (fun h => hc ((byte_eq_iff _ _).2 (by omega)))
          have hN : ∀ j (h : j < sg.size), j < k + 1 → sg[j] ≠ s[a] := fun j h h' => by
            rcases Nat.lt_or_ge j k with h3 | h3
            · exact HN.out j h h3
            · obtain rfl : j = k := by omega
              exact hc
          have HN2 := hide hN
          clear hc hN HN
          go_wp2_with fail
          exact ⟨⟨k + 1, by omega, by go_num, HN2⟩, by simp [intOf]; omega⟩
      · have hS : isS s[a] = false := by
          rw [← Bool.not_eq_true, isS_mem]
          intro hm
          rw [← HSG.out] at hm
          obtain ⟨j, hj, he⟩ := List.getElem_of_mem hm
          exact HN.out j (by simpa using hj) (by simp at hj; omega) he
        have HS := hide hS
        clear hS HN
        go_wp2_with fail
        go_ret2
        exact ⟨by obtain ⟨rfl, rfl⟩ := H0.out HS.out; rfl, rfl⟩

/-- how long the token is; 0: none begins there. -/
def tokLen (s : ByteArray) (a : Nat) : Nat := (tokKN s a).2 - a

theorem tokenAt_any (s : ByteArray) (a : Nat) (ha : a < s.size) (hs : s.size ≤ 6000) (w : World) :
    Calls Try.prog 14 #[.string s, .int .i64 (a : Int)] w fun e w' => e = .returned (.tuple #[.int .i64 ((tokKN s a).1 : Int), .int .i64 (tokLen s a : Int)]) ∧ w' = w := by
  by_cases hL : isL s[a] = true
  · have hk : tokKN s a = (1, spanL isN s.data.toList a) := by simp [tokKN, ha, hL]
    unfold tokLen
    rw [hk]
    exact tokenAt_name s a ha hs hL w
  have hL' : isL s[a] = false := by simpa using hL
  by_cases hD : isD s[a] = true
  · have hk : tokKN s a = (2, spanL isD s.data.toList a) := by simp [tokKN, ha, hL', hD]
    unfold tokLen
    rw [hk]
    exact tokenAt_number s a ha hs hL' hD w
  have hD' : isD s[a] = false := by simpa using hD
  by_cases hE : hasEqL s a = true
  · have hk : tokKN s a = (3, a + 2) := by simp [tokKN, ha, hL', hD', hE]
    unfold tokLen
    rw [hk, Nat.add_sub_cancel_left]
    exact tokenAt_two s a ha hs hL' hD' hE w
  have hE' : hasEqL s a = false := by simpa using hE
  by_cases hS : isS s[a] = true
  · have hk : tokKN s a = (3, a + 1) := by simp [tokKN, ha, hL', hD', hE', hS]
    unfold tokLen
    rw [hk, Nat.add_sub_cancel_left]
    exact tokenAt_rest s a ha hs hL' hD' hE' 3 1 (fun _ => ⟨rfl, rfl⟩) (fun h => by rw [hS] at h; cases h) w
  · have hk : tokKN s a = (0, a) := by simp [tokKN, ha, hL', hD', hE', hS]
    unfold tokLen
    rw [hk, Nat.sub_self]
    exact tokenAt_rest s a ha hs hL' hD' hE' 0 0 (fun h => absurd h hS) (fun _ => ⟨rfl, rfl⟩) w
end Go.Proofs.Ytleaaflcnpmfdaa
